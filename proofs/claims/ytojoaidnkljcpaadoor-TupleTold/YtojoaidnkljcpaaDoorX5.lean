/- Several texts in one. -/
import Derived.Test.YtojoaidnkljcpaaDoorX1
import Derived.Test.YtojoaidnkljcpaaDoorX4
import Derived.Test.YtojoaidnkljcpaaDoorCD
import Derived.Test.YtojoaidnkljcpaaDoorW4
import Derived.Test.YtojoaidnkljcpaaDoorX3
import Derived.Test.YtojoaidnkljcpaaDoorX2
/- The document's optionBytes. -/
namespace Go.Proofs.YtojoaidnkljcpaaDoor
open Go.RowKit Go.Shelf
set_option maxRecDepth 100000
set_option linter.unusedVariables false
set_option linter.unusedSimpArgs false

theorem Rd.new1 (x : Int) (e : TypeId) (w : World) : Rd (w.heap.size + 1) (w.alloc (.cells #[.int .u8 x] e)) (.slice (some ⟨w.heap.size, 0, none⟩) 1 1) [x] := Rd.new [x] e w (by simp) (by simp)
theorem later_one (W : World) (x : Int) : Later W (W.alloc (.cells #[.int .u8 x] 5)) := (Below.refl _ _).alloc (Nat.le_refl _) _
theorem row_not {W : World} {k : Nat} {cur : Array Value} {t : TypeId} (h : W.heap[k]? = some (.cells cur t (0, 0))) (ht : t ≠ 5) {base size n : Nat} {v : Value} {xs : List Value} (hr : W.ownsRow base 5 size v n xs) : some k ≠ v.ownBlock := by
  rcases hr.2 with ⟨rfl, _⟩ | ⟨g, cap, cur', rfl, _, hgb, _⟩
  · simp [Value.ownBlock]
  · intro e'
    obtain rfl : k = g := by simpa [Value.ownBlock] using e'
    have := h.symm.trans hgb
    simp at this
    exact ht this.2
theorem wpList_rwk {ops : Array Oper} {rest : List Oper} {o : Oper} {a : Act} {Q : Exit → Act → World → Prop} (w : World) (hgd : o.guard = none) (s x : Operand)
    (ho : o.op = .call { callee := .builtin .append, args := #[s, x], argTypes := #[24, 24] }) {Wb : World} {v : Value} {ys : List Int} (hR : Rw Wb v ys w) (hs : a.eval s = v)
    (n₀ : Nat) (sx : Value) (zs : List Int) (hx : a.eval x = sx) (hI : Rd n₀ w sx zs) (hbd : ys.length + zs.length ≤ 140737488355328)
    {k : Nat} {cur : Array Value} {t : TypeId} (hk : w.heap[k]? = some (.cells cur t (0, 0))) (ht : t ≠ 5)
    (h : ∀ v' w', Rw Wb v' (ys ++ zs) w' → w'.heap[k]? = some (.cells cur t (0, 0)) → wpList Tryd.prog ops Q rest (a.put o.dst v') w') : wpList Tryd.prog ops Q (o :: rest) a w := by
  obtain ⟨i0, hi, hz0, hz1, hz2⟩ := info_parts info_u8
  exact wpList_app w hgd s x 24 ho Wb.heap.size 5 i0 Tryd.underlying24 hi hz0 hz1 hz2 v ys hs hR.1 n₀ sx zs hx hI hbd hR.2.size (fun v' w' h1 h2 => h v' w' ⟨h1, below_app hR.2 hR.1 h2 (Nat.le_refl _) hR.2.size⟩ ((h2.block k (Array.getElem?_eq_some_iff.1 hk).1 (row_not hk ht hR.1)).trans hk))
theorem obs_take (os : List Opt) (k : Nat) (h : k < os.length) : obs (os.take (k + 1)) = obs (os.take k) ++ ob1 (os[k]?.getD (0, [])) := by
  rw [List.take_add_one, obs_app]
  simp [h, obs]
theorem obs_mono (os : List Opt) (k : Nat) : (obs (os.take k)).length ≤ (obs os).length := by
  conv => rhs; rw [← List.take_append_drop k os, obs_app]
  simp
theorem not_ok {os : List Opt} {k : Nat} (h : k < os.length) (hb : ¬ okO (os[k]?.getD (0, []))) : ¬ obOk os := fun h0 => hb (h0.1 _ (by simp [h]))
def vpad (v : Value) : Nat := match v with | .slice _ n _ => padn n | _ => 0

set_option maxHeartbeats 8000000 in
theorem roptionBytes_any (sv : Value) (os : List Opt) (w : World) (hI : RdO w.heap.size w sv os) :
    Calls Tryd.prog 39 #[sv] w fun e w' => Below w.heap.size w w' ∧ ((¬ obOk os ∧ e = .returned (.tuple #[.slice none 0 0, .bool false])) ∨ (obOk os ∧ ∃ a c, e = .returned (.tuple #[.slice a (pad (obs os)).length c, .bool true]) ∧ Ow w.heap.size w' (.slice a (pad (obs os)).length c) (pad (obs os)))) := by
  obtain ⟨a, cap, rfl, hc1, hc2⟩ := hI.slice
  have hlb : (os.length : Int) ≤ 9223372036854775807 := by omega
  go_enter Tryd.func39, Tryd.ntmps39
  go_wp2
  go_loopw [4, 5] (fun v i wr => ∃ k : Nat, k ≤ os.length ∧ i = .int .i64 (k : Int) ∧ (∀ o ∈ os.take k, okO o) ∧ (obs (os.take k)).length ≤ 80 ∧ Rw w v (obs (os.take k)) wr) (fun _ i _ => os.length - (intOf i).toNat)
  case atStart => exact ⟨0, by omega, rfl, by simp, by simp [obs], Rw.nil (Later.refl _)⟩
  case round =>
    obtain ⟨k, hk, rfl, hok, h80, hR⟩ := hrel
    have HOK := hide hok
    clear hok
    obtain ⟨av, cv, rfl, hv1, hv2⟩ := hR.ow.slice
    by_cases hlt : k < os.length
    · have hlt' : (k : Int) < os.length := by omega
      by_cases h40 : (obs (os.take k)).length ≤ 40
      · have h40' : ((obs (os.take k)).length : Int) ≤ 40 := by omega
        obtain ⟨b, off, cp, e, _, _, hbb, hcs⟩ := hI.cells (by omega)
        simp at e
        obtain ⟨rfl, rfl⟩ := e
        obtain ⟨s, c0w, c1w, hRs⟩ := hcs k hlt
        have c0 := (hR.2.cell (p := ⟨b, off + k * 2, none⟩) hbb).trans c0w
        have c1 := (hR.2.cell (p := ⟨b, off + k * 2 + 1, none⟩) hbb).trans c1w
        clear c0w c1w
        obtain ⟨sa, sc, rfl, _, _⟩ := hRs.slice
        have HN := hide (not_ok (os := os) (k := k) hlt)
        have HM := hide (obs_mono os (k + 1))
        have HT := hide (obs_take os k hlt)
        have HTK : Hid (∀ o ∈ os.take (k + 1), o = os[k]?.getD (0, []) ∨ o ∈ os.take k) := by
          intro o ho
          rw [List.take_add_one] at ho
          rcases List.mem_append.1 ho with h | h
          · exact .inr h
          · left; simpa [hlt] using h
        clear hcs
        generalize hgo : os[k]?.getD (0, []) = o at *
        have HGO := hide hgo
        clear hgo
        obtain ⟨kd, dt⟩ := o
        dsimp only at c0 c1 hRs
        generalize hys : obs (os.take k) = ys at *
        have HYS := hide hys
        clear hys
        have lo : Later wr (wr.alloc (.cells #[.int .u8 kd, .slice sa dt.length sc] 100)) := (Below.refl _ _).alloc (Nat.le_refl _) _
        have o1 := heap_alloc_new wr (.cells #[.int .u8 kd, .slice sa dt.length sc] 100)
        have hR1 := hR.later lo
        have X2 := Rd.new1 kd 5 (wr.alloc (.cells #[.int .u8 kd, .slice sa dt.length sc] 100))
        rw [World.size_alloc] at X2
        have l2 := later_one (wr.alloc (.cells #[.int .u8 kd, .slice sa dt.length sc] 100)) kd
        have R2 := hR1.later l2
        have o2 := later_keep l2 o1
        clear o1 hR1
        by_cases k0 : kd = 0
        · subst k0
          clear X2 R2 o2 l2
          go_wp2_with fail
          exact bodyPost_ret (v := .tuple #[.slice none 0 0, .bool false]) (by simp [results, Tryd.results39, go_sem]) rfl ⟨hR.2.trans (lo.mono hR.2.size), .inl ⟨HN.out (fun h => h.1 rfl), rfl⟩⟩
        have e0 : (kd == 0) = false := by simp [k0]
        by_cases k1 : kd = 1
        · subst k1
          by_cases hd : 0 < dt.length
          · have hd' : (0 : Int) < dt.length := by omega
            clear X2 R2 o2 l2
            go_wp2_with fail
            exact bodyPost_ret (v := .tuple #[.slice none 0 0, .bool false]) (by simp [results, Tryd.results39, go_sem]) rfl ⟨hR.2.trans (lo.mono hR.2.size), .inl ⟨HN.out (fun h => by have := h.2 rfl; dsimp only at this; subst this; simp at hd), rfl⟩⟩
          · obtain rfl : dt = [] := List.length_eq_zero_iff.1 (by omega)
            simp only [List.length_nil] at X2 R2 o2 c1
            clear hd l2 lo
            have O2 := hide o2
            clear o2
            go_wp2_with (at_builtin; go_loud (refine wpList_rwk _ rfl (.tmp 42) (.tmp 45) rfl R2 rfl _ _ _ rfl X2 (by simp; omega) O2.out (by decide) ?_; intro v3 W3 R3 o3; refine Hid.out ?_))
            have oc := block_cell o3
            obtain ⟨a3, c3, rfl, _, _⟩ := R3.ow.slice
            show wpList _ _ _ _ _ _
            go_wp2_with fail
            go_roundw
            case rel => exact ⟨k + 1, by omega, by go_num, fun o ho => by (rcases HTK.out o ho with h | h); (· rw [h]; exact ⟨by show (1 : Int) ≠ 0; decide, fun _ => rfl⟩); exact HOK.out o h, by rw [HT.out, show ob1 (1, []) = [1] from rfl]; simp; omega, by rw [HT.out, show ob1 (1, []) = [1] from rfl]; exact R3⟩
            case measure => simp [intOf]; omega
        have e1 : (kd == 1) = false := by simp [k1]
        have e2 : (kd != 1) = true := by simp [k1]
        by_cases hd : 38 < dt.length
        · have hd' : (38 : Int) < dt.length := by omega
          clear X2 R2 o2 l2
          go_wp2_with fail
          exact bodyPost_ret (v := .tuple #[.slice none 0 0, .bool false]) (by simp [results, Tryd.results39, go_sem]) rfl ⟨hR.2.trans (lo.mono hR.2.size), .inl ⟨fun h0 => by have h3 := HM.out; rw [HT.out] at h3; have h4 := h0.2; have h5 := ob1_length (kd, dt); unfold osz at h5; rw [if_neg k1] at h5; rw [List.length_append, h5] at h3; dsimp only at h3; omega, rfl⟩⟩
        have hd' : ¬ (38 : Int) < dt.length := by omega
        have O2 := hide o2
        clear o2
        go_wp2_with (at_builtin; go_loud (refine wpList_rwk _ rfl (.tmp 42) (.tmp 45) rfl R2 rfl _ _ _ rfl X2 (by simp; omega) O2.out (by decide) ?_; intro v3 W3 R3 o3; refine Hid.out ?_))
        have oc := block_cell o3
        have l4 := later_one W3 (dt.length + 2)
        have R4 := R3.later l4
        have X4 := Rd.new1 (dt.length + 2) 5 W3
        have O4 := hide (later_keep l4 o3)
        show wpList _ _ _ _ _ _
        go_wp2_with (at_builtin; go_loud (refine wpList_rwk _ rfl (.tmp 50) (.tmp 56) rfl R4 rfl _ _ _ rfl X4 (by simp; omega) O4.out (by decide) ?_; intro v5 W5 R5 o5; refine Hid.out ?_))
        have oc5 := block_cell o5
        have X5 := hRs.below R5.2
        have O5 := hide o5
        clear oc o5
        show wpList _ _ _ _ _ _
        go_wp2_with (at_builtin; go_loud (refine wpList_rwk _ rfl (.tmp 58) (.tmp 60) rfl R5 rfl _ _ _ rfl X5 (by simp; omega) O5.out (by decide) ?_; intro v6 W6 R6 o6; refine Hid.out ?_))
        have hob : ys ++ [kd] ++ [(dt.length : Int) + 2] ++ dt = ys ++ ob1 (kd, dt) := by unfold ob1; rw [if_neg k1]; simp; omega
        rw [hob] at R6
        have hlob : (ob1 (kd, dt)).length ≤ 40 := by rw [ob1_length]; unfold osz; rw [if_neg k1]; dsimp only; omega
        clear hob oc5 O5
        generalize ob1 (kd, dt) = bb at *
        obtain ⟨a6, c6, rfl, _, _⟩ := R6.ow.slice
        show wpList _ _ _ _ _ _
        go_wp2_with fail
        go_roundw
        case rel => exact ⟨k + 1, by omega, by go_num, fun o ho => by (rcases HTK.out o ho with h | h); (· rw [h]; exact ⟨k0, fun h => absurd h k1⟩); exact HOK.out o h, by rw [HT.out]; simp; omega, by rw [HT.out]; exact R6⟩
        case measure => simp [intOf]; omega
      · have HNO : Hid (¬ obOk os) := fun h0 => by have := obs_mono os k; have := h0.2; omega
        generalize hys : obs (os.take k) = ys at *
        have h40' : (40 : Int) < ys.length := by omega
        clear hys
        go_wp2_with fail
        exact bodyPost_ret (v := .tuple #[.slice none 0 0, .bool false]) (by simp [results, Tryd.results39, go_sem]) rfl ⟨hR.2, .inl ⟨HNO.out, rfl⟩⟩
    · obtain rfl : k = os.length := by omega
      rw [List.take_length] at hR HOK h80 hv1
      rw [List.take_length]
      by_cases h40 : (obs os).length ≤ 40
      · have HO : Hid (obOk os) := ⟨HOK.out, h40⟩
        have h40' : ((obs os).length : Int) ≤ 40 := by omega
        clear hlt HOK
        have HR := hide hR
        clear hR
        generalize hn : (obs os).length = n at *
        have HNL := hide hn
        clear hn
        go_wp2_with fail
        clear hI
        go_loopw [4] (fun v wr => ∃ m : Nat, m ≤ padn n ∧ Rw w v (obs os ++ List.replicate m 0) wr) (fun v _ => vpad v)
        case atStart => exact ⟨0, Nat.zero_le _, by simpa using HR.out⟩
        case round =>
          obtain ⟨m, hm, hRm⟩ := hrel
          obtain ⟨am, cm, rfl, _, _⟩ := hRm.ow.slice
          have hln : (obs os ++ List.replicate m 0).length = n + m := by simp [HNL.out]
          have HLN := hide hln
          clear hln
          generalize hgl : (obs os ++ List.replicate m 0).length = L at *
          have hL : L = n + m := HLN.out
          clear HLN
          by_cases hd : L % 4 = 0
          · have t4 : ((L : Int).tmod 4 != 0) = false := by
              rw [Int.tmod_eq_emod_of_nonneg (by omega)]
              simp
              omega
            have t5 : ((L : Int) % 4 != 0) = false := by simp; omega
            have hme : m = padn n := by unfold padn at *; omega
            have HPD : Hid (obs os ++ List.replicate m 0 = pad (obs os)) := by show _ = _; unfold pad; rw [HNL.out, hme]
            have HGL := hide hgl
            clear hL hm hd hme hgl
            go_wp2_with fail
            exact bodyPost_ret (v := .tuple #[.slice am L cm, .bool true]) (by simp [results, Tryd.results39, go_sem]) rfl ⟨hRm.2, .inr ⟨HO.out, am, cm, by rw [← HPD.out, HGL.out], by rw [← HPD.out, HGL.out]; exact hRm.ow⟩⟩
          · have t4 : ((L : Int).tmod 4 != 0) = true := by
              rw [Int.tmod_eq_emod_of_nonneg (by omega)]
              simp
              omega
            have t5 : ((L : Int) % 4 != 0) = true := by simp; omega
            have hlt : m + 1 ≤ padn n := by unfold padn at *; omega
            have h44 : L ≤ 44 := by unfold padn at *; omega
            have HD := hide hd
            have HL := hide hL
            have HGL := hide hgl
            clear hd hL hgl
            have R2 := hRm.later (later_one wr 0)
            have X2 := Rd.new1 0 5 wr
            go_wp2_with (at_builtin; go_loud (refine wpList_rw _ rfl (.tmp 69) (.tmp 70) rfl R2 rfl _ _ _ rfl X2 (by rw [HGL.out]; simp; omega) ?_; intro v3 W3 R3; refine Hid.out ?_))
            have R4 : Rw w v3 (obs os ++ List.replicate (m + 1) 0) W3 := by rw [List.replicate_succ', ← List.append_assoc]; exact R3
            have hl4 : (obs os ++ List.replicate (m + 1) 0).length = L + 1 := by rw [HL.out]; simp [HNL.out]; omega
            clear R3
            obtain ⟨a4, c4, rfl, _, _⟩ := R4.ow.slice
            show wpList _ _ _ _ _ _
            go_wp2_with fail
            go_roundw
            case rel => exact ⟨m + 1, hlt, R4⟩
            case measure => simp only [vpad]; rw [hl4, HL.out] at *; have := HD.out; unfold padn at *; omega
      · have HNO : Hid (¬ obOk os) := fun h0 => h40 h0.2
        have h40' : (40 : Int) < (obs os).length := by omega
        clear hlt
        go_wp2_with fail
        exact bodyPost_ret (v := .tuple #[.slice none 0 0, .bool false]) (by simp [results, Tryd.results39, go_sem]) rfl ⟨hR.2, .inl ⟨HNO.out, rfl⟩⟩
end Go.Proofs.YtojoaidnkljcpaaDoor

/- The document's BuildTcp. -/
namespace Go.Proofs.YtojoaidnkljcpaaDoor
open Go.RowKit Go.Shelf
set_option maxRecDepth 100000
set_option linter.unusedVariables false
set_option linter.unusedSimpArgs false


theorem four_b4 (v : Int) (h : 0 ≤ v ∧ v ≤ 4294967295) : [v / 16777216, v / 65536 % 256, v / 256 % 256, v % 256] = b4 v := by
  unfold b4
  simp
  omega
theorem later_four (W : World) (x y z u : Int) : Later W (W.alloc (.cells #[.int .u8 x, .int .u8 y, .int .u8 z, .int .u8 u] 5)) := (Below.refl _ _).alloc (Nat.le_refl _) _

set_option maxHeartbeats 8000000 in
theorem rbuildTcp_any (tos id ttl proto src dst sp dp sq ak fl wn ur : Int) (keep : Bool) (so sO sm : Value) (ad : Option Addr) (ld cd : Nat) (zo zm : List Int) (os : List Opt) (w : World) (hIo : Rd w.heap.size w so zo) (hBm : Mt.By zm) (hIm : Rd w.heap.size w sm zm)
    (hBO : ByO os) (hIO : RdO w.heap.size w sO os) (h1 : zo.length ≤ 140737488355328) (h2 : zm.length ≤ 140737488355000) (hsr : 0 ≤ src ∧ src ≤ 4294967295) (hds : 0 ≤ dst ∧ dst ≤ 4294967295)
    (hsp : 0 ≤ sp ∧ sp ≤ 65535) (hdp : 0 ≤ dp ∧ dp ≤ 65535) (hsq : 0 ≤ sq ∧ sq ≤ 4294967295) (hak : 0 ≤ ak ∧ ak ≤ 4294967295) (hfl : 0 ≤ fl ∧ fl ≤ 255) (hwn : 0 ≤ wn ∧ wn ≤ 65535) (hur : 0 ≤ ur ∧ ur ≤ 65535) :
    Calls Tryd.prog 20 #[.agg #[.int .u8 tos, .int .u16 id, .bool keep, .int .u8 ttl, .int .u8 proto, .int .u32 src, .int .u32 dst, so, .slice ad ld cd], .agg #[.int .u16 sp, .int .u16 dp, .int .u32 sq, .int .u32 ak, .int .u8 fl, .int .u16 wn, .int .u16 ur, sO, sm]] w fun e w' => Below w.heap.size w w' ∧ (((bte os zo.length zm.length) ≠ 0 ∧ e = .returned (.tuple #[.agg #[.int .u8 0, .int .u16 0, .bool false, .int .u8 0, .int .u8 0, .int .u32 0, .int .u32 0, .slice none 0 0, .slice none 0 0], .int .i64 (bte os zo.length zm.length)])) ∨
      ((bte os zo.length zm.length) = 0 ∧ ∃ a7 c7 a8 c8, e = .returned (.tuple #[.agg #[.int .u8 tos, .int .u16 id, .bool keep, .int .u8 ttl, .int .u8 6, .int .u32 src, .int .u32 dst, .slice a7 zo.length c7, .slice a8 (20 + (pad (obs os)).length + zm.length) c8], .int .i64 0]) ∧ Ow w.heap.size w' (.slice a7 zo.length c7) zo ∧ Ow w.heap.size w' (.slice a8 (20 + (pad (obs os)).length + zm.length) c8) (tcp sp dp sq ak fl wn ur (pad (obs os)) src dst zm))) := by
  obtain ⟨ao, co, rfl, _, _⟩ := hIo.slice
  obtain ⟨am, cm, rfl, _, _⟩ := hIm.slice
  obtain ⟨aO, cO, rfl, _, _⟩ := hIO.slice
  have hb0 : Below w.heap.size w (((w.alloc (.cells #[.int .u8 tos, .int .u16 id, .bool keep, .int .u8 ttl, .int .u8 proto, .int .u32 src, .int .u32 dst, .slice ao zo.length co, .slice ad ld cd] 26)).alloc (.cells #[Value.int .u16 sp, .int .u16 dp, .int .u32 sq, .int .u32 ak, .int .u8 fl, .int .u16 wn, .int .u16 ur, .slice aO os.length cO, .slice am zm.length cm] 42)).alloc (.cells #[.int .u8 0, .int .u16 0, .bool false, .int .u8 0, .int .u8 0, .int .u32 0, .int .u32 0, .slice none 0 0, .slice none 0 0] 26)) := (((Below.refl _ _).alloc (Nat.le_refl _) _).alloc (by simp) _).alloc (by simp; omega) _
  have p0 : (((w.alloc (.cells #[.int .u8 tos, .int .u16 id, .bool keep, .int .u8 ttl, .int .u8 proto, .int .u32 src, .int .u32 dst, .slice ao zo.length co, .slice ad ld cd] 26)).alloc (.cells #[Value.int .u16 sp, .int .u16 dp, .int .u32 sq, .int .u32 ak, .int .u8 fl, .int .u16 wn, .int .u16 ur, .slice aO os.length cO, .slice am zm.length cm] 42)).alloc (.cells #[.int .u8 0, .int .u16 0, .bool false, .int .u8 0, .int .u8 0, .int .u32 0, .int .u32 0, .slice none 0 0, .slice none 0 0] 26)).heap[w.heap.size]? = some (.cells #[.int .u8 tos, .int .u16 id, .bool keep, .int .u8 ttl, .int .u8 proto, .int .u32 src, .int .u32 dst, .slice ao zo.length co, .slice ad ld cd] 26) := (Below.heap_alloc _ _ _ (by simp; omega)).trans ((Below.heap_alloc _ _ _ (by simp)).trans (heap_alloc_new w _))
  have m0 : (((w.alloc (.cells #[.int .u8 tos, .int .u16 id, .bool keep, .int .u8 ttl, .int .u8 proto, .int .u32 src, .int .u32 dst, .slice ao zo.length co, .slice ad ld cd] 26)).alloc (.cells #[Value.int .u16 sp, .int .u16 dp, .int .u32 sq, .int .u32 ak, .int .u8 fl, .int .u16 wn, .int .u16 ur, .slice aO os.length cO, .slice am zm.length cm] 42)).alloc (.cells #[.int .u8 0, .int .u16 0, .bool false, .int .u8 0, .int .u8 0, .int .u32 0, .int .u32 0, .slice none 0 0, .slice none 0 0] 26)).heap[w.heap.size + 1]? = some (.cells #[Value.int .u16 sp, .int .u16 dp, .int .u32 sq, .int .u32 ak, .int .u8 fl, .int .u16 wn, .int .u16 ur, .slice aO os.length cO, .slice am zm.length cm] 42) := by
    have := heap_alloc_new (w.alloc (.cells #[.int .u8 tos, .int .u16 id, .bool keep, .int .u8 ttl, .int .u8 proto, .int .u32 src, .int .u32 dst, .slice ao zo.length co, .slice ad ld cd] 26)) (.cells #[Value.int .u16 sp, .int .u16 dp, .int .u32 sq, .int .u32 ak, .int .u8 fl, .int .u16 wn, .int .u16 ur, .slice aO os.length cO, .slice am zm.length cm] 42)
    rw [World.size_alloc] at this
    exact (Below.heap_alloc _ _ _ (by simp)).trans this
  have r0 : (((w.alloc (.cells #[.int .u8 tos, .int .u16 id, .bool keep, .int .u8 ttl, .int .u8 proto, .int .u32 src, .int .u32 dst, .slice ao zo.length co, .slice ad ld cd] 26)).alloc (.cells #[Value.int .u16 sp, .int .u16 dp, .int .u32 sq, .int .u32 ak, .int .u8 fl, .int .u16 wn, .int .u16 ur, .slice aO os.length cO, .slice am zm.length cm] 42)).alloc (.cells #[.int .u8 0, .int .u16 0, .bool false, .int .u8 0, .int .u8 0, .int .u32 0, .int .u32 0, .slice none 0 0, .slice none 0 0] 26)).heap[w.heap.size + 1 + 1]? = some (.cells #[.int .u8 0, .int .u16 0, .bool false, .int .u8 0, .int .u8 0, .int .u32 0, .int .u32 0, .slice none 0 0, .slice none 0 0] 26 (0, 0)) := by
    have := heap_alloc_new ((w.alloc (.cells #[.int .u8 tos, .int .u16 id, .bool keep, .int .u8 ttl, .int .u8 proto, .int .u32 src, .int .u32 dst, .slice ao zo.length co, .slice ad ld cd] 26)).alloc (.cells #[Value.int .u16 sp, .int .u16 dp, .int .u32 sq, .int .u32 ak, .int .u8 fl, .int .u16 wn, .int .u16 ur, .slice aO os.length cO, .slice am zm.length cm] 42)) (.cells #[.int .u8 0, .int .u16 0, .bool false, .int .u8 0, .int .u8 0, .int .u32 0, .int .u32 0, .slice none 0 0, .slice none 0 0] 26)
    simpa using this
  have P0 := hide p0
  have M0 := hide m0
  have R0 := hide r0
  clear p0 m0 r0
  go_enter Tryd.func20, Tryd.ntmps20
  go_wp2_with fail
  generalize ((w.alloc (.cells #[.int .u8 tos, .int .u16 id, .bool keep, .int .u8 ttl, .int .u8 proto, .int .u32 src, .int .u32 dst, .slice ao zo.length co, .slice ad ld cd] 26)).alloc (.cells #[Value.int .u16 sp, .int .u16 dp, .int .u32 sq, .int .u32 ak, .int .u8 fl, .int .u16 wn, .int .u16 ur, .slice aO os.length cO, .slice am zm.length cm] 42)).alloc (.cells #[.int .u8 0, .int .u16 0, .bool false, .int .u8 0, .int .u8 0, .int .u32 0, .int .u32 0, .slice none 0 0, .slice none 0 0] 26) = w0 at *
  refine (roptionBytes_any _ os w0 ((hIO.below hb0).mono hb0.size)).mono ?_
  rintro e w2 ⟨hb1, ⟨hno, rfl⟩ | ⟨hok, a6, c6, rfl, hOO⟩⟩
  · have HF : Hid ((bte os zo.length zm.length) = 4) := if_neg hno
    have hw2 := hb0.trans (hb1.mono hb0.size)
    have r2 := later_keep hb1 R0.out
    clear hno
    have kX := block_cell r2
    have fX := block_frozen r2
    go_wp2_with fail
    generalize hV : ((((((((w2.setCell ⟨w.heap.size + 1 + 1, 0, none⟩ _).setCell ⟨w.heap.size + 1 + 1, 1, none⟩ _).setCell ⟨w.heap.size + 1 + 1, 2, none⟩ _).setCell ⟨w.heap.size + 1 + 1, 3, none⟩ _).setCell ⟨w.heap.size + 1 + 1, 4, none⟩ _).setCell ⟨w.heap.size + 1 + 1, 5, none⟩ _).setCell ⟨w.heap.size + 1 + 1, 6, none⟩ _).setCell ⟨w.heap.size + 1 + 1, 7, none⟩ _).setCell ⟨w.heap.size + 1 + 1, 8, none⟩ _ = V
    have hV8 : V = putRow w2 (w.heap.size + 1 + 1) 0 [.int .u8 0, .int .u16 0, .bool false, .int .u8 0, .int .u8 0, .int .u32 0, .int .u32 0, .slice none 0 0, .slice none 0 0] := hV.symm
    have hbV : But (fun b => b = w.heap.size + 1 + 1) w2 V := by rw [hV8]; exact putRow_rb _ _
    have pV := putRow_all [Value.int .u8 0, .int .u16 0, .bool false, .int .u8 0, .int .u8 0, .int .u32 0, .int .u32 0, .slice none 0 0, .slice none 0 0] r2 rfl
    rw [← hV8] at pV
    clear hV hV8 kX fX
    have PV := block_cell pV
    have hwV : Below w.heap.size w V := hw2.trans (hbV.below hw2.size (fun k hk e => by omega))
    exact bodyPost_ret (v := .tuple #[.agg #[.int .u8 0, .int .u16 0, .bool false, .int .u8 0, .int .u8 0, .int .u32 0, .int .u32 0, .slice none 0 0, .slice none 0 0], .int .i64 4]) (by simp [results, Tryd.results20, go_sem, PV]) rfl ⟨hwV, .inl ⟨by rw [HF.out]; decide, by rw [HF.out]⟩⟩
  · have HE : Hid ((bte os zo.length zm.length) = flt zo.length (20 + (pad (obs os)).length + zm.length)) := if_pos hok
    have hobl := pad_le (obs os) hok.2
    have hobB := By_pad _ (By_obs os hBO hok.2)
    have p2 := later_keep hb1 P0.out
    have m2 := later_keep hb1 M0.out
    have r2 := later_keep hb1 R0.out
    have hw2 := hb0.trans (hb1.mono hb0.size)
    have hob4 := pad_mod (obs os)
    have HOB := hide hobB
    clear hok hobB
    generalize hpd : pad (obs os) = ob at *
    have HPD := hide hpd
    clear hpd
    have hsr2 := (Array.getElem?_eq_some_iff.1 r2).1
    clear P0 M0 R0
    go_upto_region 5 with fail
    go_cut [8] (fun v wx => Rw w2 v ([sp, dp].flatMap b2) wx)
    case first =>
      refine anyT_begin (R := But (fun b => w2.heap.size ≤ b)) 10 rfl (by kernel_rfl) ?_
      have Q0 := (Rw.nil (Later.refl w2)).later (Later.drew w2)
      have md := Q0.block m2
      generalize w2.drew = Wd at *
      have ha : ∀ v1, But (fun b => w2.heap.size ≤ b) Wd v1 → ∀ i, v1.cell? ⟨w.heap.size + 1, i, none⟩ = #[Value.int .u16 sp, .int .u16 dp, .int .u32 sq, .int .u32 ak, .int .u8 fl, .int .u16 wn, .int .u16 ur, .slice aO os.length cO, .slice am zm.length cm][i]? := fun v1 h => block_cell ((h.block (w.heap.size + 1) (Array.getElem?_eq_some_iff.1 md).1 (by omega)).trans md)
      refine anyT_val (But.pre _) 0 rfl (by kernel_rfl) (by kernel_rfl) (by kernel_rfl) (fun _ _ _ _ h => h) rfl ?_; apply Exists.intro; refine ⟨fun v1 hv1 => ?_, ?_⟩; (· (go_simp; rfl)); simp only [Act.put, List.setIfInBounds_toArray, List.set_cons_zero, List.set_cons_succ]
      refine anyT_val (But.pre _) 1 rfl (by kernel_rfl) (by kernel_rfl) (by kernel_rfl) (fun _ _ _ _ h => h) rfl ?_; apply Exists.intro; refine ⟨fun v1 hv1 => ?_, ?_⟩; (· (go_simp; rfl)); simp only [Act.put, List.setIfInBounds_toArray, List.set_cons_zero, List.set_cons_succ]
      refine anyT_val (But.pre _) 2 rfl (by kernel_rfl) (by kernel_rfl) (by kernel_rfl) (fun _ _ _ _ h => h) rfl ?_; apply Exists.intro; refine ⟨fun v1 hv1 => ?_, ?_⟩; (· (go_simp; rfl)); simp only [Act.put, List.setIfInBounds_toArray, List.set_cons_zero, List.set_cons_succ]
      refine anyT_val (But.pre _) 5 rfl (by kernel_rfl) (by kernel_rfl) (by kernel_rfl) (fun _ _ _ _ h => h) rfl ?_; apply Exists.intro; refine ⟨fun v1 hv1 => ?_, ?_⟩; (· (go_simp; rfl)); simp only [Act.put, List.setIfInBounds_toArray, List.set_cons_zero, List.set_cons_succ]
      refine anyT_val (But.pre _) 6 rfl (by kernel_rfl) (by kernel_rfl) (by kernel_rfl) (fun _ _ _ _ h => h) rfl ?_; apply Exists.intro; refine ⟨fun v1 hv1 => ?_, ?_⟩; (· (go_simp; rfl)); simp only [Act.put, List.setIfInBounds_toArray, List.set_cons_zero, List.set_cons_succ]
      refine anyT_one 3 rfl (by kernel_rfl) rfl ?_
      refine wp_enter 38 #[.int .u16 sp] (by go_simp) ?_
      refine (two_any sp hsp Wd).mono ?_
      rintro e w4 ⟨rfl, rfl⟩
      have R4 := Q0.later (later_two Wd (sp / 256) (sp % 256))
      have X4 := Rd.new2 (sp / 256) (sp % 256) 5 Wd
      refine ⟨But.of (later_two Wd (sp / 256) (sp % 256)), ?_⟩
      simp only [Act.put, List.setIfInBounds_toArray, List.set_cons_zero, List.set_cons_succ]
      generalize Wd.alloc (.cells #[.int .u8 (sp / 256), .int .u8 (sp % 256)] 5) = W4 at *
      refine anyT_one 4 rfl (by kernel_rfl) rfl ?_
      obtain ⟨v5, W5, hrun5, R5, bt5⟩ := R4.app 24 _ _ _ X4 (by simp [b2, b4])
      refine wp_app (.tmp 20) (.tmp 23) 24 rfl _ _ rfl rfl _ W5 hrun5 ⟨bt5, ?_⟩
      simp only [Act.put, List.setIfInBounds_toArray, List.set_cons_zero, List.set_cons_succ]
      refine anyT_one 7 rfl (by kernel_rfl) rfl ?_
      refine wp_enter 38 #[.int .u16 dp] (by go_simp) ?_
      refine (two_any dp hdp W5).mono ?_
      rintro e w4 ⟨rfl, rfl⟩
      have R6 := R5.later (later_two W5 (dp / 256) (dp % 256))
      have X6 := Rd.new2 (dp / 256) (dp % 256) 5 W5
      refine ⟨But.of (later_two W5 (dp / 256) (dp % 256)), ?_⟩
      simp only [Act.put, List.setIfInBounds_toArray, List.set_cons_zero, List.set_cons_succ]
      generalize W5.alloc (.cells #[.int .u8 (dp / 256), .int .u8 (dp % 256)] 5) = W6 at *
      refine anyT_one 8 rfl (by kernel_rfl) rfl ?_
      obtain ⟨v7, W7, hrun7, R7, bt7⟩ := R6.app 24 _ _ _ X6 (by simp [b2, b4])
      refine wp_app (.tmp 24) (.tmp 27) 24 rfl _ _ rfl rfl _ W7 hrun7 ⟨bt7, ?_⟩
      simp only [Act.put, List.setIfInBounds_toArray, List.set_cons_zero, List.set_cons_succ]
      refine anyT_one 9 rfl (by kernel_rfl) rfl ?_
      unfold Oper.wp
      go_simp
      refine ⟨But.refl _ _, ?_⟩
      refine anyT_done (by kernel_rfl) ?_
      skip
      clear ha hrun5 hrun7
      go_wp2_with fail
      go_meet
      case rel => exact R7
    case rest =>
      have R3 : Rw w2 _ ([sp, dp].flatMap b2) wc := hcut
      clear hcut
      go_upto_region 6 with fail
      go_cut [8] (fun v wx => Rw w2 v ([sp, dp].flatMap b2 ++ [sq, ak].flatMap b4) wx)
      case first =>
        refine anyT_begin (R := But (fun b => w2.heap.size ≤ b)) 10 rfl (by kernel_rfl) ?_
        have Q0 := R3.later (Later.drew wc)
        have md := Q0.block m2
        generalize wc.drew = Wd at *
        have ha : ∀ v1, But (fun b => w2.heap.size ≤ b) Wd v1 → ∀ i, v1.cell? ⟨w.heap.size + 1, i, none⟩ = #[Value.int .u16 sp, .int .u16 dp, .int .u32 sq, .int .u32 ak, .int .u8 fl, .int .u16 wn, .int .u16 ur, .slice aO os.length cO, .slice am zm.length cm][i]? := fun v1 h => block_cell ((h.block (w.heap.size + 1) (Array.getElem?_eq_some_iff.1 md).1 (by omega)).trans md)
        refine anyT_val (But.pre _) 0 rfl (by kernel_rfl) (by kernel_rfl) (by kernel_rfl) (fun _ _ _ _ h => h) rfl ?_; apply Exists.intro; refine ⟨fun v1 hv1 => ?_, ?_⟩; (· (go_simp; rfl)); simp only [Act.put, List.setIfInBounds_toArray, List.set_cons_zero, List.set_cons_succ]
        refine anyT_val (But.pre _) 1 rfl (by kernel_rfl) (by kernel_rfl) (by kernel_rfl) (fun _ _ _ _ h => h) rfl ?_; apply Exists.intro; refine ⟨fun v1 hv1 => ?_, ?_⟩; (· (go_simp; rfl)); simp only [Act.put, List.setIfInBounds_toArray, List.set_cons_zero, List.set_cons_succ]
        refine anyT_val (But.pre _) 2 rfl (by kernel_rfl) (by kernel_rfl) (by kernel_rfl) (fun _ _ _ _ h => h) rfl ?_; apply Exists.intro; refine ⟨fun v1 hv1 => ?_, ?_⟩; (· (go_simp; rfl)); simp only [Act.put, List.setIfInBounds_toArray, List.set_cons_zero, List.set_cons_succ]
        refine anyT_val (But.pre _) 5 rfl (by kernel_rfl) (by kernel_rfl) (by kernel_rfl) (fun _ _ _ _ h => h) rfl ?_; apply Exists.intro; refine ⟨fun v1 hv1 => ?_, ?_⟩; (· (go_simp; rfl)); simp only [Act.put, List.setIfInBounds_toArray, List.set_cons_zero, List.set_cons_succ]
        refine anyT_val (But.pre _) 6 rfl (by kernel_rfl) (by kernel_rfl) (by kernel_rfl) (fun _ _ _ _ h => h) rfl ?_; apply Exists.intro; refine ⟨fun v1 hv1 => ?_, ?_⟩; (· (go_simp; rfl)); simp only [Act.put, List.setIfInBounds_toArray, List.set_cons_zero, List.set_cons_succ]
        refine anyT_one 3 rfl (by kernel_rfl) rfl ?_
        refine wp_enter 37 #[.int .u32 sq] (by go_simp) ?_
        refine (four_any sq hsq Wd).mono ?_
        rintro e w4 ⟨rfl, rfl⟩
        have R4 := Q0.later (later_four Wd (sq / 16777216) (sq / 65536 % 256) (sq / 256 % 256) (sq % 256))
        have X4 := Rd.new4 (sq / 16777216) (sq / 65536 % 256) (sq / 256 % 256) (sq % 256) 5 Wd
        refine ⟨But.of (later_four Wd (sq / 16777216) (sq / 65536 % 256) (sq / 256 % 256) (sq % 256)), ?_⟩
        simp only [Act.put, List.setIfInBounds_toArray, List.set_cons_zero, List.set_cons_succ]
        generalize Wd.alloc (.cells #[.int .u8 (sq / 16777216), .int .u8 (sq / 65536 % 256), .int .u8 (sq / 256 % 256), .int .u8 (sq % 256)] 5) = W4 at *
        refine anyT_one 4 rfl (by kernel_rfl) rfl ?_
        obtain ⟨v5, W5, hrun5, R5, bt5⟩ := R4.app 24 _ _ _ X4 (by simp [b2, b4])
        refine wp_app (.tmp 29) (.tmp 32) 24 rfl _ _ rfl rfl _ W5 hrun5 ⟨bt5, ?_⟩
        simp only [Act.put, List.setIfInBounds_toArray, List.set_cons_zero, List.set_cons_succ]
        refine anyT_one 7 rfl (by kernel_rfl) rfl ?_
        refine wp_enter 37 #[.int .u32 ak] (by go_simp) ?_
        refine (four_any ak hak W5).mono ?_
        rintro e w4 ⟨rfl, rfl⟩
        have R6 := R5.later (later_four W5 (ak / 16777216) (ak / 65536 % 256) (ak / 256 % 256) (ak % 256))
        have X6 := Rd.new4 (ak / 16777216) (ak / 65536 % 256) (ak / 256 % 256) (ak % 256) 5 W5
        refine ⟨But.of (later_four W5 (ak / 16777216) (ak / 65536 % 256) (ak / 256 % 256) (ak % 256)), ?_⟩
        simp only [Act.put, List.setIfInBounds_toArray, List.set_cons_zero, List.set_cons_succ]
        generalize W5.alloc (.cells #[.int .u8 (ak / 16777216), .int .u8 (ak / 65536 % 256), .int .u8 (ak / 256 % 256), .int .u8 (ak % 256)] 5) = W6 at *
        refine anyT_one 8 rfl (by kernel_rfl) rfl ?_
        obtain ⟨v7, W7, hrun7, R7, bt7⟩ := R6.app 24 _ _ _ X6 (by simp [b2, b4])
        refine wp_app (.tmp 33) (.tmp 36) 24 rfl _ _ rfl rfl _ W7 hrun7 ⟨bt7, ?_⟩
        simp only [Act.put, List.setIfInBounds_toArray, List.set_cons_zero, List.set_cons_succ]
        refine anyT_one 9 rfl (by kernel_rfl) rfl ?_
        unfold Oper.wp
        go_simp
        refine ⟨But.refl _ _, ?_⟩
        refine anyT_done (by kernel_rfl) ?_
        rw [four_b4 sq hsq, four_b4 ak hak, List.append_assoc, show b4 sq ++ b4 ak = [sq, ak].flatMap b4 from by simp] at R7
        clear ha hrun5 hrun7
        go_wp2_with fail
        go_meet
        case rel => exact R7
      case rest =>
        have R8 : Rw w2 _ ([sp, dp].flatMap b2 ++ [sq, ak].flatMap b4) wc := hcut
        clear hcut R3
        generalize hys : [sp, dp].flatMap b2 ++ [sq, ak].flatMap b4 = ys8 at *
        have hyl : ys8.length = 12 := by rw [← hys]; simp [b2, b4]
        have HYS := hide hys
        have HYL := hide hyl
        clear hys hyl
        have mc := block_cell (R8.block m2)
        have hol : (ob.length : Int) ≤ 40 := by omega
        have hq : (20 + (ob.length : Int)).tdiv 4 = (20 + ob.length) / 4 := Int.tdiv_eq_ediv_of_nonneg (by omega)
        have R9 := R8.later (later_two wc ((20 + ob.length) / 4 * 16) fl)
        have X9 := Rd.new2 ((20 + (ob.length : Int)) / 4 * 16) fl 5 wc
        go_wp2_with (at_builtin; go_loud (refine wpList_rw _ rfl (.tmp 38) (.tmp 47) rfl R9 rfl _ _ _ rfl X9 (by rw [HYL.out]; simp) ?_; intro v10 W10 R10; refine Hid.out ?_))
        have m10 := block_cell (R10.block m2)
        clear mc R8 R9 X9
        show wpList _ _ _ _ _ _
        go_wp2_with fail
        refine (two_any wn hwn W10).mono ?_
        rintro e w4 ⟨rfl, rfl⟩
        have R11 := R10.later (later_two W10 (wn / 256) (wn % 256))
        have X11 := Rd.new2 (wn / 256) (wn % 256) 5 W10
        clear m10 R10
        generalize W10.alloc (.cells #[.int .u8 (wn / 256), .int .u8 (wn % 256)] 5) = W11 at *
        generalize some (⟨W10.heap.size, 0, none⟩ : Addr) = a11 at *
        go_wp2_with (at_builtin; go_loud (refine wpList_rw _ rfl (.tmp 49) (.tmp 52) rfl R11 rfl _ _ _ rfl X11 (by simp only [List.length_append]; rw [HYL.out]; simp) ?_; intro v12 W12 R12; refine Hid.out ?_))
        have R13 := R12.later (later_two W12 0 0)
        have X13 := Rd.new2 0 0 5 W12
        show wpList _ _ _ _ _ _
        go_wp2_with (at_builtin; go_loud (refine wpList_rw _ rfl (.tmp 53) (.tmp 54) rfl R13 rfl _ _ _ rfl X13 (by simp only [List.length_append]; rw [HYL.out]; simp) ?_; intro v14 W14 R14; refine Hid.out ?_))
        have m14 := block_cell (R14.block m2)
        clear R11 X11 R12 R13 X13
        show wpList _ _ _ _ _ _
        go_wp2_with fail
        refine (two_any ur hur W14).mono ?_
        rintro e w4 ⟨rfl, rfl⟩
        have R15 := R14.later (later_two W14 (ur / 256) (ur % 256))
        have X15 := Rd.new2 (ur / 256) (ur % 256) 5 W14
        clear m14 R14
        generalize W14.alloc (.cells #[.int .u8 (ur / 256), .int .u8 (ur % 256)] 5) = W15 at *
        generalize some (⟨W14.heap.size, 0, none⟩ : Addr) = a15 at *
        go_wp2_with (at_builtin; go_loud (refine wpList_rw _ rfl (.tmp 56) (.tmp 59) rfl R15 rfl _ _ _ rfl X15 (by simp only [List.length_append]; rw [HYL.out]; simp) ?_; intro v16 W16 R16; refine Hid.out ?_))
        have X16 := hOO.rd.below R16.2
        show wpList _ _ _ _ _ _
        go_wp2_with (at_builtin; go_loud (refine wpList_rw _ rfl (.tmp 60) (.tmp 61) rfl R16 rfl _ _ _ rfl X16 (by simp only [List.length_append]; rw [HYL.out]; simp; omega) ?_; intro v17 W17 R17; refine Hid.out ?_))
        have m17 := block_cell (R17.block m2)
        have X17 : Rd w.heap.size W17 (.slice am zm.length cm) zm := hIm.below (hw2.trans (R17.2.mono hw2.size))
        clear R15 X15 R16 X16
        show wpList _ _ _ _ _ _
        go_wp2_with (at_builtin; go_loud (refine wpList_rw _ rfl (.tmp 63) (.tmp 65) rfl R17 rfl _ _ _ rfl X17 (by simp only [List.length_append]; rw [HYL.out]; simp; omega) ?_; intro v18 W18 R18; refine Hid.out ?_))
        have hlist : ys8 ++ [(20 + (ob.length : Int)) / 4 * 16, fl] ++ [wn / 256, wn % 256] ++ [0, 0] ++ [ur / 256, ur % 256] ++ ob ++ zm = tcp0 sp dp sq ak fl wn ur ob zm := by rw [← HYS.out]; simp [tcp0, b2, b4]
        rw [hlist] at R18
        have p18 := R18.block p2
        have r18 := R18.block r2
        have PP := block_cell p18
        have hO18 := R18.ow
        have hw18 := hw2.trans (R18.2.mono hw2.size)
        have hBt := By_tcp0 sp dp sq ak fl wn ur ob zm hsp hdp hsq hak hfl hwn hur hobl HOB.out hBm
        have HLT := hide (tcp0_length sp dp sq ak fl wn ur ob zm)
        have HLC := hide (tcp_length sp dp sq ak fl wn ur ob src dst zm)
        have HUD : Hid (putAt2 (tcp0 sp dp sq ak fl wn ur ob zm) 16 (Mt.cks (psd src dst 6 (tcp0 sp dp sq ak fl wn ur ob zm).length ++ tcp0 sp dp sq ak fl wn ur ob zm)) = tcp sp dp sq ak fl wn ur ob src dst zm) := by show _ = _; unfold putAt2 tcp; rw [if_pos (by rw [HLT.out]; omega), HLT.out]; rfl
        clear m17 X17 R17 R18 hlist HYS HYL p2 m2 r2 hOO hq
        generalize tcp0 sp dp sq ak fl wn ur ob zm = bb at *
        obtain ⟨a18, c18, rfl, _, _⟩ := hO18.slice
        show wpList _ _ _ _ _ _
        go_wp2_with fail
        refine (rwith_any tos id ttl proto src dst 6 keep _ _ ad ld cd zo [] W18 ((hIo.below hw18).mono hw18.size) (rd_zero W18) h1 (by simp)).mono ?_
        rintro e W19 ⟨hb19, ⟨hf, rfl⟩ | ⟨hf, a7, c7, a8, c8, rfl, hO1, hD1⟩⟩
        · obtain ⟨f4, f4'⟩ := flt_none zo.length hf (20 + ob.length + zm.length)
          have HF := hide (HE.out.trans f4')
          rw [show ([] : List Int).length = 0 from rfl, f4]
          clear f4 f4' hf HE PP
          have lq : Later W19 (W19.alloc (.cells #[.int .u8 0, .int .u16 0, .bool false, .int .u8 0, .int .u8 0, .int .u32 0, .int .u32 0, .slice none 0 0, .slice none 0 0] 26)) := (Below.refl _ _).alloc (Nat.le_refl _) _
          have l19 := Later.trans hb19 lq
          have r20 := later_keep l19 r18
          have hw20 := hw18.trans (l19.mono hw18.size)
          have kX := block_cell r20
          have fX := block_frozen r20
          go_wp2_with fail
          generalize W19.alloc (.cells #[.int .u8 0, .int .u16 0, .bool false, .int .u8 0, .int .u8 0, .int .u32 0, .int .u32 0, .slice none 0 0, .slice none 0 0] 26) = W20 at *
          generalize hV : ((((((((W20.setCell ⟨w.heap.size + 1 + 1, 0, none⟩ _).setCell ⟨w.heap.size + 1 + 1, 1, none⟩ _).setCell ⟨w.heap.size + 1 + 1, 2, none⟩ _).setCell ⟨w.heap.size + 1 + 1, 3, none⟩ _).setCell ⟨w.heap.size + 1 + 1, 4, none⟩ _).setCell ⟨w.heap.size + 1 + 1, 5, none⟩ _).setCell ⟨w.heap.size + 1 + 1, 6, none⟩ _).setCell ⟨w.heap.size + 1 + 1, 7, none⟩ _).setCell ⟨w.heap.size + 1 + 1, 8, none⟩ _ = V
          have hV8 : V = putRow W20 (w.heap.size + 1 + 1) 0 [.int .u8 0, .int .u16 0, .bool false, .int .u8 0, .int .u8 0, .int .u32 0, .int .u32 0, .slice none 0 0, .slice none 0 0] := hV.symm
          have hbV : But (fun b => b = w.heap.size + 1 + 1) W20 V := by rw [hV8]; exact putRow_rb _ _
          have pV := putRow_all [Value.int .u8 0, .int .u16 0, .bool false, .int .u8 0, .int .u8 0, .int .u32 0, .int .u32 0, .slice none 0 0, .slice none 0 0] r20 rfl
          rw [← hV8] at pV
          clear hV hV8 kX fX
          have PV := block_cell pV
          have hwV : Below w.heap.size w V := hw20.trans (hbV.below hw20.size (fun k hk e => by omega))
          exact bodyPost_ret (v := .tuple #[.agg #[.int .u8 0, .int .u16 0, .bool false, .int .u8 0, .int .u8 0, .int .u32 0, .int .u32 0, .slice none 0 0, .slice none 0 0], .int .i64 4]) (by simp [results, Tryd.results20, go_sem, PV]) rfl ⟨hwV, .inl ⟨by rw [HF.out]; decide, by rw [HF.out]⟩⟩
        · have f0 := HE.out.trans (flt_some zo.length hf (20 + ob.length + zm.length))
          have HE0 := HE
          clear hf HE PP
          rw [show ([] : List Int).length = 0 from rfl] at *
          have lq : Later W19 (W19.alloc (.cells #[.int .u8 tos, .int .u16 id, .bool keep, .int .u8 ttl, .int .u8 6, .int .u32 src, .int .u32 dst, .slice a7 zo.length c7, .slice a8 0 c8] 26)) := (Below.refl _ _).alloc (Nat.le_refl _) _
          have l19 := Later.trans hb19 lq
          have r20 := later_keep l19 r18
          have p20 := later_keep l19 p18
          have hO20 := hO18.later l19
          have hw20 := hw18.trans (l19.mono hw18.size)
          have PP := block_cell p20
          have hbl : (bb.length : Int) = 20 + ob.length + zm.length := by have := HLT.out; omega
          by_cases c3 : 65535 < 20 + zo.length + (20 + ob.length + zm.length)
          · have t3 : (65535 : Int) < 20 + zo.length + bb.length := by omega
            rw [if_pos c3] at f0
            have HF := hide f0
            have hbm : bb.length ≤ 140737488355400 := by omega
            clear f0 c3 hbl
            have kX := block_cell r20
            have fX := block_frozen r20
            go_wp2_with fail
            generalize W19.alloc (.cells #[.int .u8 tos, .int .u16 id, .bool keep, .int .u8 ttl, .int .u8 6, .int .u32 src, .int .u32 dst, .slice a7 zo.length c7, .slice a8 0 c8] 26) = W20 at *
            generalize hV : ((((((((W20.setCell ⟨w.heap.size + 1 + 1, 0, none⟩ _).setCell ⟨w.heap.size + 1 + 1, 1, none⟩ _).setCell ⟨w.heap.size + 1 + 1, 2, none⟩ _).setCell ⟨w.heap.size + 1 + 1, 3, none⟩ _).setCell ⟨w.heap.size + 1 + 1, 4, none⟩ _).setCell ⟨w.heap.size + 1 + 1, 5, none⟩ _).setCell ⟨w.heap.size + 1 + 1, 6, none⟩ _).setCell ⟨w.heap.size + 1 + 1, 7, none⟩ _).setCell ⟨w.heap.size + 1 + 1, 8, none⟩ _ = V
            have hV8 : V = putRow W20 (w.heap.size + 1 + 1) 0 [.int .u8 0, .int .u16 0, .bool false, .int .u8 0, .int .u8 0, .int .u32 0, .int .u32 0, .slice none 0 0, .slice none 0 0] := hV.symm
            have hbV : But (fun b => b = w.heap.size + 1 + 1) W20 V := by rw [hV8]; exact putRow_rb _ _
            have pV := putRow_all [Value.int .u8 0, .int .u16 0, .bool false, .int .u8 0, .int .u8 0, .int .u32 0, .int .u32 0, .slice none 0 0, .slice none 0 0] r20 rfl
            rw [← hV8] at pV
            clear hV hV8 kX fX
            have PV := block_cell pV
            have hwV : Below w.heap.size w V := hw20.trans (hbV.below hw20.size (fun k hk e => by omega))
            exact bodyPost_ret (v := .tuple #[.agg #[.int .u8 0, .int .u16 0, .bool false, .int .u8 0, .int .u8 0, .int .u32 0, .int .u32 0, .slice none 0 0, .slice none 0 0], .int .i64 8]) (by simp [results, Tryd.results20, go_sem, PV]) rfl ⟨hwV, .inl ⟨by rw [HF.out]; decide, by rw [HF.out]⟩⟩
          · have t3 : ¬ (65535 : Int) < 20 + zo.length + bb.length := by omega
            rw [if_neg c3] at f0
            have HF := hide f0
            have HE2 : Hid (flt zo.length (20 + ob.length + zm.length) = 0) := HE0.out.symm.trans f0
            have hz : bb.length ≤ 65535 := by omega
            clear f0 hbl
            go_wp2_with fail
            clear PP lq l19
            generalize W19.alloc (.cells #[.int .u8 tos, .int .u16 id, .bool keep, .int .u8 ttl, .int .u8 6, .int .u32 src, .int .u32 dst, .slice a7 zo.length c7, .slice a8 0 c8] 26) = W20 at *
            refine (rsum3_any tos id ttl proto src dst 6 keep _ _ _ bb W20 hBt hO20.rd (by omega) (by omega) hsr hds).mono ?_
            rintro e W21 ⟨rfl, hb21⟩
            have hcb := Mt.cks_bd (psd src dst 6 bb.length ++ bb)
            generalize Mt.cks (psd src dst 6 bb.length ++ bb) = c at *
            go_wp2_with fail
            refine (rput16_any _ bb 16 c (by omega) (by omega) W21 (hO20.later hb21).rd hcb).mono ?_
            rintro e W22 ⟨rv, rfl, hO22, hb22⟩
            rw [HUD.out] at hO22
            obtain ⟨a22, c22, rfl, _, _⟩ := hO22.slice
            have l22 : Later W20 W22 := Later.trans hb21 hb22
            have PP := block_cell (later_keep l22 p20)
            go_wp2_with fail
            have rn := later_keep l22 r20
            have hwn' := hw20.trans (l22.mono hw20.size)
            refine (rwith_any tos id ttl proto src dst 6 keep _ _ ad ld cd zo (tcp sp dp sq ak fl wn ur ob src dst zm) W22 ((hIo.below hwn').mono hwn'.size) hO22.rd h1 (by rw [HLC.out]; omega)).mono ?_
            rw [HLC.out, show flt zo.length (20 + ob.length + zm.length) = 0 from HE2.out]
            rintro e WX ⟨hbX, ⟨hx, _⟩ | ⟨_, a9, c9, ad9, cd9, rfl, hO9, hD9⟩⟩
            case inl => exact absurd rfl hx
            have rX := later_keep hbX rn
            have hwX := hwn'.trans (hbX.mono hwn'.size)
            clear PP
            have kX := block_cell rX
            have fX := block_frozen rX
            go_wp2_with fail
            generalize hV : ((((((((WX.setCell ⟨w.heap.size + 1 + 1, 0, none⟩ _).setCell ⟨w.heap.size + 1 + 1, 1, none⟩ _).setCell ⟨w.heap.size + 1 + 1, 2, none⟩ _).setCell ⟨w.heap.size + 1 + 1, 3, none⟩ _).setCell ⟨w.heap.size + 1 + 1, 4, none⟩ _).setCell ⟨w.heap.size + 1 + 1, 5, none⟩ _).setCell ⟨w.heap.size + 1 + 1, 6, none⟩ _).setCell ⟨w.heap.size + 1 + 1, 7, none⟩ _).setCell ⟨w.heap.size + 1 + 1, 8, none⟩ _ = V
            have hV8 : V = putRow WX (w.heap.size + 1 + 1) 0 [.int .u8 tos, .int .u16 id, .bool keep, .int .u8 ttl, .int .u8 6, .int .u32 src, .int .u32 dst, .slice a9 zo.length c9, .slice ad9 (20 + ob.length + zm.length) cd9] := hV.symm
            have hbV : But (fun b => b = w.heap.size + 1 + 1) WX V := by rw [hV8]; exact putRow_rb _ _
            have pV := putRow_all [Value.int .u8 tos, .int .u16 id, .bool keep, .int .u8 ttl, .int .u8 6, .int .u32 src, .int .u32 dst, .slice a9 zo.length c9, .slice ad9 (20 + ob.length + zm.length) cd9] rX rfl
            rw [← hV8] at pV
            clear hV hV8 kX fX
            have PV := block_cell pV
            have hwV : Below w.heap.size w V := hwX.trans (hbV.below hwX.size (fun k hk e => by omega))
            exact bodyPost_ret (v := .tuple #[.agg #[.int .u8 tos, .int .u16 id, .bool keep, .int .u8 ttl, .int .u8 6, .int .u32 src, .int .u32 dst, .slice a9 zo.length c9, .slice ad9 (20 + ob.length + zm.length) cd9], .int .i64 0]) (by simp [results, Tryd.results20, go_sem, PV]) rfl ⟨hwV, .inr ⟨HF.out, a9, c9, ad9, cd9, by rw [HPD.out], (hO9.apart rX (by decide) hbV).mono hwn'.size, by rw [HPD.out]; exact (hD9.apart rX (by decide) hbV).mono hwn'.size⟩⟩
end Go.Proofs.YtojoaidnkljcpaaDoor

/- The document's BuildGre. -/
namespace Go.Proofs.YtojoaidnkljcpaaDoor
open Go.RowKit Go.Shelf
set_option maxRecDepth 100000
set_option linter.unusedVariables false
set_option linter.unusedSimpArgs false

/-- A byte of a row stored anew. -/
theorem row_set {W : World} {base : Nat} {v : Value} {ys : List Int} (h : W.ownsRow base 5 1 v ys.length (ys.map (Value.int .u8))) (j : Nat) (hj : j < ys.length) (z : Int) :
    ∃ g cap, v = .slice (some ⟨g, 0, none⟩) ys.length cap ∧ base ≤ g ∧ W.cell? ⟨g, j, none⟩ = some (.int .u8 (ys[j]?.getD 0)) ∧ W.frozen? ⟨g, j, none⟩ = false ∧ (W.setCell ⟨g, j, none⟩ (.int .u8 z)).ownsRow base 5 1 v (ys.set j z).length ((ys.set j z).map (Value.int .u8)) := by
  have hO := Ow.of_row h
  obtain ⟨hn, hr⟩ := h
  rcases hr with ⟨rfl, hn0⟩ | ⟨g, cap, cur, rfl, hg, hh, h1, h2, h3, h4⟩
  · omega
  · obtain ⟨g', e', _, _, hcf, _⟩ := hO.at (by omega)
    simp at e'
    subst e'
    refine ⟨g, cap, rfl, hg, (hcf j hj).1, (hcf j hj).2, by simp, .inr ⟨g, cap, _, by simp, hg, heap_set1 hh j (.int .u8 z), by simpa using h1, h2, by simpa using h3, ?_⟩⟩
    rw [Array.toList_setIfInBounds, List.length_set, List.take_set, h4, List.map_set]

set_option maxHeartbeats 8000000 in
theorem rbuildGre_any (tos id ttl proto src dst cl sq ak : Int) (keep hs ha : Bool) (so sm : Value) (ad : Option Addr) (ld cd : Nat) (zo zd : List Int) (w : World) (hIo : Rd w.heap.size w so zo) (hBd : Mt.By zd) (hIm : Rd w.heap.size w sm zd)
    (h1 : zo.length ≤ 140737488355328) (h2 : 16 + zd.length ≤ 140737488355328) (hcl : 0 ≤ cl ∧ cl ≤ 65535) (hsq : 0 ≤ sq ∧ sq ≤ 4294967295) (hak : 0 ≤ ak ∧ ak ≤ 4294967295) (hg : grf hs ha sq ak = false) :
    Calls Tryd.prog 23 #[.agg #[.int .u8 tos, .int .u16 id, .bool keep, .int .u8 ttl, .int .u8 proto, .int .u32 src, .int .u32 dst, so, .slice ad ld cd], .agg #[.int .u16 cl, .bool hs, .bool ha, .int .u32 sq, .int .u32 ak, sm]] w fun e w' => Below w.heap.size w w' ∧ ((flt zo.length (grn hs ha zd.length) ≠ 0 ∧ e = .returned (.tuple #[.agg #[.int .u8 0, .int .u16 0, .bool false, .int .u8 0, .int .u8 0, .int .u32 0, .int .u32 0, .slice none 0 0, .slice none 0 0], .int .i64 (flt zo.length (grn hs ha zd.length))])) ∨
      (flt zo.length (grn hs ha zd.length) = 0 ∧ ∃ a7 c7 a8 c8, e = .returned (.tuple #[.agg #[.int .u8 tos, .int .u16 id, .bool keep, .int .u8 ttl, .int .u8 47, .int .u32 src, .int .u32 dst, .slice a7 zo.length c7, .slice a8 (grn hs ha zd.length) c8], .int .i64 0]) ∧ Ow w.heap.size w' (.slice a7 zo.length c7) zo ∧ Ow w.heap.size w' (.slice a8 (grn hs ha zd.length) c8) (grb cl hs ha sq ak zd))) := by
  obtain ⟨ao, co, rfl, _, _⟩ := hIo.slice
  obtain ⟨am, cm, rfl, _, _⟩ := hIm.slice
  have hb0 : Below w.heap.size w (((w.alloc (.cells #[.int .u8 tos, .int .u16 id, .bool keep, .int .u8 ttl, .int .u8 proto, .int .u32 src, .int .u32 dst, .slice ao zo.length co, .slice ad ld cd] 26)).alloc (.cells #[.int .u16 cl, .bool hs, .bool ha, .int .u32 sq, .int .u32 ak, .slice am zd.length cm] 52)).alloc (.cells #[.int .u8 0, .int .u16 0, .bool false, .int .u8 0, .int .u8 0, .int .u32 0, .int .u32 0, .slice none 0 0, .slice none 0 0] 26)) := (((Below.refl _ _).alloc (Nat.le_refl _) _).alloc (by simp) _).alloc (by simp; omega) _
  have p0 : (((w.alloc (.cells #[.int .u8 tos, .int .u16 id, .bool keep, .int .u8 ttl, .int .u8 proto, .int .u32 src, .int .u32 dst, .slice ao zo.length co, .slice ad ld cd] 26)).alloc (.cells #[.int .u16 cl, .bool hs, .bool ha, .int .u32 sq, .int .u32 ak, .slice am zd.length cm] 52)).alloc (.cells #[.int .u8 0, .int .u16 0, .bool false, .int .u8 0, .int .u8 0, .int .u32 0, .int .u32 0, .slice none 0 0, .slice none 0 0] 26)).heap[w.heap.size]? = some (.cells #[.int .u8 tos, .int .u16 id, .bool keep, .int .u8 ttl, .int .u8 proto, .int .u32 src, .int .u32 dst, .slice ao zo.length co, .slice ad ld cd] 26) := (Below.heap_alloc _ _ _ (by simp; omega)).trans ((Below.heap_alloc _ _ _ (by simp)).trans (heap_alloc_new w _))
  have m0 : (((w.alloc (.cells #[.int .u8 tos, .int .u16 id, .bool keep, .int .u8 ttl, .int .u8 proto, .int .u32 src, .int .u32 dst, .slice ao zo.length co, .slice ad ld cd] 26)).alloc (.cells #[.int .u16 cl, .bool hs, .bool ha, .int .u32 sq, .int .u32 ak, .slice am zd.length cm] 52)).alloc (.cells #[.int .u8 0, .int .u16 0, .bool false, .int .u8 0, .int .u8 0, .int .u32 0, .int .u32 0, .slice none 0 0, .slice none 0 0] 26)).heap[w.heap.size + 1]? = some (.cells #[.int .u16 cl, .bool hs, .bool ha, .int .u32 sq, .int .u32 ak, .slice am zd.length cm] 52) := by
    have := heap_alloc_new (w.alloc (.cells #[.int .u8 tos, .int .u16 id, .bool keep, .int .u8 ttl, .int .u8 proto, .int .u32 src, .int .u32 dst, .slice ao zo.length co, .slice ad ld cd] 26)) (.cells #[.int .u16 cl, .bool hs, .bool ha, .int .u32 sq, .int .u32 ak, .slice am zd.length cm] 52)
    rw [World.size_alloc] at this
    exact (Below.heap_alloc _ _ _ (by simp)).trans this
  have r0 : (((w.alloc (.cells #[.int .u8 tos, .int .u16 id, .bool keep, .int .u8 ttl, .int .u8 proto, .int .u32 src, .int .u32 dst, .slice ao zo.length co, .slice ad ld cd] 26)).alloc (.cells #[.int .u16 cl, .bool hs, .bool ha, .int .u32 sq, .int .u32 ak, .slice am zd.length cm] 52)).alloc (.cells #[.int .u8 0, .int .u16 0, .bool false, .int .u8 0, .int .u8 0, .int .u32 0, .int .u32 0, .slice none 0 0, .slice none 0 0] 26)).heap[w.heap.size + 1 + 1]? = some (.cells #[.int .u8 0, .int .u16 0, .bool false, .int .u8 0, .int .u8 0, .int .u32 0, .int .u32 0, .slice none 0 0, .slice none 0 0] 26 (0, 0)) := by
    have := heap_alloc_new ((w.alloc (.cells #[.int .u8 tos, .int .u16 id, .bool keep, .int .u8 ttl, .int .u8 proto, .int .u32 src, .int .u32 dst, .slice ao zo.length co, .slice ad ld cd] 26)).alloc (.cells #[.int .u16 cl, .bool hs, .bool ha, .int .u32 sq, .int .u32 ak, .slice am zd.length cm] 52)) (.cells #[.int .u8 0, .int .u16 0, .bool false, .int .u8 0, .int .u8 0, .int .u32 0, .int .u32 0, .slice none 0 0, .slice none 0 0] 26)
    simpa using this
  have P0 := hide p0
  have M0 := hide m0
  have R0 := hide r0
  clear p0 m0 r0
  obtain ⟨gn, HGN⟩ : ∃ gn, Hid (grn hs ha zd.length = gn) := ⟨_, rfl⟩
  go_enter Tryd.func23, Tryd.ntmps23
  go_upto_region 1 with fail
  go_cut [26] (fun z wx => z = .bool false ∧ wx = ((w.alloc (.cells #[.int .u8 tos, .int .u16 id, .bool keep, .int .u8 ttl, .int .u8 proto, .int .u32 src, .int .u32 dst, .slice ao zo.length co, .slice ad ld cd] 26)).alloc (.cells #[.int .u16 cl, .bool hs, .bool ha, .int .u32 sq, .int .u32 ak, .slice am zd.length cm] 52)).alloc (.cells #[.int .u8 0, .int .u16 0, .bool false, .int .u8 0, .int .u8 0, .int .u32 0, .int .u32 0, .slice none 0 0, .slice none 0 0] 26))
  case first =>
    cases hs
    · have hq : (sq != 0) = false := by simp [grf] at hg; simp [hg.1]
      cases ha
      · have hk : (ak != 0) = false := by simp [grf] at hg; simp [hg.2]
        clear hg
        go_wp2_with fail
        go_meet
        case rel => exact ⟨rfl, rfl⟩
      · clear hg
        go_wp2_with fail
        go_meet
        case rel => exact ⟨rfl, rfl⟩
    · cases ha
      · have hk : (ak != 0) = false := by simp [grf] at hg; simp [hg]
        clear hg
        go_wp2_with fail
        go_meet
        case rel => exact ⟨rfl, rfl⟩
      · clear hg
        go_wp2_with fail
        go_meet
        case rel => exact ⟨rfl, rfl⟩
  case rest =>
  obtain ⟨rfl, rfl⟩ := hcut
  clear hg
  go_wp2_with fail
  generalize ((w.alloc (.cells #[.int .u8 tos, .int .u16 id, .bool keep, .int .u8 ttl, .int .u8 proto, .int .u32 src, .int .u32 dst, .slice ao zo.length co, .slice ad ld cd] 26)).alloc (.cells #[.int .u16 cl, .bool hs, .bool ha, .int .u32 sq, .int .u32 ak, .slice am zd.length cm] 52)).alloc (.cells #[.int .u8 0, .int .u16 0, .bool false, .int .u8 0, .int .u8 0, .int .u32 0, .int .u32 0, .slice none 0 0, .slice none 0 0] 26) = w0 at *
  refine (rwith_any tos id ttl proto src dst 47 keep _ _ ad ld cd zo [] w0 ((hIo.below hb0).mono hb0.size) (rd_zero w0) h1 (by simp)).mono ?_
  rintro e w1 ⟨hb1, ⟨hf, rfl⟩ | ⟨hf, a7, c7, a8, c8, rfl, hO1, hD1⟩⟩
  · obtain ⟨f4, f4'⟩ := flt_none zo.length hf gn
    rw [show ([] : List Int).length = 0 from rfl, f4]
    have HF := hide f4'
    clear f4 f4' hf
    have l2 : Later w1 (w1.alloc (.cells #[.int .u8 0, .int .u16 0, .bool false, .int .u8 0, .int .u8 0, .int .u32 0, .int .u32 0, .slice none 0 0, .slice none 0 0] 26)) := (Below.refl _ _).alloc (Nat.le_refl _) _
    have l02 := Later.trans hb1 l2
    have r2 := (l02.block (w.heap.size + 1 + 1) (Array.getElem?_eq_some_iff.1 R0.out).1).trans R0.out
    have hw2 := hb0.trans (l02.mono hb0.size)
    have RR := block_cell r2
    have FF := block_frozen r2
    go_wp2_with fail
    generalize w1.alloc (.cells #[.int .u8 0, .int .u16 0, .bool false, .int .u8 0, .int .u8 0, .int .u32 0, .int .u32 0, .slice none 0 0, .slice none 0 0] 26) = w2 at *
    generalize hV : ((((((((w2.setCell ⟨w.heap.size + 1 + 1, 0, none⟩ _).setCell ⟨w.heap.size + 1 + 1, 1, none⟩ _).setCell ⟨w.heap.size + 1 + 1, 2, none⟩ _).setCell ⟨w.heap.size + 1 + 1, 3, none⟩ _).setCell ⟨w.heap.size + 1 + 1, 4, none⟩ _).setCell ⟨w.heap.size + 1 + 1, 5, none⟩ _).setCell ⟨w.heap.size + 1 + 1, 6, none⟩ _).setCell ⟨w.heap.size + 1 + 1, 7, none⟩ _).setCell ⟨w.heap.size + 1 + 1, 8, none⟩ _ = V8
    have hV9 : V8 = putRow w2 (w.heap.size + 1 + 1) 0 [Value.int .u8 0, .int .u16 0, .bool false, .int .u8 0, .int .u8 0, .int .u32 0, .int .u32 0, .slice none 0 0, .slice none 0 0] := hV.symm
    have hb8 : But (fun b => b = w.heap.size + 1 + 1) w2 V8 := by rw [hV9]; exact putRow_but (E := fun b => b = w.heap.size + 1 + 1) (n := w.heap.size + 1 + 1) rfl _ _ _ _ (But.refl _ _)
    have p8 := putRow_all [Value.int .u8 0, .int .u16 0, .bool false, .int .u8 0, .int .u8 0, .int .u32 0, .int .u32 0, .slice none 0 0, .slice none 0 0] r2 rfl
    rw [← hV9] at p8
    clear hV hV9
    have P8 := block_cell p8
    have hw8 : Below w.heap.size w V8 := (hw2).trans (hb8.below (hw2).size (fun k h e => by omega))
    exact bodyPost_ret (v := .tuple #[.agg #[.int .u8 0, .int .u16 0, .bool false, .int .u8 0, .int .u8 0, .int .u32 0, .int .u32 0, .slice none 0 0, .slice none 0 0], .int .i64 4]) (by simp [results, Tryd.results23, go_sem, P8]) rfl (⟨hw8, .inl ⟨by rw [HGN.out, HF.out]; decide, by rw [HGN.out, HF.out]⟩⟩)
  · have f0 := flt_some zo.length hf gn
    clear hf
    have F0 := hide f0
    clear f0
    have l2 : Later w1 (w1.alloc (.cells #[.int .u8 tos, .int .u16 id, .bool keep, .int .u8 ttl, .int .u8 47, .int .u32 src, .int .u32 dst, .slice a7 zo.length c7, .slice a8 ([] : List Int).length c8] 26)) := (Below.refl _ _).alloc (Nat.le_refl _) _
    have l02 := Later.trans hb1 l2
    have p2 := (l02.block w.heap.size (Array.getElem?_eq_some_iff.1 P0.out).1).trans P0.out
    have m2 := (l02.block (w.heap.size + 1) (Array.getElem?_eq_some_iff.1 M0.out).1).trans M0.out
    have r2 := (l02.block (w.heap.size + 1 + 1) (Array.getElem?_eq_some_iff.1 R0.out).1).trans R0.out
    have hw2 := hb0.trans (l02.mono hb0.size)
    rw [show ([] : List Int).length = 0 from rfl] at *
    go_upto_region 7 with fail
    have hs2 : (w1.alloc (.cells #[.int .u8 tos, .int .u16 id, .bool keep, .int .u8 ttl, .int .u8 47, .int .u32 src, .int .u32 dst, .slice a7 zo.length c7, .slice a8 0 c8] 26)).heap.size = w1.heap.size + 1 := by simp
    generalize w1.alloc (.cells #[.int .u8 tos, .int .u16 id, .bool keep, .int .u8 ttl, .int .u8 47, .int .u32 src, .int .u32 dst, .slice a7 zo.length c7, .slice a8 0 c8] 26) = w2 at *
    have own3 := own_four w2 32 1 136 11
    have l3 : Later w2 (w2.alloc (.cells #[.int .u8 32, .int .u8 1, .int .u8 136, .int .u8 11] 5)) := (Below.refl _ _).alloc (Nat.le_refl _) _
    have hw3 := hw2.trans (l3.mono hw2.size)
    have p3 := (l3.block w.heap.size (Array.getElem?_eq_some_iff.1 p2).1).trans p2
    have m3 := (l3.block (w.heap.size + 1) (Array.getElem?_eq_some_iff.1 m2).1).trans m2
    have r3 := (l3.block (w.heap.size + 1 + 1) (Array.getElem?_eq_some_iff.1 r2).1).trans r2
    clear l02 p2 m2 hw2
    rw [hs2] at own3
    have hsr := (Array.getElem?_eq_some_iff.1 r2).1
    rw [hs2] at hsr
    have hz3 : w1.heap.size + 1 ≤ (w2.alloc (.cells #[.int .u8 32, .int .u8 1, .int .u8 136, .int .u8 11] 5)).heap.size := by have := l3.size; omega
    generalize w2.alloc (.cells #[.int .u8 32, .int .u8 1, .int .u8 136, .int .u8 11] 5) = w3 at *
    have hnb : 0 ≤ ((zd.length : Int) % 65536) ∧ ((zd.length : Int) % 65536) ≤ 65535 := by omega
    obtain ⟨y8, HY8⟩ : ∃ y8 : List Int, Hid (([32, 1, 136, 11] : List Int) ++ [((zd.length : Int) % 65536) / 256, ((zd.length : Int) % 65536) % 256] ++ [cl / 256, cl % 256] = y8) := ⟨_, rfl⟩
    go_cut [8] (fun v wx => wx.ownsRow (w1.heap.size + 1) 5 1 v y8.length (y8.map (Value.int .u8)) ∧ Below (w1.heap.size + 1) w3 wx)
    case first =>
      refine anyT_begin (R := But (fun b => w1.heap.size + 1 ≤ b)) 12 rfl (by kernel_rfl) ?_
      have hd : Later w3 w3.drew := Later.drew w3
      have ownd := row_below own3 hd (Nat.le_refl _)
      have bd : Below (w1.heap.size + 1) w3 w3.drew := hd.mono hz3
      have hz_Wd : w1.heap.size + 1 ≤ w3.drew.heap.size := hz3
      obtain ⟨i0, hi, hz0, hz1, hz2⟩ := info_parts info_u8
      generalize w3.drew = Wd at *
      have ham : ∀ v1, But (fun b => w1.heap.size + 1 ≤ b) Wd v1 → ∀ i, v1.cell? ⟨w.heap.size + 1, i, none⟩ = #[Value.int .u16 cl, .bool hs, .bool ha, .int .u32 sq, .int .u32 ak, .slice am zd.length cm][i]? := fun v1 h => block_cell ((((But.of hd).trans h).block (w.heap.size + 1) (Array.getElem?_eq_some_iff.1 m3).1 (by omega)).trans m3)
      refine anyT_val (But.pre _) 0 rfl (by kernel_rfl) (by kernel_rfl) (by kernel_rfl) (fun _ _ _ _ h => h) rfl ?_; apply Exists.intro; refine ⟨fun v1 hv1 => ?_, ?_⟩; (· (go_simp; rfl)); simp only [Act.put, List.setIfInBounds_toArray, List.set_cons_zero, List.set_cons_succ]
      refine anyT_val (But.pre _) 1 rfl (by kernel_rfl) (by kernel_rfl) (by kernel_rfl) (fun _ _ _ _ h => h) rfl ?_; apply Exists.intro; refine ⟨fun v1 hv1 => ?_, ?_⟩; (· (go_simp; rfl)); simp only [Act.put, List.setIfInBounds_toArray, List.set_cons_zero, List.set_cons_succ]
      refine anyT_val (But.pre _) 2 rfl (by kernel_rfl) (by kernel_rfl) (by kernel_rfl) (fun _ _ _ _ h => h) rfl ?_; apply Exists.intro; refine ⟨fun v1 hv1 => ?_, ?_⟩; (· (go_simp; rfl)); simp only [Act.put, List.setIfInBounds_toArray, List.set_cons_zero, List.set_cons_succ]
      refine anyT_val (But.pre _) 3 rfl (by kernel_rfl) (by kernel_rfl) (by kernel_rfl) (fun _ _ _ _ h => h) rfl ?_; apply Exists.intro; refine ⟨fun v1 hv1 => ?_, ?_⟩; (· (go_simp; rfl)); simp only [Act.put, List.setIfInBounds_toArray, List.set_cons_zero, List.set_cons_succ]
      have HW16 : Hid (IntKind.u16.wrap (zd.length : Int) = ((zd.length : Int) % 65536)) := by show _ = _; simp [IntKind.wrap, IntKind.bits, IntKind.signed]
      refine anyT_val (But.pre _) 4 rfl (by kernel_rfl) (by kernel_rfl) (by kernel_rfl) (fun _ _ _ _ h => h) rfl ⟨.int .u16 ((zd.length : Int) % 65536), fun v1 hv1 => by go_simp; exact HW16.out, ?_⟩
      simp only [Act.put, List.setIfInBounds_toArray, List.set_cons_zero, List.set_cons_succ]
      refine anyT_val (But.pre _) 7 rfl (by kernel_rfl) (by kernel_rfl) (by kernel_rfl) (fun _ _ _ _ h => h) rfl ?_; apply Exists.intro; refine ⟨fun v1 hv1 => ?_, ?_⟩; (· (go_simp; rfl)); simp only [Act.put, List.setIfInBounds_toArray, List.set_cons_zero, List.set_cons_succ]
      refine anyT_val (But.pre _) 8 rfl (by kernel_rfl) (by kernel_rfl) (by kernel_rfl) (fun _ _ _ _ h => h) rfl ?_; apply Exists.intro; refine ⟨fun v1 hv1 => ?_, ?_⟩; (· (go_simp; rfl)); simp only [Act.put, List.setIfInBounds_toArray, List.set_cons_zero, List.set_cons_succ]
      refine anyT_one 5 rfl (by kernel_rfl) rfl ?_
      refine wp_enter 38 #[.int .u16 ((zd.length : Int) % 65536)] (by go_simp) ?_
      refine (two_any ((zd.length : Int) % 65536) hnb Wd).mono ?_
      rintro e w4 ⟨rfl, rfl⟩
      have lX1 : Later Wd (Wd.alloc (.cells #[.int .u8 (((zd.length : Int) % 65536) / 256), .int .u8 (((zd.length : Int) % 65536) % 256)] 5)) := (Below.refl _ _).alloc (Nat.le_refl _) _
      have RX1 := Rd.new2 (((zd.length : Int) % 65536) / 256) (((zd.length : Int) % 65536) % 256) 5 Wd
      have ownX1 := row_below ownd lX1 (Nat.le_refl _)
      have bX1 := bd.trans (lX1.mono hz_Wd)
      have hz_X1 : w1.heap.size + 1 ≤ (Wd.alloc (.cells #[.int .u8 (((zd.length : Int) % 65536) / 256), .int .u8 (((zd.length : Int) % 65536) % 256)] 5)).heap.size := Nat.le_trans hz_Wd lX1.size
      refine ⟨But.of lX1, ?_⟩
      simp only [Act.put, List.setIfInBounds_toArray, List.set_cons_zero, List.set_cons_succ]
      generalize Wd.alloc (.cells #[.int .u8 (((zd.length : Int) % 65536) / 256), .int .u8 (((zd.length : Int) % 65536) % 256)] 5) = X1 at *
      refine anyT_one 6 rfl (by kernel_rfl) rfl ?_
      obtain ⟨vX2, X2, hrunX2, ownX2, hgrX2⟩ := run_app (P := Tryd.prog) X1 24 24 5 (w1.heap.size + 1) i0 Tryd.underlying24 hi hz0 hz1 hz2 _ _ ownX1 _ _ [((zd.length : Int) % 65536) / 256, ((zd.length : Int) % 65536) % 256] RX1 (by simp) hz_X1
      have bX2 := below_app bX1 ownX1 hgrX2 (Nat.le_refl _) hz_X1
      have btX2 : But (fun b => w1.heap.size + 1 ≤ b) X1 X2 := but_app ownX1 hgrX2
      have hz_X2 : w1.heap.size + 1 ≤ X2.heap.size := Nat.le_trans hz_X1 btX2.size
      clear hgrX2
      refine wp_app (.tmp 38) (.tmp 43) 24 rfl _ _ rfl rfl _ X2 hrunX2 ⟨btX2, ?_⟩
      simp only [Act.put, List.setIfInBounds_toArray, List.set_cons_zero, List.set_cons_succ]
      refine anyT_one 9 rfl (by kernel_rfl) rfl ?_
      refine wp_enter 38 #[.int .u16 cl] (by go_simp) ?_
      refine (two_any cl hcl X2).mono ?_
      rintro e w4 ⟨rfl, rfl⟩
      have lX3 : Later X2 (X2.alloc (.cells #[.int .u8 (cl / 256), .int .u8 (cl % 256)] 5)) := (Below.refl _ _).alloc (Nat.le_refl _) _
      have RX3 := Rd.new2 (cl / 256) (cl % 256) 5 X2
      have ownX3 := row_below ownX2 lX3 (Nat.le_refl _)
      have bX3 := bX2.trans (lX3.mono hz_X2)
      have hz_X3 : w1.heap.size + 1 ≤ (X2.alloc (.cells #[.int .u8 (cl / 256), .int .u8 (cl % 256)] 5)).heap.size := Nat.le_trans hz_X2 lX3.size
      refine ⟨But.of lX3, ?_⟩
      simp only [Act.put, List.setIfInBounds_toArray, List.set_cons_zero, List.set_cons_succ]
      generalize X2.alloc (.cells #[.int .u8 (cl / 256), .int .u8 (cl % 256)] 5) = X3 at *
      refine anyT_one 10 rfl (by kernel_rfl) rfl ?_
      obtain ⟨vX4, X4, hrunX4, ownX4, hgrX4⟩ := run_app (P := Tryd.prog) X3 24 24 5 (w1.heap.size + 1) i0 Tryd.underlying24 hi hz0 hz1 hz2 _ _ ownX3 _ _ [cl / 256, cl % 256] RX3 (by simp) hz_X3
      have bX4 := below_app bX3 ownX3 hgrX4 (Nat.le_refl _) hz_X3
      have btX4 : But (fun b => w1.heap.size + 1 ≤ b) X3 X4 := but_app ownX3 hgrX4
      have hz_X4 : w1.heap.size + 1 ≤ X4.heap.size := Nat.le_trans hz_X3 btX4.size
      clear hgrX4
      refine wp_app (.tmp 44) (.tmp 47) 24 rfl _ _ rfl rfl _ X4 hrunX4 ⟨btX4, ?_⟩
      simp only [Act.put, List.setIfInBounds_toArray, List.set_cons_zero, List.set_cons_succ]
      refine anyT_one 11 rfl (by kernel_rfl) rfl ?_
      unfold Oper.wp
      go_simp
      refine ⟨But.refl _ _, ?_⟩
      refine anyT_done (by kernel_rfl) ?_
      rw [HY8.out] at ownX4
      go_wp2_with fail
      go_meet
      case rel => exact ⟨ownX4, bX4⟩
    case rest =>
      obtain ⟨own8, bc8⟩ := hcut
      obtain ⟨i0, hi, hz0, hz1, hz2⟩ := info_parts info_u8
      have hy8 : Hid (y8.length = 8) := by show _ = _; rw [← HY8.out]; rfl
      obtain ⟨g8, cp8, rfl, hgb8, c8, f8, ownS8⟩ := row_set own8 0 (by have := hy8.out; omega) 48
      have i8 : (0 : Int) < y8.length := by have := hy8.out; omega
      have i8' : 0 < y8.length := by have := hy8.out; omega
      have m8 := (bc8.block (w.heap.size + 1) (by omega)).trans m3
      have M8 := block_cell m8
      obtain ⟨y9, HY9⟩ : ∃ y : List Int, Hid ((if hs then y8.set 0 48 ++ [sq / 16777216, sq / 65536 % 256, sq / 256 % 256, sq % 256] else y8) = y) := ⟨_, rfl⟩
      have hy9 : Hid (y9.length = 8 + 0 + (if hs then 4 else 0)) := by show _ = _; rw [← HY9.out]; have := hy8.out; cases hs <;> simp <;> omega
      go_upto_if 50 with fail
      go_cut [8] (fun v wx => wx.ownsRow (w1.heap.size + 1) 5 1 v y9.length (y9.map (Value.int .u8)) ∧ Below (w1.heap.size + 1) w3 wx)
      case first =>
        cases hs
        · have hy : y9 = y8 := HY9.out.symm
          go_wp2_with fail
          go_meet
          case rel => exact ⟨by rw [hy]; exact own8, bc8⟩
        · have hy : y9 = y8.set 0 48 ++ [sq / 16777216, sq / 65536 % 256, sq / 256 % 256, sq % 256] := HY9.out.symm
          have b5 : Below (w1.heap.size + 1) w3 (wc.setCell ⟨g8, 0, none⟩ (.int .u8 48)) := bc8.setCell (p := ⟨g8, 0, none⟩) hgb8 _
          have m5 := (b5.block (w.heap.size + 1) (by omega)).trans m3
          have M5 := block_cell m5
          go_wp2_with fail
          have hz5 : w1.heap.size + 1 ≤ (wc.setCell ⟨g8, 0, none⟩ (.int .u8 48)).heap.size := Nat.le_trans hz3 b5.size
          generalize wc.setCell ⟨g8, 0, none⟩ (.int .u8 48) = w5 at *
          refine (four_any sq hsq w5).mono ?_
          rintro e w6 ⟨rfl, rfl⟩
          have l6 : Later w5 (w5.alloc (.cells #[.int .u8 (sq / 16777216), .int .u8 (sq / 65536 % 256), .int .u8 (sq / 256 % 256), .int .u8 (sq % 256)] 5)) := (Below.refl _ _).alloc (Nat.le_refl _) _
          have R6 := Rd.new4 (sq / 16777216) (sq / 65536 % 256) (sq / 256 % 256) (sq % 256) 5 w5
          have own6 := row_below ownS8 l6 (Nat.le_refl _)
          have b6 := b5.trans (l6.mono hz5)
          have hz6 := Nat.le_trans hz5 l6.size
          rw [List.length_set] at own6
          have own6' : (w5.alloc (.cells #[.int .u8 (sq / 16777216), .int .u8 (sq / 65536 % 256), .int .u8 (sq / 256 % 256), .int .u8 (sq % 256)] 5)).ownsRow (w1.heap.size + 1) 5 1 (.slice (some ⟨g8, 0, none⟩) y8.length cp8) (y8.set 0 48).length ((y8.set 0 48).map (Value.int .u8)) := by rw [List.length_set]; exact own6
          clear M5 M8 c8 f8
          go_wp2_with (at_builtin; refine wpList_app _ rfl (.tmp 53) (.tmp 56) 24 rfl (w1.heap.size + 1) 5 i0 Tryd.underlying24 hi hz0 hz1 hz2 _ _ rfl own6' _ _ [sq / 16777216, sq / 65536 % 256, sq / 256 % 256, sq % 256] rfl R6 (by have := hy8.out; simp; omega) hz6 ?_; intro v7 w7 own7 hg7; have b7 := below_app b6 own6' hg7 (Nat.le_refl _) hz6; clear hg7)
          go_meet
          case rel => exact ⟨by rw [hy]; exact own7, b7⟩
      case rest =>
        obtain ⟨own8, bc8⟩ := hcut
        obtain ⟨g9, cp9, rfl, hgb9, c9, f9, ownS9⟩ := row_set own8 1 (by have := hy9.out; omega) 129
        have i9 : (1 : Int) < y9.length := by have := hy9.out; omega
        have i9' : 1 < y9.length := by have := hy9.out; omega
        have m9 := (bc8.block (w.heap.size + 1) (by omega)).trans m3
        have M9 := block_cell m9
        obtain ⟨y10, HY10⟩ : ∃ y : List Int, Hid ((if ha then y9.set 1 129 ++ [ak / 16777216, ak / 65536 % 256, ak / 256 % 256, ak % 256] else y9) = y) := ⟨_, rfl⟩
        have hy10 : Hid (y10.length = 8 + (if hs then 4 else 0) + (if ha then 4 else 0)) := by show _ = _; rw [← HY10.out]; have := hy9.out; cases ha <;> simp <;> omega
        go_upto_if 59 with fail
        go_cut [8] (fun v wx => wx.ownsRow (w1.heap.size + 1) 5 1 v y10.length (y10.map (Value.int .u8)) ∧ Below (w1.heap.size + 1) w3 wx)
        case first =>
          cases ha
          · have hy : y10 = y9 := HY10.out.symm
            go_wp2_with fail
            go_meet
            case rel => exact ⟨by rw [hy]; exact own8, bc8⟩
          · have hy : y10 = y9.set 1 129 ++ [ak / 16777216, ak / 65536 % 256, ak / 256 % 256, ak % 256] := HY10.out.symm
            have b5 : Below (w1.heap.size + 1) w3 (wc.setCell ⟨g9, 1, none⟩ (.int .u8 129)) := bc8.setCell (p := ⟨g9, 1, none⟩) hgb9 _
            have m5 := (b5.block (w.heap.size + 1) (by omega)).trans m3
            have M5 := block_cell m5
            go_wp2_with fail
            have hz5 : w1.heap.size + 1 ≤ (wc.setCell ⟨g9, 1, none⟩ (.int .u8 129)).heap.size := Nat.le_trans hz3 b5.size
            generalize wc.setCell ⟨g9, 1, none⟩ (.int .u8 129) = w5 at *
            refine (four_any ak hak w5).mono ?_
            rintro e w6 ⟨rfl, rfl⟩
            have l6 : Later w5 (w5.alloc (.cells #[.int .u8 (ak / 16777216), .int .u8 (ak / 65536 % 256), .int .u8 (ak / 256 % 256), .int .u8 (ak % 256)] 5)) := (Below.refl _ _).alloc (Nat.le_refl _) _
            have R6 := Rd.new4 (ak / 16777216) (ak / 65536 % 256) (ak / 256 % 256) (ak % 256) 5 w5
            have own6 := row_below ownS9 l6 (Nat.le_refl _)
            have b6 := b5.trans (l6.mono hz5)
            have hz6 := Nat.le_trans hz5 l6.size
            rw [List.length_set] at own6
            have own6' : (w5.alloc (.cells #[.int .u8 (ak / 16777216), .int .u8 (ak / 65536 % 256), .int .u8 (ak / 256 % 256), .int .u8 (ak % 256)] 5)).ownsRow (w1.heap.size + 1) 5 1 (.slice (some ⟨g9, 0, none⟩) y9.length cp9) (y9.set 1 129).length ((y9.set 1 129).map (Value.int .u8)) := by rw [List.length_set]; exact own6
            clear M5 M9 c9 f9
            go_wp2_with (at_builtin; refine wpList_app _ rfl (.tmp 62) (.tmp 65) 24 rfl (w1.heap.size + 1) 5 i0 Tryd.underlying24 hi hz0 hz1 hz2 _ _ rfl own6' _ _ [ak / 16777216, ak / 65536 % 256, ak / 256 % 256, ak % 256] rfl R6 (by have := hy9.out; simp; split at this <;> omega) hz6 ?_; intro v7 w7 own7 hg7; have b7 := below_app b6 own6' hg7 (Nat.le_refl _) hz6; clear hg7)
            go_meet
            case rel => exact ⟨by rw [hy]; exact own7, b7⟩
        case rest =>
          obtain ⟨own8, bc8⟩ := hcut
          have hO8 := Ow.of_row own8
          obtain ⟨a10, c10, rfl, _, _⟩ := hO8.slice
          have hgn : Hid (gn = y10.length + zd.length) := by
            show _ = _
            rw [← HGN.out, hy10.out]
            unfold grn
            omega
          have hgr : Hid (y10 ++ zd = grb cl hs ha sq ak zd) := by
            show _ = _
            rw [← HY10.out, ← HY9.out, ← HY8.out]
            cases hs <;> cases ha <;> simp [grb, num4] <;> omega
          have hyb : y10.length ≤ 16 := by have := hy10.out; split at this <;> split at this <;> omega
          have p10 := (bc8.block w.heap.size (by omega)).trans p3
          have m10 := (bc8.block (w.heap.size + 1) (by omega)).trans m3
          have r10 := (bc8.block (w.heap.size + 1 + 1) (by omega)).trans r3
          have hw10 := hw3.trans (bc8.mono (by omega))
          have P10 := block_cell p10
          have M10 := block_cell m10
          by_cases c3 : 65535 < 20 + zo.length + gn
          · have t3 : (65535 : Int) < 20 + zo.length + y10.length + zd.length := by have := hgn.out; omega
            have HF : Hid (flt zo.length gn = 8) := by show _ = _; rw [F0.out, if_pos c3]
            have RR := block_cell r10
            have FF := block_frozen r10
            clear c3
            go_wp2_with fail
            generalize hV : ((((((((wc.setCell ⟨w.heap.size + 1 + 1, 0, none⟩ _).setCell ⟨w.heap.size + 1 + 1, 1, none⟩ _).setCell ⟨w.heap.size + 1 + 1, 2, none⟩ _).setCell ⟨w.heap.size + 1 + 1, 3, none⟩ _).setCell ⟨w.heap.size + 1 + 1, 4, none⟩ _).setCell ⟨w.heap.size + 1 + 1, 5, none⟩ _).setCell ⟨w.heap.size + 1 + 1, 6, none⟩ _).setCell ⟨w.heap.size + 1 + 1, 7, none⟩ _).setCell ⟨w.heap.size + 1 + 1, 8, none⟩ _ = V8
            have hV9 : V8 = putRow wc (w.heap.size + 1 + 1) 0 [Value.int .u8 0, .int .u16 0, .bool false, .int .u8 0, .int .u8 0, .int .u32 0, .int .u32 0, .slice none 0 0, .slice none 0 0] := hV.symm
            have hb8 : But (fun b => b = w.heap.size + 1 + 1) wc V8 := by rw [hV9]; exact putRow_but (E := fun b => b = w.heap.size + 1 + 1) (n := w.heap.size + 1 + 1) rfl _ _ _ _ (But.refl _ _)
            have p8 := putRow_all [Value.int .u8 0, .int .u16 0, .bool false, .int .u8 0, .int .u8 0, .int .u32 0, .int .u32 0, .slice none 0 0, .slice none 0 0] r10 rfl
            rw [← hV9] at p8
            clear hV hV9
            have P8 := block_cell p8
            have hw8 : Below w.heap.size w V8 := (hw10).trans (hb8.below (hw10).size (fun k h e => by omega))
            exact bodyPost_ret (v := .tuple #[.agg #[.int .u8 0, .int .u16 0, .bool false, .int .u8 0, .int .u8 0, .int .u32 0, .int .u32 0, .slice none 0 0, .slice none 0 0], .int .i64 8]) (by simp [results, Tryd.results23, go_sem, P8]) rfl (⟨hw8, .inl ⟨by rw [HGN.out, HF.out]; decide, by rw [HGN.out, HF.out]⟩⟩)
          · have t3 : ¬ (65535 : Int) < 20 + zo.length + y10.length + zd.length := by have := hgn.out; omega
            have HF : Hid (flt zo.length gn = 0) := by show _ = _; rw [F0.out, if_neg c3]
            clear c3
            go_upto_region 16 with fail
            clear P10 M10
            refine anyT_begin (R := But (fun b => b = w.heap.size + 1 + 1 ∨ w1.heap.size + 1 ≤ b)) 10 rfl (by kernel_rfl) ?_
            have hd : Later wc wc.drew := Later.drew wc
            have p11 := (hd.block w.heap.size (Array.getElem?_eq_some_iff.1 p10).1).trans p10
            have m11 := (hd.block (w.heap.size + 1) (Array.getElem?_eq_some_iff.1 m10).1).trans m10
            have r11 := (hd.block (w.heap.size + 1 + 1) (Array.getElem?_eq_some_iff.1 r10).1).trans r10
            have hw11 := hw10.trans (hd.mono hw10.size)
            have own11 := row_below own8 hd (Nat.le_refl _)
            have hz11 : w1.heap.size + 1 ≤ wc.drew.heap.size := Nat.le_trans hz3 (bc8.size)
            generalize wc.drew = Wd at *
            have hap : ∀ v1, But (fun b => b = w.heap.size + 1 + 1 ∨ w1.heap.size + 1 ≤ b) Wd v1 → ∀ i, v1.cell? ⟨w.heap.size, i, none⟩ = #[Value.int .u8 tos, .int .u16 id, .bool keep, .int .u8 ttl, .int .u8 proto, .int .u32 src, .int .u32 dst, .slice ao zo.length co, .slice ad ld cd][i]? := fun v1 h => block_cell ((h.block w.heap.size (Array.getElem?_eq_some_iff.1 p11).1 (by omega)).trans p11)
            have ham : ∀ v1, But (fun b => b = w.heap.size + 1 + 1 ∨ w1.heap.size + 1 ≤ b) Wd v1 → ∀ i, v1.cell? ⟨w.heap.size + 1, i, none⟩ = #[Value.int .u16 cl, .bool hs, .bool ha, .int .u32 sq, .int .u32 ak, .slice am zd.length cm][i]? := fun v1 h => block_cell ((h.block (w.heap.size + 1) (Array.getElem?_eq_some_iff.1 m11).1 (by omega)).trans m11)
            refine anyT_val (But.pre _) 0 rfl (by kernel_rfl) (by kernel_rfl) (by kernel_rfl) (fun _ _ _ _ h => h) rfl ?_; apply Exists.intro; refine ⟨fun v1 hv1 => ?_, ?_⟩; (· (go_simp; rfl)); simp only [Act.put, List.setIfInBounds_toArray, List.set_cons_zero, List.set_cons_succ]
            refine anyT_val (But.pre _) 1 rfl (by kernel_rfl) (by kernel_rfl) (by kernel_rfl) (fun _ _ _ _ h => h) rfl ?_; apply Exists.intro; refine ⟨fun v1 hv1 => ?_, ?_⟩; (· (go_simp; rfl)); simp only [Act.put, List.setIfInBounds_toArray, List.set_cons_zero, List.set_cons_succ]
            refine anyT_val (But.pre _) 2 rfl (by kernel_rfl) (by kernel_rfl) (by kernel_rfl) (fun _ _ _ _ h => h) rfl ?_; apply Exists.intro; refine ⟨fun v1 hv1 => ?_, ?_⟩; (· (go_simp; rfl)); simp only [Act.put, List.setIfInBounds_toArray, List.set_cons_zero, List.set_cons_succ]
            refine anyT_val (But.pre _) 3 rfl (by kernel_rfl) (by kernel_rfl) (by kernel_rfl) (fun _ _ _ _ h => h) rfl ?_; apply Exists.intro; refine ⟨fun v1 hv1 => ?_, ?_⟩; (· (go_simp; rfl)); simp only [Act.put, List.setIfInBounds_toArray, List.set_cons_zero, List.set_cons_succ]
            refine anyT_one 4 rfl (by kernel_rfl) rfl ?_
            obtain ⟨v12, W12, hrun12, own12, hgr12⟩ := run_app (P := Tryd.prog) Wd 24 24 5 (w1.heap.size + 1) i0 Tryd.underlying24 hi hz0 hz1 hz2 _ _ own11 w.heap.size _ zd (hIm.below hw11) (by omega) hz11
            have b12 : Below (w1.heap.size + 1) Wd W12 := below_app (Below.refl _ _) own11 hgr12 (Nat.le_refl _) hz11
            have bt12 := but_app own11 hgr12
            clear hgr12
            refine wp_app (.tmp 81) (.tmp 83) 24 rfl _ _ rfl rfl _ W12 hrun12 ⟨⟨bt12.os, bt12.tape, bt12.output, bt12.size, fun i hi he => bt12.block i hi (fun h => he (.inr h))⟩, ?_⟩
            simp only [Act.put, List.setIfInBounds_toArray, List.set_cons_zero, List.set_cons_succ]
            have hO12 := Ow.of_row own12
            clear own12
            have hl12 : Hid ((y10 ++ zd).length = gn) := by show _ = _; rw [List.length_append, hgn.out]
            obtain ⟨a12, c12, rfl, _, _⟩ := hO12.slice
            have hw12 := hw11.trans (b12.mono (by omega))
            have r12 := (b12.block (w.heap.size + 1 + 1) (by omega)).trans r11
            refine anyT_one 5 rfl (by kernel_rfl) rfl ?_
            refine wp_enter 40 #[.agg #[.int .u8 tos, .int .u16 id, .bool keep, .int .u8 ttl, .int .u8 proto, .int .u32 src, .int .u32 dst, .slice ao zo.length co, .slice ad ld cd], .int .u8 47, .slice a12 (y10 ++ zd).length c12] (by go_simp) ?_
            refine (rwith_any tos id ttl proto src dst 47 keep _ _ ad ld cd zo (y10 ++ zd) W12 ((hIo.below hw12).mono hw12.size) hO12.rd h1 (by simp; omega)).mono ?_
            rw [hl12.out, HF.out]
            rintro e W8 ⟨hb8, ⟨hx, _⟩ | ⟨_, a9, c9, ad9, cd9, rfl, hO9, hD9⟩⟩
            case inl => exact absurd rfl hx
            have l8 : Later W12 W8 := hb8
            refine ⟨But.of l8, ?_⟩
            simp only [Act.put, List.setIfInBounds_toArray, List.set_cons_zero, List.set_cons_succ]
            refine anyT_val (But.pre _) 6 rfl (by kernel_rfl) (by kernel_rfl) (by kernel_rfl) (fun _ _ _ _ h => h) rfl ?_; apply Exists.intro; refine ⟨fun v1 hv1 => ?_, ?_⟩; (· (go_simp; rfl)); simp only [Act.put, List.setIfInBounds_toArray, List.set_cons_zero, List.set_cons_succ]
            refine anyT_val (But.pre _) 7 rfl (by kernel_rfl) (by kernel_rfl) (by kernel_rfl) (fun _ _ _ _ h => h) rfl ?_; apply Exists.intro; refine ⟨fun v1 hv1 => ?_, ?_⟩; (· (go_simp; rfl)); simp only [Act.put, List.setIfInBounds_toArray, List.set_cons_zero, List.set_cons_succ]
            refine anyT_one 8 rfl (by kernel_rfl) rfl ?_
            have r8 := (l8.block (w.heap.size + 1 + 1) (Array.getElem?_eq_some_iff.1 r12).1).trans r12
            have hw8' := hw12.trans (l8.mono hw12.size)
            have k8 := block_cell r8
            have f8 : ∀ j, W8.frozen? ⟨w.heap.size + 1 + 1, j, none⟩ = false := block_frozen r8
            unfold Oper.wp
            go_simp
            generalize hV7 : ((((((((W8.setCell ⟨w.heap.size + 1 + 1, 0, none⟩ _).setCell ⟨w.heap.size + 1 + 1, 1, none⟩ _).setCell ⟨w.heap.size + 1 + 1, 2, none⟩ _).setCell ⟨w.heap.size + 1 + 1, 3, none⟩ _).setCell ⟨w.heap.size + 1 + 1, 4, none⟩ _).setCell ⟨w.heap.size + 1 + 1, 5, none⟩ _).setCell ⟨w.heap.size + 1 + 1, 6, none⟩ _).setCell ⟨w.heap.size + 1 + 1, 7, none⟩ _).setCell ⟨w.heap.size + 1 + 1, 8, none⟩ _ = V7
            have hV8 : V7 = putRow W8 (w.heap.size + 1 + 1) 0 [.int .u8 tos, .int .u16 id, .bool keep, .int .u8 ttl, .int .u8 47, .int .u32 src, .int .u32 dst, .slice a9 zo.length c9, .slice ad9 gn cd9] := hV7.symm
            have hbV : But (fun b => b = w.heap.size + 1 + 1) W8 V7 := by rw [hV8]; exact putRow_rb _ _
            have pV := putRow_all [Value.int .u8 tos, .int .u16 id, .bool keep, .int .u8 ttl, .int .u8 47, .int .u32 src, .int .u32 dst, .slice a9 zo.length c9, .slice ad9 gn cd9] r8 rfl
            rw [← hV8] at pV
            clear hV7 hV8 k8 f8
            refine ⟨⟨hbV.os, hbV.tape, hbV.output, hbV.size, fun i hi he => hbV.block i hi (fun h => he (.inl h))⟩, ?_⟩
            refine anyT_one 9 rfl (by kernel_rfl) rfl ?_
            unfold Oper.wp
            go_simp
            refine ⟨But.refl _ _, ?_⟩
            refine anyT_done (by kernel_rfl) ?_
            have PV := block_cell pV
            have hwV : Below w.heap.size w V7 := hw8'.trans (hbV.below hw8'.size (fun k hk e => by omega))
            go_wp2_with fail
            exact bodyPost_ret (v := .tuple #[.agg #[.int .u8 tos, .int .u16 id, .bool keep, .int .u8 ttl, .int .u8 47, .int .u32 src, .int .u32 dst, .slice a9 zo.length c9, .slice ad9 gn cd9], .int .i64 0]) (by simp [results, Tryd.results23, go_sem, PV]) rfl ⟨hwV, .inr ⟨by rw [HGN.out]; exact HF.out, a9, c9, ad9, cd9, by rw [HGN.out], (hO9.apart r8 (by decide) hbV).mono hw12.size, by rw [HGN.out, ← hgr.out]; exact (hD9.apart r8 (by decide) hbV).mono hw12.size⟩⟩
end Go.Proofs.YtojoaidnkljcpaaDoor

/- One bit turned: bytes whose check sum was good are good no more. -/
namespace Go.Proofs.YtojoaidnkljcpaaDoor
open Go.RowKit
set_option maxRecDepth 100000
set_option linter.unusedVariables false

theorem nat_flip : ∀ r < 8, ∀ n < 256, (n ^^^ 2 ^ r = n + 2 ^ r ∨ n = (n ^^^ 2 ^ r) + 2 ^ r) ∧ n ^^^ 2 ^ r < 256 := by decide +kernel
theorem u8_flip (z : Int) (hz : 0 ≤ z ∧ z ≤ 255) (r : Nat) (hr : r < 8) (p : Int) (hp : p = ((2 ^ r : Nat) : Int)) : (bits .xor .u8 z p = z + p ∨ bits .xor .u8 z p = z - p) ∧ 0 ≤ bits .xor .u8 z p ∧ bits .xor .u8 z p ≤ 255 := by
  obtain ⟨n, rfl⟩ := Int.eq_ofNat_of_zero_le hz.1
  subst hp
  have h2 : 2 ^ r < 256 := by
    have : r = 0 ∨ r = 1 ∨ r = 2 ∨ r = 3 ∨ r = 4 ∨ r = 5 ∨ r = 6 ∨ r = 7 := by omega
    rcases this with rfl | rfl | rfl | rfl | rfl | rfl | rfl | rfl <;> decide
  have e : bits .xor .u8 (n : Int) ((2 ^ r : Nat) : Int) = ((n ^^^ 2 ^ r : Nat) : Int) := u8_xor_nat n (2 ^ r) (by omega) h2
  obtain ⟨h3, h4⟩ := nat_flip r hr n (by omega)
  rw [e]
  refine ⟨?_, by omega, by omega⟩
  rcases h3 with h3 | h3
  · left; omega
  · right; omega
theorem cks_flip (zs : List Int) (hg : Mt.cks zs = 0) (j : Nat) (hj : j < zs.length) (r : Nat) (hr : r < 8) (y : Int) (hy : y = zs[j]?.getD 0 + ((2 ^ r : Nat) : Int) ∨ y = zs[j]?.getD 0 - ((2 ^ r : Nat) : Int)) : Mt.cks (zs.set j y) ≠ 0 := by
  intro h0
  have hrr : r = 0 ∨ r = 1 ∨ r = 2 ∨ r = 3 ∨ r = 4 ∨ r = 5 ∨ r = 6 ∨ r = 7 := by omega
  have hp : ((2 ^ r : Nat) : Int) = 1 ∨ ((2 ^ r : Nat) : Int) = 2 ∨ ((2 ^ r : Nat) : Int) = 4 ∨ ((2 ^ r : Nat) : Int) = 8 ∨ ((2 ^ r : Nat) : Int) = 16 ∨ ((2 ^ r : Nat) : Int) = 32 ∨ ((2 ^ r : Nat) : Int) = 64 ∨ ((2 ^ r : Nat) : Int) = 128 := by
    rcases hrr with rfl | rfl | rfl | rfl | rfl | rfl | rfl | rfl <;> simp
  generalize ((2 ^ r : Nat) : Int) = p at *
  have hg1 := Mt.fd_eq _ (show Mt.fd (Mt.tw true zs) = 65535 from by unfold Mt.cks at hg; omega)
  have hg2 := Mt.fd_eq _ (show Mt.fd (Mt.tw true (zs.set j y)) = 65535 from by unfold Mt.cks at h0; omega)
  rw [Mt.tw_set true _ j y hj] at hg2
  generalize zs[j]?.getD 0 = z at *
  generalize Mt.tw true zs = T at *
  have hd : y - z = p ∨ y - z = -p := by omega
  generalize y - z = d at *
  by_cases htu : Mt.turn true j = true
  · rw [if_pos htu] at hg2
    omega
  · rw [if_neg htu] at hg2
    omega
end Go.Proofs.YtojoaidnkljcpaaDoor

/- What is parsed of a segment, a datagram that was built; one bit of an address turned. -/
namespace Go.Proofs.YtojoaidnkljcpaaDoor
open Go.RowKit
set_option maxRecDepth 100000
set_option linter.unusedVariables false
set_option linter.unusedSimpArgs false

theorem flt_fit2 {lo ld : Nat} (hf : flt lo ld = 0) : lo ≤ 40 ∧ lo % 4 = 0 ∧ 20 + lo + ld ≤ 65535 := by
  unfold flt at hf
  split at hf <;> first | omega | (split at hf <;> omega)
theorem bte_fit {os : List Opt} {lo lm : Nat} (h : bte os lo lm = 0) : obOk os ∧ lo ≤ 40 ∧ lo % 4 = 0 ∧ 20 + lo + (20 + (pad (obs os)).length + lm) ≤ 65535 := by
  unfold bte at h
  split at h
  · exact ⟨by assumption, flt_fit2 h⟩
  · omega
/-- The sum of what stands ahead. -/
theorem tw_psd_app (s d p n : Int) (zs : List Int) : Mt.tw true (psd s d p n ++ zs) = Mt.tw true (psd s d p n) + Mt.tw true zs := by
  rw [Mt.tw_append, psd_length]
  rfl
/-- A check sum put at an even place where 0 stood makes the bytes good, also with what stands ahead of them. -/
theorem good_put (s d p n : Int) (zs : List Int) (k : Nat) (hB : Mt.By (psd s d p n ++ zs)) (hk : k % 2 = 0) (hl : k + 1 < zs.length) (h0 : zs[k]?.getD 0 = 0) (h1 : zs[k + 1]?.getD 0 = 0) : Mt.cks (psd s d p n ++ Mt.put2 zs k (Mt.cks (psd s d p n ++ zs))) = 0 := by
  have hn := Mt.tw_nonneg true _ hB
  have hg := Mt.fd_good _ hn
  rw [tw_psd_app] at hn hg
  unfold Mt.cks
  rw [tw_psd_app, Mt.tw_put2 zs k _ hk hl, h0, h1, tw_psd_app]
  rw [show Mt.tw true (psd s d p n) + (Mt.tw true zs + (65535 - Mt.fd (Mt.tw true (psd s d p n) + Mt.tw true zs)) - (0 * 256 + 0)) = Mt.tw true (psd s d p n) + Mt.tw true zs + (65535 - Mt.fd (Mt.tw true (psd s d p n) + Mt.tw true zs)) from by omega, hg]
  rfl
theorem good_put5 (s d p n : Int) (zs : List Int) (k : Nat) (hB : Mt.By (psd s d p n ++ zs)) (hk : k % 2 = 0) (hl : k + 1 < zs.length) (h0 : zs[k]?.getD 0 = 0) (h1 : zs[k + 1]?.getD 0 = 0) (hc : Mt.cks (psd s d p n ++ zs) = 0) : Mt.cks (psd s d p n ++ Mt.put2 zs k 65535) = 0 := by
  have hg := Mt.fd_eq _ (show Mt.fd (Mt.tw true (psd s d p n ++ zs)) = 65535 from by unfold Mt.cks at hc; omega)
  rw [tw_psd_app] at hg
  unfold Mt.cks
  rw [tw_psd_app, Mt.tw_put2 zs k _ hk hl, h0, h1, Mt.fd_of _ (by omega) (by omega)]
  rfl

section
variable (sp dp sq ak fl wn ur : Int) (ob : List Int) (src dst : Int) (zd : List Int)
def hd20 (c : Int) : List Int := Mt.put2 ([sp, dp].flatMap b2 ++ [sq, ak].flatMap b4 ++ [(20 + (ob.length : Int)) / 4 * 16, fl] ++ [wn, 0, ur].flatMap b2) 16 c
theorem hd20_length (c : Int) : (hd20 sp dp sq ak fl wn ur ob c).length = 20 := by simp [hd20, Mt.put2_length, b2, b4]
theorem tcp_split : tcp sp dp sq ak fl wn ur ob src dst zd = hd20 sp dp sq ak fl wn ur ob (Mt.cks (psd src dst 6 (20 + ob.length + zd.length : Nat) ++ tcp0 sp dp sq ak fl wn ur ob zd)) ++ (ob ++ zd) := by
  unfold tcp hd20
  generalize Mt.cks (psd src dst 6 (20 + ob.length + zd.length : Nat) ++ tcp0 sp dp sq ak fl wn ur ob zd) = c
  simp [tcp0, Mt.put2, b2, b4]
theorem tcp_drop (h : Nat) (hh : h = 20 + ob.length) : (tcp sp dp sq ak fl wn ur ob src dst zd).drop h = zd := by
  subst hh
  rw [tcp_split, List.drop_append, hd20_length, List.drop_of_length_le (by rw [hd20_length]; omega), List.nil_append, show 20 + ob.length - 20 = ob.length from by omega, List.drop_left]
theorem tcp_opt (h : Nat) (hh : h = 20 + ob.length) : ((tcp sp dp sq ak fl wn ur ob src dst zd).drop 20).take (h - 20) = ob := by
  subst hh
  rw [tcp_split, List.drop_append, hd20_length, List.drop_of_length_le (by rw [hd20_length]; omega), List.nil_append, Nat.sub_self, List.drop_zero, show 20 + ob.length - 20 = ob.length from by omega, List.take_left]
theorem tcp_at (j : Nat) (hj : j < 20) : (tcp sp dp sq ak fl wn ur ob src dst zd)[j]?.getD 0 = (hd20 sp dp sq ak fl wn ur ob (Mt.cks (psd src dst 6 (20 + ob.length + zd.length : Nat) ++ tcp0 sp dp sq ak fl wn ur ob zd)))[j]?.getD 0 := by
  rw [tcp_split, List.getElem?_append_left (by rw [hd20_length]; exact hj)]
theorem tcp_12 : (tcp sp dp sq ak fl wn ur ob src dst zd)[12]?.getD 0 = (20 + (ob.length : Int)) / 4 * 16 := by rw [tcp_at _ _ _ _ _ _ _ _ _ _ _ 12 (by omega)]; simp [hd20, Mt.put2, b2, b4]
theorem tcp_13 : (tcp sp dp sq ak fl wn ur ob src dst zd)[13]?.getD 0 = fl := by rw [tcp_at _ _ _ _ _ _ _ _ _ _ _ 13 (by omega)]; simp [hd20, Mt.put2, b2, b4]
theorem tcp_thd (h4 : ob.length % 4 = 0) : thd (tcp sp dp sq ak fl wn ur ob src dst zd) = 20 + (ob.length : Int) := by unfold thd; rw [tcp_12]; omega
theorem tcp_wat (j : Nat) (hj : j + 1 < 20) : wat (tcp sp dp sq ak fl wn ur ob src dst zd) j = wat (hd20 sp dp sq ak fl wn ur ob (Mt.cks (psd src dst 6 (20 + ob.length + zd.length : Nat) ++ tcp0 sp dp sq ak fl wn ur ob zd))) j := by
  unfold wat
  rw [tcp_at _ _ _ _ _ _ _ _ _ _ _ j (by omega), tcp_at _ _ _ _ _ _ _ _ _ _ _ (j + 1) hj]
theorem tcp_w0 : wat (tcp sp dp sq ak fl wn ur ob src dst zd) 0 = sp := by rw [tcp_wat _ _ _ _ _ _ _ _ _ _ _ 0 (by omega)]; simp [wat, hd20, Mt.put2, b2, b4]; omega
theorem tcp_w2 : wat (tcp sp dp sq ak fl wn ur ob src dst zd) 2 = dp := by rw [tcp_wat _ _ _ _ _ _ _ _ _ _ _ 2 (by omega)]; simp [wat, hd20, Mt.put2, b2, b4]; omega
theorem tcp_w14 : wat (tcp sp dp sq ak fl wn ur ob src dst zd) 14 = wn := by rw [tcp_wat _ _ _ _ _ _ _ _ _ _ _ 14 (by omega)]; simp [wat, hd20, Mt.put2, b2, b4]; omega
theorem tcp_w18 : wat (tcp sp dp sq ak fl wn ur ob src dst zd) 18 = ur := by rw [tcp_wat _ _ _ _ _ _ _ _ _ _ _ 18 (by omega)]; simp [wat, hd20, Mt.put2, b2, b4]; omega
theorem tcp_w4 : wat4 (tcp sp dp sq ak fl wn ur ob src dst zd) 4 = sq := by unfold wat4; rw [tcp_wat _ _ _ _ _ _ _ _ _ _ _ 4 (by omega), tcp_wat _ _ _ _ _ _ _ _ _ _ _ (4 + 2) (by omega)]; simp [wat, hd20, Mt.put2, b2, b4]; omega
theorem tcp_w8 : wat4 (tcp sp dp sq ak fl wn ur ob src dst zd) 8 = ak := by unfold wat4; rw [tcp_wat _ _ _ _ _ _ _ _ _ _ _ 8 (by omega), tcp_wat _ _ _ _ _ _ _ _ _ _ _ (8 + 2) (by omega)]; simp [wat, hd20, Mt.put2, b2, b4]; omega
theorem tcp_good (hs : 0 ≤ src ∧ src ≤ 4294967295) (hd : 0 ≤ dst ∧ dst ≤ 4294967295) (hB : Mt.By (tcp0 sp dp sq ak fl wn ur ob zd)) : Mt.cks (psd src dst 6 (20 + ob.length + zd.length : Nat) ++ tcp sp dp sq ak fl wn ur ob src dst zd) = 0 :=
  good_put src dst 6 _ _ 16 ((By_psd src dst 6 _ hs hd (by omega)).append hB) (by omega) (by rw [tcp0_length]; omega) (by simp [tcp0, b2, b4]) (by simp [tcp0, b2, b4])
theorem tcp_ptc (proto : Int) (hp : proto = 6) (s d : Int) (h4 : ob.length % 4 = 0) (h40 : ob.length ≤ 40) : ptc proto s d (tcp sp dp sq ak fl wn ur ob src dst zd) = if Mt.cks (psd s d 6 (20 + ob.length + zd.length : Nat) ++ tcp sp dp sq ak fl wn ur ob src dst zd) ≠ 0 then 5 else 0 := by
  unfold ptc
  rw [if_neg (by simp [hp]), tcp_length, if_neg (by omega), tcp_thd _ _ _ _ _ _ _ _ _ _ _ h4, tcp_12, if_neg (by omega), if_neg (by omega)]
end
theorem tcp_hop (sp dp sq ak fl wn ur : Int) (ob : List Int) (src dst : Int) (zd : List Int) (h4 : ob.length % 4 = 0) : hop (tcp sp dp sq ak fl wn ur ob src dst zd) = ob := by
  unfold hop
  rw [tcp_thd _ _ _ _ _ _ _ _ _ _ _ h4]
  exact tcp_opt _ _ _ _ _ _ _ _ _ _ _ _ (by omega)
theorem tcp_pte (sp dp sq ak fl wn ur : Int) (os : List Opt) (src dst : Int) (zd : List Int) (hok : obOk os) (hs : 0 ≤ src ∧ src ≤ 4294967295) (hd : 0 ≤ dst ∧ dst ≤ 4294967295) (hB : Mt.By (tcp0 sp dp sq ak fl wn ur (pad (obs os)) zd)) :
    pte 6 src dst (tcp sp dp sq ak fl wn ur (pad (obs os)) src dst zd) = 0 ∧ opts (hop (tcp sp dp sq ak fl wn ur (pad (obs os)) src dst zd)) = some os := by
  have h1 : ptc 6 src dst (tcp sp dp sq ak fl wn ur (pad (obs os)) src dst zd) = 0 := by
    rw [tcp_ptc _ _ _ _ _ _ _ _ _ _ _ 6 rfl src dst (pad_mod _) (pad_le _ hok.2), if_neg (by rw [tcp_good _ _ _ _ _ _ _ _ _ _ _ hs hd hB]; simp)]
  have h2 : opts (hop (tcp sp dp sq ak fl wn ur (pad (obs os)) src dst zd)) = some os := by rw [tcp_hop _ _ _ _ _ _ _ _ _ _ _ (pad_mod _)]; exact opts_pad os hok
  refine ⟨?_, h2⟩
  unfold pte
  rw [if_neg (by simp [h1]), h2]
  rfl

section
variable (sp dp : Int) (bare : Bool) (src dst : Int) (zm : List Int)
theorem udp_at (j : Nat) (h6 : j ≠ 6) (h7 : j ≠ 7) : (udp sp dp bare src dst zm)[j]?.getD 0 = (udp0 sp dp zm)[j]?.getD 0 := by
  unfold udp
  split
  · rfl
  · rw [Mt.put2_other _ _ _ _ h6 h7]
theorem udp_w0 : wat (udp sp dp bare src dst zm) 0 = sp := by unfold wat; rw [udp_at _ _ _ _ _ _ 0 (by omega) (by omega), udp_at _ _ _ _ _ _ (0 + 1) (by omega) (by omega)]; simp [udp0, b2]; omega
theorem udp_w2 : wat (udp sp dp bare src dst zm) 2 = dp := by unfold wat; rw [udp_at _ _ _ _ _ _ 2 (by omega) (by omega), udp_at _ _ _ _ _ _ (2 + 1) (by omega) (by omega)]; simp [udp0, b2]; omega
theorem udp_w4 (h : 8 + zm.length ≤ 65535) : wat (udp sp dp bare src dst zm) 4 = 8 + zm.length := by unfold wat; rw [udp_at _ _ _ _ _ _ 4 (by omega) (by omega), udp_at _ _ _ _ _ _ (4 + 1) (by omega) (by omega)]; simp [udp0, b2]; omega
theorem udp_drop : (udp sp dp bare src dst zm).drop 8 = zm := by
  unfold udp
  split
  · simp [udp0, b2]
  · simp [udp0, b2, Mt.put2]
theorem udp_w6 : wat (udp sp dp bare src dst zm) 6 = if bare then 0 else usm src dst 17 (udp0 sp dp zm) := by
  unfold udp
  cases bare with
  | true => simp [wat, udp0, b2]
  | false =>
    simp only [Bool.false_eq_true, if_false]
    unfold wat
    have := Mt.put2_at (udp0 sp dp zm) 6 (usm src dst 17 (udp0 sp dp zm)) (by rw [udp0_length]; omega)
    rw [this.1, this.2]
    omega
theorem udp_good (hs : 0 ≤ src ∧ src ≤ 4294967295) (hd : 0 ≤ dst ∧ dst ≤ 4294967295) (hB : Mt.By (udp0 sp dp zm)) : Mt.cks (psd src dst 17 (8 + zm.length : Nat) ++ udp sp dp false src dst zm) = 0 := by
  unfold udp
  simp only [Bool.false_eq_true, if_false]
  have hBB := (By_psd src dst 17 (8 + zm.length : Nat) hs hd (by omega)).append hB
  have hz : (udp0 sp dp zm)[6]?.getD 0 = 0 ∧ (udp0 sp dp zm)[6 + 1]?.getD 0 = 0 := ⟨by simp [udp0, b2], by simp [udp0, b2]⟩
  unfold usm
  rw [udp0_length]
  split
  · exact good_put5 src dst 17 _ _ 6 hBB (by omega) (by rw [udp0_length]; omega) hz.1 hz.2 (by assumption)
  · exact good_put src dst 17 _ _ 6 hBB (by omega) (by rw [udp0_length]; omega) hz.1 hz.2
theorem udp_pue (proto : Int) (hp : proto = 17) (s d : Int) (h : 8 + zm.length ≤ 65535) : pue proto s d (udp sp dp bare src dst zm) = if bare = false ∧ Mt.cks (psd s d 17 (8 + zm.length : Nat) ++ udp sp dp bare src dst zm) ≠ 0 then 5 else 0 := by
  unfold pue
  have hb := usm_bd src dst 17 (udp0 sp dp zm)
  rw [if_neg (by simp [hp]), udp_length, if_neg (by omega), udp_w4 _ _ _ _ _ _ h, if_neg (by simp), udp_w6]
  cases bare with
  | true => simp
  | false =>
    simp only [Bool.false_eq_true, if_false, true_and]
    congr 1
    simp only [eq_iff_iff]
    exact ⟨fun h => h.2, fun h => ⟨by omega, h⟩⟩
end

/-- One bit of an address turned is one bit of what stands ahead. -/
theorem pw_bytes : ∀ r < 32, ∀ k ∈ [0, 8, 16, 24], 2 ^ r / 2 ^ k % 2 ^ 8 = if r / 8 * 8 = k then 2 ^ (r % 8) else 0 := by decide +kernel
theorem xor_byte (x r k : Nat) (hr : r < 32) (hk : k ∈ [0, 8, 16, 24]) : (x ^^^ 2 ^ r) / 2 ^ k % 2 ^ 8 = if r / 8 * 8 = k then (x / 2 ^ k % 2 ^ 8) ^^^ 2 ^ (r % 8) else x / 2 ^ k % 2 ^ 8 := by
  rw [Nat.xor_div_two_pow, Nat.xor_mod_two_pow, pw_bytes r hr k hk]
  split <;> simp
theorem xor_lt32 (x r : Nat) (hx : x < 4294967296) (hr : r < 32) : x ^^^ 2 ^ r < 4294967296 := Nat.xor_lt_two_pow (n := 32) hx (Nat.pow_lt_pow_right (by omega) hr)
theorem flip_byte (n r : Nat) (hn : n < 256) (hr : r < 8) : ((n ^^^ 2 ^ r : Nat) : Int) = (n : Int) + ((2 ^ r : Nat) : Int) ∨ ((n ^^^ 2 ^ r : Nat) : Int) = (n : Int) - ((2 ^ r : Nat) : Int) := by
  obtain ⟨h, _⟩ := nat_flip r hr n hn
  omega
theorem psd_src (x r : Nat) (hx : x < 4294967296) (hr : r < 32) (d p n : Int) : ∃ j y, j < 12 ∧ psd ((x ^^^ 2 ^ r : Nat) : Int) d p n = (psd (x : Int) d p n).set j y ∧ (y = (psd (x : Int) d p n)[j]?.getD 0 + ((2 ^ (r % 8) : Nat) : Int) ∨ y = (psd (x : Int) d p n)[j]?.getD 0 - ((2 ^ (r % 8) : Nat) : Int)) := by
  have hl := xor_lt32 x r hx hr
  have k0 := xor_byte x r 0 hr (by simp)
  have k1 := xor_byte x r 8 hr (by simp)
  have k2 := xor_byte x r 16 hr (by simp)
  have k3 := xor_byte x r 24 hr (by simp)
  generalize x ^^^ 2 ^ r = x' at *
  simp only [Nat.reducePow, Nat.div_one] at k0 k1 k2 k3
  have h4 : r / 8 = 0 ∨ r / 8 = 1 ∨ r / 8 = 2 ∨ r / 8 = 3 := by omega
  rcases h4 with h | h | h | h <;> rw [h] at k0 k1 k2 k3 <;> simp at k0 k1 k2 k3
  · have f := flip_byte (x % 256) (r % 8) (by omega) (by omega)
    refine ⟨3, ((((x % 256) ^^^ 2 ^ (r % 8) : Nat)) : Int), by omega, ?_, ?_⟩
    · generalize (x % 256) ^^^ 2 ^ (r % 8) = q at *
      simp only [psd, List.set_cons_succ, List.set_cons_zero, List.cons.injEq, and_true, true_and]
      omega
    · generalize (x % 256) ^^^ 2 ^ (r % 8) = q at *
      generalize ((2 ^ (r % 8) : Nat) : Int) = t at *
      simp only [psd, List.getElem?_cons_succ, List.getElem?_cons_zero, Option.getD_some]
      omega
  · have f := flip_byte (x / 256 % 256) (r % 8) (by omega) (by omega)
    refine ⟨2, ((((x / 256 % 256) ^^^ 2 ^ (r % 8) : Nat)) : Int), by omega, ?_, ?_⟩
    · generalize (x / 256 % 256) ^^^ 2 ^ (r % 8) = q at *
      simp only [psd, List.set_cons_succ, List.set_cons_zero, List.cons.injEq, and_true, true_and]
      omega
    · generalize (x / 256 % 256) ^^^ 2 ^ (r % 8) = q at *
      generalize ((2 ^ (r % 8) : Nat) : Int) = t at *
      simp only [psd, List.getElem?_cons_succ, List.getElem?_cons_zero, Option.getD_some]
      omega
  · have f := flip_byte (x / 65536 % 256) (r % 8) (by omega) (by omega)
    refine ⟨1, ((((x / 65536 % 256) ^^^ 2 ^ (r % 8) : Nat)) : Int), by omega, ?_, ?_⟩
    · generalize (x / 65536 % 256) ^^^ 2 ^ (r % 8) = q at *
      simp only [psd, List.set_cons_succ, List.set_cons_zero, List.cons.injEq, and_true, true_and]
      omega
    · generalize (x / 65536 % 256) ^^^ 2 ^ (r % 8) = q at *
      generalize ((2 ^ (r % 8) : Nat) : Int) = t at *
      simp only [psd, List.getElem?_cons_succ, List.getElem?_cons_zero, Option.getD_some]
      omega
  · have f := flip_byte (x / 16777216 % 256) (r % 8) (by omega) (by omega)
    refine ⟨0, ((((x / 16777216 % 256) ^^^ 2 ^ (r % 8) : Nat)) : Int), by omega, ?_, ?_⟩
    · generalize (x / 16777216 % 256) ^^^ 2 ^ (r % 8) = q at *
      simp only [psd, List.set_cons_succ, List.set_cons_zero, List.cons.injEq, and_true, true_and]
      omega
    · generalize (x / 16777216 % 256) ^^^ 2 ^ (r % 8) = q at *
      generalize ((2 ^ (r % 8) : Nat) : Int) = t at *
      simp only [psd, List.getElem?_cons_succ, List.getElem?_cons_zero, Option.getD_some]
      omega
theorem psd_dst (x r : Nat) (hx : x < 4294967296) (hr : r < 32) (s p n : Int) : ∃ j y, j < 12 ∧ psd s ((x ^^^ 2 ^ r : Nat) : Int) p n = (psd s (x : Int) p n).set j y ∧ (y = (psd s (x : Int) p n)[j]?.getD 0 + ((2 ^ (r % 8) : Nat) : Int) ∨ y = (psd s (x : Int) p n)[j]?.getD 0 - ((2 ^ (r % 8) : Nat) : Int)) := by
  have hl := xor_lt32 x r hx hr
  have k0 := xor_byte x r 0 hr (by simp)
  have k1 := xor_byte x r 8 hr (by simp)
  have k2 := xor_byte x r 16 hr (by simp)
  have k3 := xor_byte x r 24 hr (by simp)
  generalize x ^^^ 2 ^ r = x' at *
  simp only [Nat.reducePow, Nat.div_one] at k0 k1 k2 k3
  have h4 : r / 8 = 0 ∨ r / 8 = 1 ∨ r / 8 = 2 ∨ r / 8 = 3 := by omega
  rcases h4 with h | h | h | h <;> rw [h] at k0 k1 k2 k3 <;> simp at k0 k1 k2 k3
  · have f := flip_byte (x % 256) (r % 8) (by omega) (by omega)
    refine ⟨7, ((((x % 256) ^^^ 2 ^ (r % 8) : Nat)) : Int), by omega, ?_, ?_⟩
    · generalize (x % 256) ^^^ 2 ^ (r % 8) = q at *
      simp only [psd, List.set_cons_succ, List.set_cons_zero, List.cons.injEq, and_true, true_and]
      omega
    · generalize (x % 256) ^^^ 2 ^ (r % 8) = q at *
      generalize ((2 ^ (r % 8) : Nat) : Int) = t at *
      simp only [psd, List.getElem?_cons_succ, List.getElem?_cons_zero, Option.getD_some]
      omega
  · have f := flip_byte (x / 256 % 256) (r % 8) (by omega) (by omega)
    refine ⟨6, ((((x / 256 % 256) ^^^ 2 ^ (r % 8) : Nat)) : Int), by omega, ?_, ?_⟩
    · generalize (x / 256 % 256) ^^^ 2 ^ (r % 8) = q at *
      simp only [psd, List.set_cons_succ, List.set_cons_zero, List.cons.injEq, and_true, true_and]
      omega
    · generalize (x / 256 % 256) ^^^ 2 ^ (r % 8) = q at *
      generalize ((2 ^ (r % 8) : Nat) : Int) = t at *
      simp only [psd, List.getElem?_cons_succ, List.getElem?_cons_zero, Option.getD_some]
      omega
  · have f := flip_byte (x / 65536 % 256) (r % 8) (by omega) (by omega)
    refine ⟨5, ((((x / 65536 % 256) ^^^ 2 ^ (r % 8) : Nat)) : Int), by omega, ?_, ?_⟩
    · generalize (x / 65536 % 256) ^^^ 2 ^ (r % 8) = q at *
      simp only [psd, List.set_cons_succ, List.set_cons_zero, List.cons.injEq, and_true, true_and]
      omega
    · generalize (x / 65536 % 256) ^^^ 2 ^ (r % 8) = q at *
      generalize ((2 ^ (r % 8) : Nat) : Int) = t at *
      simp only [psd, List.getElem?_cons_succ, List.getElem?_cons_zero, Option.getD_some]
      omega
  · have f := flip_byte (x / 16777216 % 256) (r % 8) (by omega) (by omega)
    refine ⟨4, ((((x / 16777216 % 256) ^^^ 2 ^ (r % 8) : Nat)) : Int), by omega, ?_, ?_⟩
    · generalize (x / 16777216 % 256) ^^^ 2 ^ (r % 8) = q at *
      simp only [psd, List.set_cons_succ, List.set_cons_zero, List.cons.injEq, and_true, true_and]
      omega
    · generalize (x / 16777216 % 256) ^^^ 2 ^ (r % 8) = q at *
      generalize ((2 ^ (r % 8) : Nat) : Int) = t at *
      simp only [psd, List.getElem?_cons_succ, List.getElem?_cons_zero, Option.getD_some]
      omega

/-- So its sum is good no more. -/
theorem psd_bad {s d s' d' p n : Int} {zs : List Int} {r : Nat} (h : ∃ j y, j < 12 ∧ psd s' d' p n = (psd s d p n).set j y ∧ (y = (psd s d p n)[j]?.getD 0 + ((2 ^ (r % 8) : Nat) : Int) ∨ y = (psd s d p n)[j]?.getD 0 - ((2 ^ (r % 8) : Nat) : Int))) (hg : Mt.cks (psd s d p n ++ zs) = 0) : Mt.cks (psd s' d' p n ++ zs) ≠ 0 := by
  obtain ⟨j, y, hj, he, hy⟩ := h
  rw [he, ← List.set_append_left _ _ (by rw [psd_length]; exact hj)]
  refine cks_flip _ hg j (by rw [List.length_append, psd_length]; omega) (r % 8) (by omega) y ?_
  rw [List.getElem?_append_left (by rw [psd_length]; exact hj)]
  exact hy
/-- A bit turned in a number of 32. -/
theorem u32_bit (s : Int) (hs : 0 ≤ s ∧ s ≤ 4294967295) (r : Nat) (hr : r < 32) (p : Int) (hp : p = ((2 ^ r : Nat) : Int)) : ∃ x : Nat, s = x ∧ x < 4294967296 ∧ bits .xor .u32 s p = ((x ^^^ 2 ^ r : Nat) : Int) ∧ (0 ≤ bits .xor .u32 s p ∧ bits .xor .u32 s p ≤ 4294967295) := by
  obtain ⟨x, rfl⟩ := Int.eq_ofNat_of_zero_le hs.1
  subst hp
  have h2 : 2 ^ r < 2 ^ 32 := Nat.pow_lt_pow_right (by omega) hr
  rw [show 2 ^ 32 = 4294967296 from rfl] at h2
  have e := u32_xor_nat x (2 ^ r) (by omega) h2
  have hl := xor_lt32 x r (by omega) hr
  refine ⟨x, rfl, by omega, e, ?_⟩
  rw [e]
  omega
end Go.Proofs.YtojoaidnkljcpaaDoor

/- What Parse answers of what was built: messages and frames. -/
namespace Go.Proofs.YtojoaidnkljcpaaDoor
open Go.RowKit Go.Shelf
set_option maxRecDepth 100000
set_option linter.unusedVariables false
set_option linter.unusedSimpArgs false

theorem flt_fit {lo ld : Nat} (hf : flt lo ld = 0) : lo ≤ 40 ∧ lo % 4 = 0 ∧ 20 + lo + ld ≤ 65535 := by
  unfold flt at hf
  split at hf <;> first | omega | (split at hf <;> omega)

/-- A message's check sum is good. -/
theorem icm_good (ty cde rest : Int) (zd : List Int) (h1 : 0 ≤ ty ∧ ty ≤ 255) (h2 : 0 ≤ cde ∧ cde ≤ 255) (h3 : 0 ≤ rest ∧ rest ≤ 4294967295) (hB : Mt.By zd) : Mt.cks (icm ty cde rest zd) = 0 := by
  have hn := Mt.tw_nonneg true _ (By_icm0 ty cde rest zd h1 h2 h3 hB)
  have ht := Mt.tw_put2 (icm0 ty cde rest zd) 2 (Mt.cks (icm0 ty cde rest zd)) (by omega) (by rw [icm0_length]; omega)
  have hz : (icm0 ty cde rest zd)[2]?.getD 0 = 0 ∧ (icm0 ty cde rest zd)[2 + 1]?.getD 0 = 0 := ⟨rfl, rfl⟩
  rw [hz.1, hz.2] at ht
  unfold icm
  have hg := Mt.fd_good _ hn
  unfold Mt.cks at ht ⊢
  rw [ht, show Mt.tw true (icm0 ty cde rest zd) + (65535 - Mt.fd (Mt.tw true (icm0 ty cde rest zd))) - (0 * 256 + 0) = Mt.tw true (icm0 ty cde rest zd) + (65535 - Mt.fd (Mt.tw true (icm0 ty cde rest zd))) from by omega, hg]
  rfl
theorem icm_drop (ty cde rest : Int) (zd : List Int) : (icm ty cde rest zd).drop 8 = zd := by simp [icm, Mt.put2, icm0]
theorem icm_0 (ty cde rest : Int) (zd : List Int) : (icm ty cde rest zd)[0]?.getD 0 = ty := by simp [icm, Mt.put2, icm0]
theorem icm_1 (ty cde rest : Int) (zd : List Int) : (icm ty cde rest zd)[1]?.getD 0 = cde := by simp [icm, Mt.put2, icm0]
theorem icm_4 (ty cde rest : Int) (zd : List Int) : wat4 (icm ty cde rest zd) 4 = rest := by simp [icm, Mt.put2, icm0, wat4, wat]; omega
theorem icm_pie (ty cde rest : Int) (zd : List Int) (h1 : 0 ≤ ty ∧ ty ≤ 255) (h2 : 0 ≤ cde ∧ cde ≤ 255) (h3 : 0 ≤ rest ∧ rest ≤ 4294967295) (hB : Mt.By zd) : pie 1 (icm ty cde rest zd) = 0 := by
  unfold pie
  rw [if_neg (by simp), icm_length, if_neg (by omega), icm_good ty cde rest zd h1 h2 h3 hB]
  simp
theorem icm_parts (ty cde rest : Int) (zd : List Int) (h : pie 1 (icm ty cde rest zd) = 0) : pty 1 (icm ty cde rest zd) = ty ∧ pcd 1 (icm ty cde rest zd) = cde ∧ prs 1 (icm ty cde rest zd) = rest ∧ pdt 1 (icm ty cde rest zd) = zd := by
  unfold pty pcd prs pdt
  rw [if_pos h, if_pos h, if_pos h, if_pos h, icm_0, icm_1, icm_4, icm_drop]
  exact ⟨rfl, rfl, rfl, rfl⟩

/-- The beginning's number. -/
def bgn (hs ha : Bool) : Nat := (if hs then 1 else 0) + (if ha then 2 else 0)
theorem grb_bgz (cl : Int) (hs ha : Bool) (sq ak : Int) (zd : List Int) : bgz (grb cl hs ha sq ak zd) = bgn hs ha := by
  cases hs <;> cases ha <;> rfl
theorem grb_take (cl : Int) (hs ha : Bool) (sq ak : Int) (zd : List Int) (m : Nat) (hm : 8 ≤ m) : bgz ((grb cl hs ha sq ak zd).take m) = bgn hs ha := by
  unfold bgz
  rw [List.getElem?_take_of_lt (by omega), List.getElem?_take_of_lt (by omega), List.getElem?_take_of_lt (by omega), List.getElem?_take_of_lt (by omega)]
  exact grb_bgz cl hs ha sq ak zd
theorem ghd_bgn (hs ha : Bool) (n : Nat) : ghd (bgn hs ha) + n = grn hs ha n := by cases hs <;> cases ha <;> simp [ghd, bgn, grn]
theorem bgn_ne (hs ha : Bool) : bgn hs ha ≠ 4 := by cases hs <;> cases ha <;> simp [bgn]
theorem grb_wat4 (cl : Int) (hs ha : Bool) (sq ak : Int) (zd more : List Int) (h : zd.length ≤ 65535) : wat (grb cl hs ha sq ak zd ++ more) 4 = zd.length := by
  unfold wat grb
  simp
  omega
theorem grb_pge (cl : Int) (hs ha : Bool) (sq ak : Int) (zd : List Int) (h : zd.length ≤ 65535) : pge 47 (grb cl hs ha sq ak zd) = 0 := by
  have hw := grb_wat4 cl hs ha sq ak zd [] h
  rw [List.append_nil] at hw
  have hg := ghd_bgn hs ha zd.length
  have hb := ghd_bd (bgn hs ha)
  unfold pge
  rw [if_neg (by simp), grb_length, grb_bgz, hw, if_neg (by omega), if_neg (bgn_ne hs ha), if_neg (by omega), if_neg (by omega)]
theorem grb_parts (cl : Int) (hs ha : Bool) (sq ak : Int) (zd : List Int) (hcl : 0 ≤ cl) (hsq : 0 ≤ sq) (hak : 0 ≤ ak) (hg : grf hs ha sq ak = false) (h : pge 47 (grb cl hs ha sq ak zd) = 0) :
    gcl 47 (grb cl hs ha sq ak zd) = cl ∧ gh1 47 (grb cl hs ha sq ak zd) = hs ∧ gh2 47 (grb cl hs ha sq ak zd) = ha ∧ gq1 47 (grb cl hs ha sq ak zd) = sq ∧ gq2 47 (grb cl hs ha sq ak zd) = ak ∧ gdt 47 (grb cl hs ha sq ak zd) = zd := by
  unfold gcl gh1 gh2 gq1 gq2 gdt
  rw [if_pos h, if_pos h, if_pos h, if_pos h, if_pos h, if_pos h, grb_bgz]
  clear h
  cases hs <;> cases ha <;> simp [grf] at hg
  · obtain ⟨rfl, rfl⟩ := hg
    refine ⟨?_, rfl, rfl, rfl, rfl, ?_⟩
    · simp [getAt2, grb, num4, wat]; omega
    · simp [ghd, bgn, grb, num4]
  · subst hg
    refine ⟨?_, rfl, rfl, rfl, ?_, ?_⟩
    · simp [getAt2, grb, num4, wat]; omega
    · simp [gak, bgn, getAt4, grb, num4, wat4, wat]; omega
    · simp [ghd, bgn, grb, num4]
  · subst hg
    refine ⟨?_, rfl, rfl, ?_, rfl, ?_⟩
    · simp [getAt2, grb, num4, wat]; omega
    · simp [gsq, bgn, getAt4, grb, num4, wat4, wat]; omega
    · simp [ghd, bgn, grb, num4]
  · refine ⟨?_, rfl, rfl, ?_, ?_, ?_⟩
    · simp [getAt2, grb, num4, wat]; omega
    · simp [gsq, bgn, getAt4, grb, num4, wat4, wat]; omega
    · simp [gak, bgn, getAt4, grb, num4, wat4, wat]; omega
    · simp [ghd, bgn, grb, num4]
/-- A frame's bytes that are cut, and one more. -/
theorem grb_cut (cl : Int) (hs ha : Bool) (sq ak : Int) (zd : List Int) (m : Nat) (h : zd.length ≤ 65535) (hm : m < grn hs ha zd.length) : pge 47 ((grb cl hs ha sq ak zd).take m) = 3 := by
  have hl : ((grb cl hs ha sq ak zd).take m).length = m := by rw [List.length_take, grb_length]; omega
  have hb := ghd_bd (bgn hs ha)
  have hg := ghd_bgn hs ha zd.length
  unfold pge
  rw [if_neg (by simp), hl]
  by_cases h8 : m < 8
  · rw [if_pos h8]
  · have hw : wat ((grb cl hs ha sq ak zd).take m) 4 = zd.length := by
      unfold wat
      rw [List.getElem?_take_of_lt (by omega), List.getElem?_take_of_lt (by omega)]
      have := grb_wat4 cl hs ha sq ak zd [] h
      rw [List.append_nil] at this
      exact this
    rw [if_neg h8, grb_take cl hs ha sq ak zd m (by omega), if_neg (bgn_ne hs ha), hw, if_pos (by omega)]
theorem grb_more (cl : Int) (hs ha : Bool) (sq ak : Int) (zd : List Int) (h : zd.length ≤ 65535) : pge 47 (grb cl hs ha sq ak zd ++ [0]) = 4 := by
  have hb := ghd_bd (bgn hs ha)
  have hg := ghd_bgn hs ha zd.length
  have hbz : bgz (grb cl hs ha sq ak zd ++ [0]) = bgn hs ha := by cases hs <;> cases ha <;> rfl
  unfold pge
  rw [if_neg (by simp), List.length_append, grb_length, hbz, grb_wat4 cl hs ha sq ak zd [0] h, if_neg (by simp; omega), if_neg (bgn_ne hs ha), if_neg (by simp; omega), if_pos (by simp; omega)]
end Go.Proofs.YtojoaidnkljcpaaDoor
