/- Package segs: the packet with a segment. -/
import Derived.Test.YtclkfmdlgffbeaaSH
namespace Go.Proofs.Ytclkfmdlgffbeaa
open Go.RowKit Go.Shelf
set_option maxRecDepth 100000
set_option linter.unusedVariables false
set_option linter.unusedSimpArgs false

/-- A segment's bytes, 0 for its check sum; with it. -/
def tcp0 (sp dp sq ak fl wn ur : Int) (ob zd : List Int) : List Int := [sp, dp].flatMap b2 ++ [sq, ak].flatMap b4 ++ [(20 + (ob.length : Int)) / 4 * 16, fl] ++ [wn, 0, ur].flatMap b2 ++ ob ++ zd
def tcp (sp dp sq ak fl wn ur : Int) (ob : List Int) (src dst : Int) (zd : List Int) : List Int := Mt.put2 (tcp0 sp dp sq ak fl wn ur ob zd) 16 (Mt.cks (psd src dst 6 (20 + ob.length + zd.length : Nat) ++ tcp0 sp dp sq ak fl wn ur ob zd))
theorem tcp0_length (sp dp sq ak fl wn ur : Int) (ob zd : List Int) : (tcp0 sp dp sq ak fl wn ur ob zd).length = 20 + ob.length + zd.length := by simp [tcp0, b2, b4]; omega
theorem tcp_length (sp dp sq ak fl wn ur : Int) (ob : List Int) (src dst : Int) (zd : List Int) : (tcp sp dp sq ak fl wn ur ob src dst zd).length = 20 + ob.length + zd.length := by simp [tcp, Mt.put2_length, tcp0_length]
theorem By_tcp0 (sp dp sq ak fl wn ur : Int) (ob zd : List Int) (h1 : 0 ≤ sp ∧ sp ≤ 65535) (h2 : 0 ≤ dp ∧ dp ≤ 65535) (h3 : 0 ≤ sq ∧ sq ≤ 4294967295) (h4 : 0 ≤ ak ∧ ak ≤ 4294967295) (h5 : 0 ≤ fl ∧ fl ≤ 255) (h6 : 0 ≤ wn ∧ wn ≤ 65535) (h7 : 0 ≤ ur ∧ ur ≤ 65535) (ho : ob.length ≤ 40) (hB : Mt.By ob) (hB2 : Mt.By zd) : Mt.By (tcp0 sp dp sq ak fl wn ur ob zd) := by
  unfold tcp0
  refine (Mt.By.append ?_ hB).append hB2
  simp only [List.flatMap_cons, List.flatMap_nil, b2, b4, List.cons_append, List.nil_append, List.append_nil]
  exact .mk (by omega) (.mk (by omega) (.mk (by omega) (.mk (by omega) (.mk (by omega) (.mk (by omega) (.mk (by omega) (.mk (by omega) (.mk (by omega) (.mk (by omega) (.mk (by omega) (.mk (by omega) (.mk (by omega) (.mk (by omega) (.mk (by omega) (.mk (by omega) (.mk (by omega) (.mk (by omega) (.mk (by omega) (.mk (by omega) .nil)))))))))))))))))))
theorem By_tcp (sp dp sq ak fl wn ur : Int) (ob : List Int) (src dst : Int) (zd : List Int) (h : Mt.By (tcp0 sp dp sq ak fl wn ur ob zd)) : Mt.By (tcp sp dp sq ak fl wn ur ob src dst zd) := h.put2 16 (Mt.cks_bd _)
/-- What a segment is refused with when it is built (0: nothing). -/
def bte (os : List Opt) (lo lm : Nat) : Int := if obOk os then flt lo (20 + (pad (obs os)).length + lm) else 4

set_option maxHeartbeats 8000000 in
theorem buildTcp_any (tos id ttl proto src dst sp dp sq ak fl wn ur : Int) (keep : Bool) (so sd sO sm : Value) (zo zm : List Int) (os : List Opt) (w : World) (hBo : Mt.By zo) (hIo : Rd w.heap.size w so zo) (hBm : Mt.By zm) (hIm : Rd w.heap.size w sm zm)
    (hBO : ByO os) (hIO : RdO w.heap.size w sO os) (hlO : ∀ o ∈ os, o.2.length ≤ 140737488355000)
    (h1 : zo.length ≤ 140737488355328) (h2 : zm.length ≤ 140737488355000) (ht : 0 ≤ tos ∧ tos ≤ 255) (hid : 0 ≤ id ∧ id ≤ 65535) (htt : 0 ≤ ttl ∧ ttl ≤ 255) (hsr : 0 ≤ src ∧ src ≤ 4294967295) (hds : 0 ≤ dst ∧ dst ≤ 4294967295)
    (hsp : 0 ≤ sp ∧ sp ≤ 65535) (hdp : 0 ≤ dp ∧ dp ≤ 65535) (hsq : 0 ≤ sq ∧ sq ≤ 4294967295) (hak : 0 ≤ ak ∧ ak ≤ 4294967295) (hfl : 0 ≤ fl ∧ fl ≤ 255) (hwn : 0 ≤ wn ∧ wn ≤ 65535) (hur : 0 ≤ ur ∧ ur ≤ 65535) :
    Calls Try.prog 11 #[.agg #[.int .u8 tos, .int .u16 id, .bool keep, .int .u8 ttl, .int .u8 proto, .int .u32 src, .int .u32 dst, so, sd], .agg #[.int .u16 sp, .int .u16 dp, .int .u32 sq, .int .u32 ak, .int .u8 fl, .int .u16 wn, .int .u16 ur, sO, sm]] w fun e w' => Below w.heap.size w w' ∧ ((bte os zo.length zm.length ≠ 0 ∧ e = .returned (.tuple #[.agg zcc.toArray, .int .i64 (bte os zo.length zm.length)])) ∨
      (bte os zo.length zm.length = 0 ∧ ∃ ao co ad cd, e = .returned (.tuple #[.agg #[.int .u8 tos, .int .u16 id, .bool keep, .int .u8 ttl, .int .u8 6, .int .u32 src, .int .u32 dst, .slice ao zo.length co, .slice ad (20 + (pad (obs os)).length + zm.length) cd], .int .i64 0]) ∧ Ow w.heap.size w' (.slice ao zo.length co) zo ∧ Ow w.heap.size w' (.slice ad (20 + (pad (obs os)).length + zm.length) cd) (tcp sp dp sq ak fl wn ur (pad (obs os)) src dst zm))) := by
  obtain ⟨ao, co, rfl, _, _⟩ := hIo.slice
  obtain ⟨am, cm, rfl, _, _⟩ := hIm.slice
  obtain ⟨aO, cO, rfl, _, _⟩ := hIO.slice
  have hb0 : Below w.heap.size w (((w.alloc (.cells #[.int .u8 tos, .int .u16 id, .bool keep, .int .u8 ttl, .int .u8 proto, .int .u32 src, .int .u32 dst, .slice ao zo.length co, sd] 26)).alloc (.cells #[.int .u16 sp, .int .u16 dp, .int .u32 sq, .int .u32 ak, .int .u8 fl, .int .u16 wn, .int .u16 ur, .slice aO os.length cO, .slice am zm.length cm] 29)).alloc (.cells zcc.toArray 26)) := (((Below.refl _ _).alloc (Nat.le_refl _) _).alloc (by simp) _).alloc (by simp <;> omega) _
  have p0 : (((w.alloc (.cells #[.int .u8 tos, .int .u16 id, .bool keep, .int .u8 ttl, .int .u8 proto, .int .u32 src, .int .u32 dst, .slice ao zo.length co, sd] 26)).alloc (.cells #[.int .u16 sp, .int .u16 dp, .int .u32 sq, .int .u32 ak, .int .u8 fl, .int .u16 wn, .int .u16 ur, .slice aO os.length cO, .slice am zm.length cm] 29)).alloc (.cells zcc.toArray 26)).heap[w.heap.size]? = some (.cells #[.int .u8 tos, .int .u16 id, .bool keep, .int .u8 ttl, .int .u8 proto, .int .u32 src, .int .u32 dst, .slice ao zo.length co, sd] 26) := (Below.heap_alloc _ _ _ (by simp <;> omega)).trans ((Below.heap_alloc _ _ _ (by simp)).trans (heap_alloc_new w _))
  have s0 : (((w.alloc (.cells #[.int .u8 tos, .int .u16 id, .bool keep, .int .u8 ttl, .int .u8 proto, .int .u32 src, .int .u32 dst, .slice ao zo.length co, sd] 26)).alloc (.cells #[.int .u16 sp, .int .u16 dp, .int .u32 sq, .int .u32 ak, .int .u8 fl, .int .u16 wn, .int .u16 ur, .slice aO os.length cO, .slice am zm.length cm] 29)).alloc (.cells zcc.toArray 26)).heap[w.heap.size + 1]? = some (.cells #[.int .u16 sp, .int .u16 dp, .int .u32 sq, .int .u32 ak, .int .u8 fl, .int .u16 wn, .int .u16 ur, .slice aO os.length cO, .slice am zm.length cm] 29) := by
    have := heap_alloc_new (w.alloc (.cells #[.int .u8 tos, .int .u16 id, .bool keep, .int .u8 ttl, .int .u8 proto, .int .u32 src, .int .u32 dst, .slice ao zo.length co, sd] 26)) (.cells #[.int .u16 sp, .int .u16 dp, .int .u32 sq, .int .u32 ak, .int .u8 fl, .int .u16 wn, .int .u16 ur, .slice aO os.length cO, .slice am zm.length cm] 29)
    rw [World.size_alloc] at this
    exact (Below.heap_alloc _ _ _ (by simp)).trans this
  have r0 : (((w.alloc (.cells #[.int .u8 tos, .int .u16 id, .bool keep, .int .u8 ttl, .int .u8 proto, .int .u32 src, .int .u32 dst, .slice ao zo.length co, sd] 26)).alloc (.cells #[.int .u16 sp, .int .u16 dp, .int .u32 sq, .int .u32 ak, .int .u8 fl, .int .u16 wn, .int .u16 ur, .slice aO os.length cO, .slice am zm.length cm] 29)).alloc (.cells zcc.toArray 26)).heap[w.heap.size + 1 + 1]? = some (.cells zcc.toArray 26 (0, 0)) := by
    have := heap_alloc_new ((w.alloc (.cells #[.int .u8 tos, .int .u16 id, .bool keep, .int .u8 ttl, .int .u8 proto, .int .u32 src, .int .u32 dst, .slice ao zo.length co, sd] 26)).alloc (.cells #[.int .u16 sp, .int .u16 dp, .int .u32 sq, .int .u32 ak, .int .u8 fl, .int .u16 wn, .int .u16 ur, .slice aO os.length cO, .slice am zm.length cm] 29)) (.cells zcc.toArray 26)
    simpa only [World.size_alloc] using this
  have hs0 : (((w.alloc (.cells #[.int .u8 tos, .int .u16 id, .bool keep, .int .u8 ttl, .int .u8 proto, .int .u32 src, .int .u32 dst, .slice ao zo.length co, sd] 26)).alloc (.cells #[.int .u16 sp, .int .u16 dp, .int .u32 sq, .int .u32 ak, .int .u8 fl, .int .u16 wn, .int .u16 ur, .slice aO os.length cO, .slice am zm.length cm] 29)).alloc (.cells zcc.toArray 26)).heap.size = w.heap.size + 1 + 1 + 1 := by simp
  have S0 := hide s0
  have P0 := hide p0
  have R0 := hide r0
  have HS0 := hide hs0
  clear p0 s0 r0 hs0
  go_enter Try.func11, Try.ntmps11
  go_wp2_with fail
  generalize ((w.alloc (.cells #[.int .u8 tos, .int .u16 id, .bool keep, .int .u8 ttl, .int .u8 proto, .int .u32 src, .int .u32 dst, .slice ao zo.length co, sd] 26)).alloc (.cells #[.int .u16 sp, .int .u16 dp, .int .u32 sq, .int .u32 ak, .int .u8 fl, .int .u16 wn, .int .u16 ur, .slice aO os.length cO, .slice am zm.length cm] 29)).alloc (.cells zcc.toArray 26) = W0 at *
  refine (optionBytes_any _ os W0 hBO ((hIO.below hb0).mono hb0.size) hlO).mono ?_
  rintro e w1 ⟨hb1, ⟨hno, rfl⟩ | ⟨hyes, aB, cB, rfl, hOB⟩⟩
  · have r1 := later_keep hb1 R0.out
    have hw1 := hb0.trans (hb1.mono hb0.size)
    have HF : Hid (bte os zo.length zm.length = 4) := by show _ = _; unfold bte; rw [if_neg hno]
    have K1 := block_cell r1
    have F1 := block_frozen r1
    clear hno
    go_wp2_with fail
    generalize hV : ((((((((w1.setCell ⟨w.heap.size + 1 + 1, 0, none⟩ _).setCell ⟨w.heap.size + 1 + 1, 1, none⟩ _).setCell ⟨w.heap.size + 1 + 1, 2, none⟩ _).setCell ⟨w.heap.size + 1 + 1, 3, none⟩ _).setCell ⟨w.heap.size + 1 + 1, 4, none⟩ _).setCell ⟨w.heap.size + 1 + 1, 5, none⟩ _).setCell ⟨w.heap.size + 1 + 1, 6, none⟩ _).setCell ⟨w.heap.size + 1 + 1, 7, none⟩ _).setCell ⟨w.heap.size + 1 + 1, 8, none⟩ _ = V8
    have hV9 : V8 = putRow w1 (w.heap.size + 1 + 1) 0 zcc := hV.symm
    have hb8 : But (fun b => b = w.heap.size + 1 + 1) w1 V8 := by rw [hV9]; exact putRow_but (E := fun b => b = w.heap.size + 1 + 1) (n := w.heap.size + 1 + 1) rfl _ _ _ _ (But.refl _ _)
    have p8 := putRow_all zcc r1 rfl
    rw [← hV9] at p8
    clear hV hV9
    have P8 := block_cell p8
    have hw8 : Below w.heap.size w V8 := (hw1).trans (hb8.below (hw1).size (fun k h e => by omega))
    exact bodyPost_ret (v := .tuple #[.agg zcc.toArray, .int .i64 4]) (by simp [results, Try.results11, go_sem, P8]) rfl (⟨hw8, .inl ⟨by rw [HF.out]; decide, by rw [HF.out]⟩⟩)
  · have r1 := later_keep hb1 R0.out
    have p1 := later_keep hb1 P0.out
    have s1 := later_keep hb1 S0.out
    have hw1 := hb0.trans (hb1.mono hb0.size)
    have hsz1 : w.heap.size + 1 + 1 + 1 ≤ w1.heap.size := by have := hb1.size; have := HS0.out; omega
    have hBt : Hid (bte os zo.length zm.length = flt zo.length (20 + (pad (obs os)).length + zm.length)) := by show _ = _; unfold bte; rw [if_pos hyes]
    have h40 : (pad (obs os)).length ≤ 40 := pad_le _ hyes.2
    have hm4 : (pad (obs os)).length % 4 = 0 := pad_mod _
    have hBp := By_pad _ (By_obs os hBO hyes.2)
    have HYES := hide hyes
    have HBP := hide hBp
    clear hyes hBp P0 R0 S0 HS0 hb1 hb0
    have K1 := block_cell s1
    go_upto_region 6 with fail
    have hHu : HSt [.int .u8 6] 63 w1.heap.size (fun _ => False) [] (w1.alloc (.cells #[.slice none 0 0, .int .u8 6] 63)) := ⟨.slice none 0 0, heap_alloc_new _ _, World.ownsRow_nil _ _ _ _, fun _ h => by cases h⟩
    have hEu : But (fun b => w1.heap.size ≤ b) w1 (w1.alloc (.cells #[.slice none 0 0, .int .u8 6] 63)) := But.of ((Below.refl _ w1).alloc (Nat.le_refl _) _)
    have hsu : w1.heap.size + 1 ≤ (w1.alloc (.cells #[.slice none 0 0, .int .u8 6] 63)).heap.size := by simp
    generalize w1.alloc (.cells #[.slice none 0 0, .int .u8 6] 63) = wxu at *
    clear K1
    have Ku := block_cell ((hEu.block (w.heap.size + 1) (by omega) (by omega)).trans s1)
    have hA := hHu.alloc (.cells ([sp, dp].map (Value.int .u16)).toArray 22)
    have hkA := heap_alloc_new wxu (.cells ([sp, dp].map (Value.int .u16)).toArray 22)
    go_wp2_with fail
    refine (hput16_any [.int .u8 6] 63 22 w1.heap.size wxu.heap.size 2 (fun b => False ∨ b = wxu.heap.size) _ [sp, dp] _ hA (fun b hb => by rcases hb with h | h; exact h.elim; subst h; exact ⟨by simp, by have := hsu; omega⟩) (.inr rfl) hkA (by intro n hn; simp at hn; omega) (by simp [b2, b4]) (by simp)).mono ?_
    rintro e wxa ⟨rfl, hHa', hX⟩
    have hHa : HSt [.int .u8 6] 63 w1.heap.size (fun _ => False) _ wxa := hHa'.weaken (fun _ h => h.elim)
    have hEa : But (fun b => w1.heap.size ≤ b) w1 wxa := hEu.trans ((But.of ((Below.refl _ wxu).alloc (Nat.le_refl _) _)).trans (hX.wk fun b h => h.1))
    have hsa : w1.heap.size + 1 ≤ wxa.heap.size := Nat.le_trans hsu (((But.of ((Below.refl _ wxu).alloc (Nat.le_refl _) _)).trans (hX.wk (E' := fun b => w1.heap.size ≤ b) fun b h => h.1)).size)
    have Ka := block_cell ((hEa.block (w.heap.size + 1) (by omega) (by omega)).trans s1)
    clear hA hkA hX hHa' hHu hEu Ku
    have hA := hHa.alloc (.cells ([sq, ak].map (Value.int .u32)).toArray 23)
    have hkA := heap_alloc_new wxa (.cells ([sq, ak].map (Value.int .u32)).toArray 23)
    go_wp2_with fail
    refine (hput32_any [.int .u8 6] 63 23 w1.heap.size wxa.heap.size 2 (fun b => False ∨ b = wxa.heap.size) _ [sq, ak] _ hA (fun b hb => by rcases hb with h | h; exact h.elim; subst h; exact ⟨by simp, by have := hsa; omega⟩) (.inr rfl) hkA (by intro n hn; simp at hn; omega) (by simp [b2, b4]) (by simp)).mono ?_
    rintro e wxb ⟨rfl, hHb', hX⟩
    have hHb : HSt [.int .u8 6] 63 w1.heap.size (fun _ => False) _ wxb := hHb'.weaken (fun _ h => h.elim)
    have hEb : But (fun b => w1.heap.size ≤ b) w1 wxb := hEa.trans ((But.of ((Below.refl _ wxa).alloc (Nat.le_refl _) _)).trans (hX.wk fun b h => h.1))
    have hsb : w1.heap.size + 1 ≤ wxb.heap.size := Nat.le_trans hsa (((But.of ((Below.refl _ wxa).alloc (Nat.le_refl _) _)).trans (hX.wk (E' := fun b => w1.heap.size ≤ b) fun b h => h.1)).size)
    have Kb := block_cell ((hEb.block (w.heap.size + 1) (by omega) (by omega)).trans s1)
    clear hA hkA hX hHb' hHa hEa Ka
    go_wp2_with fail
    have hRn := Rd.new [(20 + ((pad (obs os)).length : Int)) / 4 * 16, fl] 5 wxb (by simp) (by simp)
    refine (put_any [.int .u8 6] 63 w1.heap.size (fun _ => False) _ _ [(20 + ((pad (obs os)).length : Int)) / 4 * 16, fl] _ _ (hHb.below ((Below.refl _ wxb).alloc (Nat.le_refl _) _)) (fun b hb => hb.elim) hRn (by simp [b2, b4])).mono ?_
    rintro e wxc ⟨rfl, hHc, hX⟩
    have hEc : But (fun b => w1.heap.size ≤ b) w1 wxc := hEb.trans ((But.of ((Below.refl _ wxb).alloc (Nat.le_refl _) _)).trans (hX.wk fun b h => h.1))
    have hsc : w1.heap.size + 1 ≤ wxc.heap.size := Nat.le_trans hsb (((But.of ((Below.refl _ wxb).alloc (Nat.le_refl _) _)).trans (hX.wk (E' := fun b => w1.heap.size ≤ b) fun b h => h.1)).size)
    have Kc := block_cell ((hEc.block (w.heap.size + 1) (by omega) (by omega)).trans s1)
    clear hRn hX hHb hEb Kb
    have hA := hHc.alloc (.cells ([wn, 0, ur].map (Value.int .u16)).toArray 22)
    have hkA := heap_alloc_new wxc (.cells ([wn, 0, ur].map (Value.int .u16)).toArray 22)
    go_wp2_with fail
    refine (hput16_any [.int .u8 6] 63 22 w1.heap.size wxc.heap.size 3 (fun b => False ∨ b = wxc.heap.size) _ [wn, 0, ur] _ hA (fun b hb => by rcases hb with h | h; exact h.elim; subst h; exact ⟨by simp, by have := hsc; omega⟩) (.inr rfl) hkA (by intro n hn; simp at hn; omega) (by simp [b2, b4]) (by simp)).mono ?_
    rintro e wxd ⟨rfl, hHd', hX⟩
    have hHd : HSt [.int .u8 6] 63 w1.heap.size (fun _ => False) _ wxd := hHd'.weaken (fun _ h => h.elim)
    have hEd : But (fun b => w1.heap.size ≤ b) w1 wxd := hEc.trans ((But.of ((Below.refl _ wxc).alloc (Nat.le_refl _) _)).trans (hX.wk fun b h => h.1))
    have hsd : w1.heap.size + 1 ≤ wxd.heap.size := Nat.le_trans hsc (((But.of ((Below.refl _ wxc).alloc (Nat.le_refl _) _)).trans (hX.wk (E' := fun b => w1.heap.size ≤ b) fun b h => h.1)).size)
    have Kd := block_cell ((hEd.block (w.heap.size + 1) (by omega) (by omega)).trans s1)
    clear hA hkA hX hHd' hHc hEc Kc
    go_wp2_with fail
    have hRB := hOB.rd.below (hEd.below (Nat.le_refl _) (fun k h e => by omega))
    refine (put_any [.int .u8 6] 63 w1.heap.size (fun _ => False) _ _ (pad (obs os)) _ _ hHd (fun b hb => hb.elim) hRB (by simp [b2, b4]; omega)).mono ?_
    rintro e wxe ⟨rfl, hHe, hX⟩
    have hEe : But (fun b => w1.heap.size ≤ b) w1 wxe := hEd.trans ((hX.wk fun b h => h.1))
    have hse : w1.heap.size + 1 ≤ wxe.heap.size := Nat.le_trans hsd (((hX.wk (E' := fun b => w1.heap.size ≤ b) fun b h => h.1)).size)
    have Ke := block_cell ((hEe.block (w.heap.size + 1) (by omega) (by omega)).trans s1)
    clear hRB hX hHd hEd Kd
    go_wp2_with fail
    have hwe : Below w.heap.size w wxe := hw1.trans (hEe.below (by omega) (fun k h e => by omega))
    refine (put_any [.int .u8 6] 63 w1.heap.size (fun _ => False) _ _ zm _ _ hHe (fun b hb => hb.elim) (hIm.below hwe) (by simp [b2, b4]; omega)).mono ?_
    rintro e wxf ⟨rfl, hHf, hX⟩
    have hEf : But (fun b => w1.heap.size ≤ b) w1 wxf := hEe.trans ((hX.wk fun b h => h.1))
    have hsf : w1.heap.size + 1 ≤ wxf.heap.size := Nat.le_trans hse (((hX.wk (E' := fun b => w1.heap.size ≤ b) fun b h => h.1)).size)
    have Kf := block_cell ((hEf.block (w.heap.size + 1) (by omega) (by omega)).trans s1)
    clear hX hHe hEe Ke hwe
    have HU : Hid ([] ++ [sp, dp].flatMap b2 ++ [sq, ak].flatMap b4 ++ [(20 + ((pad (obs os)).length : Int)) / 4 * 16, fl] ++ [wn, 0, ur].flatMap b2 ++ pad (obs os) ++ zm = (tcp0 sp dp sq ak fl wn ur (pad (obs os)) zm)) := by show _ = _; rw [List.nil_append]; rfl
    rw [HU.out] at hHf
    have hw2 : Below w.heap.size w wxf := hw1.trans (hEf.below (by omega) (fun k h e => by omega))
    have p2 := (hEf.block w.heap.size (by omega) (by omega)).trans p1
    have r2 := (hEf.block (w.heap.size + 1 + 1) (by omega) (by omega)).trans r1
    clear Kf hEf HU p1 r1 s1 hOB
    obtain ⟨v2, u2, hown2, _⟩ := hHf
    have hOu := Ow.of_row hown2
    obtain ⟨av, cv, rfl, _, _⟩ := hOu.slice
    have K2 := block_cell p2
    have hB0 := By_tcp0 sp dp sq ak fl wn ur (pad (obs os)) zm hsp hdp hsq hak hfl hwn hur h40 HBP.out hBm
    have HTL := hide (tcp0_length sp dp sq ak fl wn ur (pad (obs os)) zm)
    go_wp2_with fail
    refine (upacked_any tos id ttl proto src dst 6 keep _ _ _ zo (tcp0 sp dp sq ak fl wn ur (pad (obs os)) zm) wxf w1.heap.size _ u2 hBo ((hIo.below hw2).mono hw2.size) hOu.rd h1 (by rw [HTL.out]; omega) ht hid htt (by omega) hsr hds).mono ?_
    rw [HTL.out] at hOu ⊢
    clear K2 u2 hown2 p2
    have HTC : Hid (tcp sp dp sq ak fl wn ur (pad (obs os)) src dst zm = Mt.put2 (tcp0 sp dp sq ak fl wn ur (pad (obs os)) zm) 16 (Mt.cks (psd src dst 6 (20 + (pad (obs os)).length + zm.length) ++ (tcp0 sp dp sq ak fl wn ur (pad (obs os)) zm)))) := rfl
    rintro e w3 ⟨hb3, ⟨hf, rfl⟩ | ⟨hf, ao3, co3, rfl, hO3⟩⟩
    · have hf' : (flt zo.length (20 + (pad (obs os)).length + zm.length) != 0) = true := by simp [hf]
      have HF := hide hf
      have r3 := (hb3.block (w.heap.size + 1 + 1) (by omega)).trans r2
      have hw3 := hw2.trans (hb3.mono hw2.size)
      clear hf r2
      go_upto_region 14 with fail
      generalize hV : w3.alloc _ = W4
      have W4l : Later w3 W4 := by rw [← hV]; exact (Below.refl _ w3).alloc (Nat.le_refl _) _
      clear hV
      have r4 := (W4l.block (w.heap.size + 1 + 1) (by have := hb3.size; omega)).trans r3
      have hw4 := hw3.trans (W4l.mono hw3.size)
      have K4 := block_cell r4
      have F4 := block_frozen r4
      clear r3 hb3
      go_wp2_with fail
      generalize hV : ((((((((W4.setCell ⟨w.heap.size + 1 + 1, 0, none⟩ _).setCell ⟨w.heap.size + 1 + 1, 1, none⟩ _).setCell ⟨w.heap.size + 1 + 1, 2, none⟩ _).setCell ⟨w.heap.size + 1 + 1, 3, none⟩ _).setCell ⟨w.heap.size + 1 + 1, 4, none⟩ _).setCell ⟨w.heap.size + 1 + 1, 5, none⟩ _).setCell ⟨w.heap.size + 1 + 1, 6, none⟩ _).setCell ⟨w.heap.size + 1 + 1, 7, none⟩ _).setCell ⟨w.heap.size + 1 + 1, 8, none⟩ _ = V8
      have hV9 : V8 = putRow W4 (w.heap.size + 1 + 1) 0 zcc := hV.symm
      have hb8 : But (fun b => b = w.heap.size + 1 + 1) W4 V8 := by rw [hV9]; exact putRow_but (E := fun b => b = w.heap.size + 1 + 1) (n := w.heap.size + 1 + 1) rfl _ _ _ _ (But.refl _ _)
      have p8 := putRow_all zcc r4 rfl
      rw [← hV9] at p8
      clear hV hV9
      have P8 := block_cell p8
      have hw8 : Below w.heap.size w V8 := (hw4).trans (hb8.below (hw4).size (fun k h e => by omega))
      exact bodyPost_ret (v := .tuple #[.agg zcc.toArray, .int .i64 (flt zo.length (20 + (pad (obs os)).length + zm.length))]) (by simp [results, Try.results11, go_sem, P8]) rfl (⟨hw8, .inl ⟨by rw [hBt.out]; exact HF.out, by rw [hBt.out]⟩⟩)
    · have HF : Hid (bte os zo.length zm.length = 0) := by show _ = _; rw [hBt.out]; exact hf
      have r3 := (hb3.block (w.heap.size + 1 + 1) (by omega)).trans r2
      have hw3 := hw2.trans (hb3.mono hw2.size)
      have hs3 := hb3.size
      have hOu3 := hOu.later hb3
      clear hf r2
      go_upto_region 15 with fail
      generalize hV : w3.alloc _ = W4
      have W4l : Later w3 W4 := by rw [← hV]; exact (Below.refl _ w3).alloc (Nat.le_refl _) _
      have W4q : W4.heap[w3.heap.size]? = some (.cells [.int .u8 tos, .int .u16 id, .bool keep, .int .u8 ttl, .int .u8 6, .int .u32 src, .int .u32 dst, .slice ao3 zo.length co3, .slice av (20 + (pad (obs os)).length + zm.length) cv].toArray 26 (0, 0)) := by rw [← hV]; exact heap_alloc_new w3 _
      clear hV
      have r4 := (W4l.block (w.heap.size + 1 + 1) (by omega)).trans r3
      have hw4 := hw3.trans (W4l.mono hw3.size)
      have hO4 := hO3.later W4l
      have hOu4 := hOu3.later W4l
      clear r3 hO3 hOu3
      have hBS := (By_psd src dst 6 (20 + (pad (obs os)).length + zm.length) hsr hds (by omega)).append hB0
      have HLS : Hid ((psd src dst 6 (20 + (pad (obs os)).length + zm.length) ++ (tcp0 sp dp sq ak fl wn ur (pad (obs os)) zm)).length = 12 + (20 + (pad (obs os)).length + zm.length)) := by show _ = _; rw [List.length_append, psd_length, HTL.out]
      refine anyT_begin (R := But (fun b => b = w3.heap.size)) 8 rfl (by kernel_rfl) ?_
      have hd : Later W4 W4.drew := Later.drew W4
      have q5 := later_keep hd W4q
      have r5 := later_keep hd r4
      have hw5 := hw4.trans (hd.mono hw4.size)
      have hO5 := hO4.later hd
      have hOu5 := hOu4.later hd
      clear W4q r4 hO4 hOu4
      generalize W4.drew = W5 at *
      have Q5 := block_cell q5
      refine anyT_val (But.pre _) 0 rfl (by kernel_rfl) (by kernel_rfl) (by kernel_rfl) (fun _ _ _ _ h => h) rfl ?_; apply Exists.intro; refine ⟨fun v1 hv1 => ?_, ?_⟩; (· (go_simp; rfl)); simp only [Act.put, List.setIfInBounds_toArray, List.set_cons_zero, List.set_cons_succ]
      refine anyT_two 1 2 rfl rfl (by kernel_rfl) rfl rfl ?_ ?_
      · unfold Oper.wp
        go_simp
        refine ⟨But.refl _ _, ?_⟩
        refine anyT_one 2 rfl (by kernel_rfl) rfl ?_
        unfold Oper.wp
        go_simp
        refine ⟨But.refl _ _, ?_⟩
        refine anyT_one 3 rfl (by kernel_rfl) rfl ?_
        refine wp_enter 36 #[.agg #[.int .u8 tos, .int .u16 id, .bool keep, .int .u8 ttl, .int .u8 6, .int .u32 src, .int .u32 dst, .slice ao3 zo.length co3, .slice av (20 + (pad (obs os)).length + zm.length) cv]] (by go_simp) ?_
        refine (summed_any tos id ttl 6 src dst keep _ _ (tcp0 sp dp sq ak fl wn ur (pad (obs os)) zm) W5 hOu5.rd (by rw [HTL.out]; omega) hsr hds).mono ?_
        rw [HTL.out]
        rintro e W6 ⟨a6', c6', rfl, hS6, hb6⟩
        refine ⟨But.of hb6, ?_⟩
        simp only [Act.put, List.setIfInBounds_toArray, List.set_cons_zero, List.set_cons_succ]
        refine anyT_one 4 rfl (by kernel_rfl) rfl ?_
        refine wp_enter 35 #[.slice a6' (12 + (20 + (pad (obs os)).length + zm.length)) c6'] (by go_simp) ?_
        refine (sum_any _ (psd src dst 6 (20 + (pad (obs os)).length + zm.length) ++ (tcp0 sp dp sq ak fl wn ur (pad (obs os)) zm)) hBS (by rw [HLS.out]; omega) W6 hS6.rd).mono ?_
        rintro e W7 ⟨rfl, hb7⟩
        refine ⟨But.of hb7, ?_⟩
        simp only [Act.put, List.setIfInBounds_toArray, List.set_cons_zero, List.set_cons_succ]
        have hb57 : Later W5 W7 := hb6.trans (hb7.mono hb6.size)
        have hO7 := hO5.later hb57
        have hOu7 := hOu5.later hb57
        have r7 := later_keep hb57 r5
        have q7 := later_keep hb57 q5
        have hw7 := hw5.trans (hb57.mono hw5.size)
        have hq5 := (Array.getElem?_eq_some_iff.1 q5).1
        have hcb := Mt.cks_bd (psd src dst 6 (20 + (pad (obs os)).length + zm.length) ++ (tcp0 sp dp sq ak fl wn ur (pad (obs os)) zm))
        refine anyT_one 5 rfl (by kernel_rfl) rfl ?_
        refine wp_enter 34 #[.slice av (20 + (pad (obs os)).length + zm.length) cv, .int .i64 16, .int .u16 (Mt.cks (psd src dst 6 (20 + (pad (obs os)).length + zm.length) ++ (tcp0 sp dp sq ak fl wn ur (pad (obs os)) zm)))] (by go_simp) ?_
        refine (put16_any _ (tcp0 sp dp sq ak fl wn ur (pad (obs os)) zm) 16 (Mt.cks (psd src dst 6 (20 + (pad (obs os)).length + zm.length) ++ (tcp0 sp dp sq ak fl wn ur (pad (obs os)) zm))) W7 (by rw [HTL.out]; omega) hOu7.rd hcb).mono ?_
        rw [HTL.out]
        rintro e W8 ⟨a6, rfl, hO8, hb8'⟩
        rw [putAt2_lit _ 16 16 _ rfl (by rw [HTL.out]; omega)] at hO8
        refine ⟨But.of hb8', ?_⟩
        simp only [Act.put, List.setIfInBounds_toArray, List.set_cons_zero, List.set_cons_succ]
        have r8 := later_keep hb8' r7
        have q8 := later_keep hb8' q7
        have hw8' := hw7.trans (hb8'.mono hw7.size)
        have hOo := hO7.later hb8'
        have hs57 := hb57.size
        have hs78 := hb8'.size
        clear hOu5 hO5 hOu7 hO7 r7 q7 r5 q5 Q5 hS6
        refine anyT_one 6 rfl (by kernel_rfl) rfl ?_
        unfold Oper.wp
        go_simp
        refine ⟨But.refl _ _, ?_⟩
        have Q8 := block_cell q8
        have F8 := block_frozen q8
        refine anyT_one 7 rfl (by kernel_rfl) rfl ?_
        unfold Oper.wp
        go_simp
        refine ⟨(But.refl (fun b => b = w3.heap.size) W8).setCell (p := ⟨w3.heap.size, 8, none⟩) rfl _, ?_⟩
        clear Q8 F8
        refine anyT_done (by kernel_rfl) ?_
        have E9 : But (fun b => b = w3.heap.size) W8 (W8.setCell ⟨w3.heap.size, 8, none⟩ (.slice a6 (20 + (pad (obs os)).length + zm.length) (20 + (pad (obs os)).length + zm.length))) := (But.refl (fun b => b = w3.heap.size) W8).setCell (p := ⟨w3.heap.size, 8, none⟩) rfl _
        have q9 : (W8.setCell ⟨w3.heap.size, 8, none⟩ (.slice a6 (20 + (pad (obs os)).length + zm.length) (20 + (pad (obs os)).length + zm.length))).heap[w3.heap.size]? = some (.cells [.int .u8 tos, .int .u16 id, .bool keep, .int .u8 ttl, .int .u8 6, .int .u32 src, .int .u32 dst, .slice ao3 zo.length co3, .slice a6 (20 + (pad (obs os)).length + zm.length) (20 + (pad (obs os)).length + zm.length)].toArray 26 (0, 0)) := heap_set1 q8 8 _
        generalize W8.setCell ⟨w3.heap.size, 8, none⟩ (.slice a6 (20 + (pad (obs os)).length + zm.length) (20 + (pad (obs os)).length + zm.length)) = W9 at *
        have r9 := (E9.block (w.heap.size + 1 + 1) (by omega) (by omega)).trans r8
        have hwL : Below w.heap.size w W9 := hw8'.trans (E9.below (by omega) (fun k h e => by omega))
        have hO9 := hOo.aside q8 (by decide) E9
        have hOd := hO8.aside q8 (by decide) E9
        have Q9 := block_cell q9
        have R9 := block_cell r9
        have F9 := block_frozen r9
        go_wp2_with fail
        generalize hV : ((((((((W9.setCell ⟨w.heap.size + 1 + 1, 0, none⟩ _).setCell ⟨w.heap.size + 1 + 1, 1, none⟩ _).setCell ⟨w.heap.size + 1 + 1, 2, none⟩ _).setCell ⟨w.heap.size + 1 + 1, 3, none⟩ _).setCell ⟨w.heap.size + 1 + 1, 4, none⟩ _).setCell ⟨w.heap.size + 1 + 1, 5, none⟩ _).setCell ⟨w.heap.size + 1 + 1, 6, none⟩ _).setCell ⟨w.heap.size + 1 + 1, 7, none⟩ _).setCell ⟨w.heap.size + 1 + 1, 8, none⟩ _ = V8
        have hV9 : V8 = putRow W9 (w.heap.size + 1 + 1) 0 [.int .u8 tos, .int .u16 id, .bool keep, .int .u8 ttl, .int .u8 6, .int .u32 src, .int .u32 dst, .slice ao3 zo.length co3, .slice a6 (20 + (pad (obs os)).length + zm.length) (20 + (pad (obs os)).length + zm.length)] := hV.symm
        have hb8 : But (fun b => b = w.heap.size + 1 + 1) W9 V8 := by rw [hV9]; exact putRow_but (E := fun b => b = w.heap.size + 1 + 1) (n := w.heap.size + 1 + 1) rfl _ _ _ _ (But.refl _ _)
        have p8 := putRow_all [.int .u8 tos, .int .u16 id, .bool keep, .int .u8 ttl, .int .u8 6, .int .u32 src, .int .u32 dst, .slice ao3 zo.length co3, .slice a6 (20 + (pad (obs os)).length + zm.length) (20 + (pad (obs os)).length + zm.length)] r9 rfl
        rw [← hV9] at p8
        clear hV hV9
        have P8 := block_cell p8
        have hw8 : Below w.heap.size w V8 := (hwL).trans (hb8.below (hwL).size (fun k h e => by omega))
        exact bodyPost_ret (v := .tuple #[.agg #[.int .u8 tos, .int .u16 id, .bool keep, .int .u8 ttl, .int .u8 6, .int .u32 src, .int .u32 dst, .slice ao3 zo.length co3, .slice a6 (20 + (pad (obs os)).length + zm.length) (20 + (pad (obs os)).length + zm.length)], .int .i64 0]) (by simp [results, Try.results11, go_sem, P8]) rfl (⟨hw8, .inr ⟨HF.out, _, _, _, _, rfl, (hO9.but hb8 (fun b h e => by omega)).mono hw2.size, by rw [HTC.out]; exact (hOd.but hb8 (fun b h e => by omega)).mono (by omega)⟩⟩)
      · unfold Oper.wp
        go_simp
        refine ⟨But.refl _ _, ?_⟩
        refine anyT_two 1 3 rfl rfl (by kernel_rfl) rfl rfl ?_ ?_
        · unfold Oper.wp
          go_simp
          refine ⟨But.refl _ _, ?_⟩
          refine anyT_one 3 rfl (by kernel_rfl) rfl ?_
          refine wp_enter 36 #[.agg #[.int .u8 tos, .int .u16 id, .bool keep, .int .u8 ttl, .int .u8 6, .int .u32 src, .int .u32 dst, .slice ao3 zo.length co3, .slice av (20 + (pad (obs os)).length + zm.length) cv]] (by go_simp) ?_
          refine (summed_any tos id ttl 6 src dst keep _ _ (tcp0 sp dp sq ak fl wn ur (pad (obs os)) zm) W5 hOu5.rd (by rw [HTL.out]; omega) hsr hds).mono ?_
          rw [HTL.out]
          rintro e W6 ⟨a6', c6', rfl, hS6, hb6⟩
          refine ⟨But.of hb6, ?_⟩
          simp only [Act.put, List.setIfInBounds_toArray, List.set_cons_zero, List.set_cons_succ]
          refine anyT_one 4 rfl (by kernel_rfl) rfl ?_
          refine wp_enter 35 #[.slice a6' (12 + (20 + (pad (obs os)).length + zm.length)) c6'] (by go_simp) ?_
          refine (sum_any _ (psd src dst 6 (20 + (pad (obs os)).length + zm.length) ++ (tcp0 sp dp sq ak fl wn ur (pad (obs os)) zm)) hBS (by rw [HLS.out]; omega) W6 hS6.rd).mono ?_
          rintro e W7 ⟨rfl, hb7⟩
          refine ⟨But.of hb7, ?_⟩
          simp only [Act.put, List.setIfInBounds_toArray, List.set_cons_zero, List.set_cons_succ]
          have hb57 : Later W5 W7 := hb6.trans (hb7.mono hb6.size)
          have hO7 := hO5.later hb57
          have hOu7 := hOu5.later hb57
          have r7 := later_keep hb57 r5
          have q7 := later_keep hb57 q5
          have hw7 := hw5.trans (hb57.mono hw5.size)
          have hq5 := (Array.getElem?_eq_some_iff.1 q5).1
          have hcb := Mt.cks_bd (psd src dst 6 (20 + (pad (obs os)).length + zm.length) ++ (tcp0 sp dp sq ak fl wn ur (pad (obs os)) zm))
          refine anyT_one 5 rfl (by kernel_rfl) rfl ?_
          refine wp_enter 34 #[.slice av (20 + (pad (obs os)).length + zm.length) cv, .int .i64 16, .int .u16 (Mt.cks (psd src dst 6 (20 + (pad (obs os)).length + zm.length) ++ (tcp0 sp dp sq ak fl wn ur (pad (obs os)) zm)))] (by go_simp) ?_
          refine (put16_any _ (tcp0 sp dp sq ak fl wn ur (pad (obs os)) zm) 16 (Mt.cks (psd src dst 6 (20 + (pad (obs os)).length + zm.length) ++ (tcp0 sp dp sq ak fl wn ur (pad (obs os)) zm))) W7 (by rw [HTL.out]; omega) hOu7.rd hcb).mono ?_
          rw [HTL.out]
          rintro e W8 ⟨a6, rfl, hO8, hb8'⟩
          rw [putAt2_lit _ 16 16 _ rfl (by rw [HTL.out]; omega)] at hO8
          refine ⟨But.of hb8', ?_⟩
          simp only [Act.put, List.setIfInBounds_toArray, List.set_cons_zero, List.set_cons_succ]
          have r8 := later_keep hb8' r7
          have q8 := later_keep hb8' q7
          have hw8' := hw7.trans (hb8'.mono hw7.size)
          have hOo := hO7.later hb8'
          have hs57 := hb57.size
          have hs78 := hb8'.size
          clear hOu5 hO5 hOu7 hO7 r7 q7 r5 q5 Q5 hS6
          refine anyT_one 6 rfl (by kernel_rfl) rfl ?_
          unfold Oper.wp
          go_simp
          refine ⟨But.refl _ _, ?_⟩
          have Q8 := block_cell q8
          have F8 := block_frozen q8
          refine anyT_one 7 rfl (by kernel_rfl) rfl ?_
          unfold Oper.wp
          go_simp
          refine ⟨(But.refl (fun b => b = w3.heap.size) W8).setCell (p := ⟨w3.heap.size, 8, none⟩) rfl _, ?_⟩
          clear Q8 F8
          refine anyT_done (by kernel_rfl) ?_
          have E9 : But (fun b => b = w3.heap.size) W8 (W8.setCell ⟨w3.heap.size, 8, none⟩ (.slice a6 (20 + (pad (obs os)).length + zm.length) (20 + (pad (obs os)).length + zm.length))) := (But.refl (fun b => b = w3.heap.size) W8).setCell (p := ⟨w3.heap.size, 8, none⟩) rfl _
          have q9 : (W8.setCell ⟨w3.heap.size, 8, none⟩ (.slice a6 (20 + (pad (obs os)).length + zm.length) (20 + (pad (obs os)).length + zm.length))).heap[w3.heap.size]? = some (.cells [.int .u8 tos, .int .u16 id, .bool keep, .int .u8 ttl, .int .u8 6, .int .u32 src, .int .u32 dst, .slice ao3 zo.length co3, .slice a6 (20 + (pad (obs os)).length + zm.length) (20 + (pad (obs os)).length + zm.length)].toArray 26 (0, 0)) := heap_set1 q8 8 _
          generalize W8.setCell ⟨w3.heap.size, 8, none⟩ (.slice a6 (20 + (pad (obs os)).length + zm.length) (20 + (pad (obs os)).length + zm.length)) = W9 at *
          have r9 := (E9.block (w.heap.size + 1 + 1) (by omega) (by omega)).trans r8
          have hwL : Below w.heap.size w W9 := hw8'.trans (E9.below (by omega) (fun k h e => by omega))
          have hO9 := hOo.aside q8 (by decide) E9
          have hOd := hO8.aside q8 (by decide) E9
          have Q9 := block_cell q9
          have R9 := block_cell r9
          have F9 := block_frozen r9
          go_wp2_with fail
          generalize hV : ((((((((W9.setCell ⟨w.heap.size + 1 + 1, 0, none⟩ _).setCell ⟨w.heap.size + 1 + 1, 1, none⟩ _).setCell ⟨w.heap.size + 1 + 1, 2, none⟩ _).setCell ⟨w.heap.size + 1 + 1, 3, none⟩ _).setCell ⟨w.heap.size + 1 + 1, 4, none⟩ _).setCell ⟨w.heap.size + 1 + 1, 5, none⟩ _).setCell ⟨w.heap.size + 1 + 1, 6, none⟩ _).setCell ⟨w.heap.size + 1 + 1, 7, none⟩ _).setCell ⟨w.heap.size + 1 + 1, 8, none⟩ _ = V8
          have hV9 : V8 = putRow W9 (w.heap.size + 1 + 1) 0 [.int .u8 tos, .int .u16 id, .bool keep, .int .u8 ttl, .int .u8 6, .int .u32 src, .int .u32 dst, .slice ao3 zo.length co3, .slice a6 (20 + (pad (obs os)).length + zm.length) (20 + (pad (obs os)).length + zm.length)] := hV.symm
          have hb8 : But (fun b => b = w.heap.size + 1 + 1) W9 V8 := by rw [hV9]; exact putRow_but (E := fun b => b = w.heap.size + 1 + 1) (n := w.heap.size + 1 + 1) rfl _ _ _ _ (But.refl _ _)
          have p8 := putRow_all [.int .u8 tos, .int .u16 id, .bool keep, .int .u8 ttl, .int .u8 6, .int .u32 src, .int .u32 dst, .slice ao3 zo.length co3, .slice a6 (20 + (pad (obs os)).length + zm.length) (20 + (pad (obs os)).length + zm.length)] r9 rfl
          rw [← hV9] at p8
          clear hV hV9
          have P8 := block_cell p8
          have hw8 : Below w.heap.size w V8 := (hwL).trans (hb8.below (hwL).size (fun k h e => by omega))
          exact bodyPost_ret (v := .tuple #[.agg #[.int .u8 tos, .int .u16 id, .bool keep, .int .u8 ttl, .int .u8 6, .int .u32 src, .int .u32 dst, .slice ao3 zo.length co3, .slice a6 (20 + (pad (obs os)).length + zm.length) (20 + (pad (obs os)).length + zm.length)], .int .i64 0]) (by simp [results, Try.results11, go_sem, P8]) rfl (⟨hw8, .inr ⟨HF.out, _, _, _, _, rfl, (hO9.but hb8 (fun b h e => by omega)).mono hw2.size, by rw [HTC.out]; exact (hOd.but hb8 (fun b h e => by omega)).mono (by omega)⟩⟩)
        · refine wp_enter 36 #[.agg #[.int .u8 tos, .int .u16 id, .bool keep, .int .u8 ttl, .int .u8 6, .int .u32 src, .int .u32 dst, .slice ao3 zo.length co3, .slice av (20 + (pad (obs os)).length + zm.length) cv]] (by go_simp) ?_
          refine (summed_any tos id ttl 6 src dst keep _ _ (tcp0 sp dp sq ak fl wn ur (pad (obs os)) zm) W5 hOu5.rd (by rw [HTL.out]; omega) hsr hds).mono ?_
          rw [HTL.out]
          rintro e W6 ⟨a6', c6', rfl, hS6, hb6⟩
          refine ⟨But.of hb6, ?_⟩
          simp only [Act.put, List.setIfInBounds_toArray, List.set_cons_zero, List.set_cons_succ]
          have Q6 := block_cell (later_keep hb6 q5)
          refine anyT_two 1 4 rfl rfl (by kernel_rfl) rfl rfl ?_ ?_
          · unfold Oper.wp
            go_simp
            refine ⟨But.refl _ _, ?_⟩
            refine anyT_one 4 rfl (by kernel_rfl) rfl ?_
            refine wp_enter 35 #[.slice a6' (12 + (20 + (pad (obs os)).length + zm.length)) c6'] (by go_simp) ?_
            refine (sum_any _ (psd src dst 6 (20 + (pad (obs os)).length + zm.length) ++ (tcp0 sp dp sq ak fl wn ur (pad (obs os)) zm)) hBS (by rw [HLS.out]; omega) W6 hS6.rd).mono ?_
            rintro e W7 ⟨rfl, hb7⟩
            refine ⟨But.of hb7, ?_⟩
            simp only [Act.put, List.setIfInBounds_toArray, List.set_cons_zero, List.set_cons_succ]
            clear Q6
            have hb57 : Later W5 W7 := hb6.trans (hb7.mono hb6.size)
            have hO7 := hO5.later hb57
            have hOu7 := hOu5.later hb57
            have r7 := later_keep hb57 r5
            have q7 := later_keep hb57 q5
            have hw7 := hw5.trans (hb57.mono hw5.size)
            have hq5 := (Array.getElem?_eq_some_iff.1 q5).1
            have hcb := Mt.cks_bd (psd src dst 6 (20 + (pad (obs os)).length + zm.length) ++ (tcp0 sp dp sq ak fl wn ur (pad (obs os)) zm))
            refine anyT_one 5 rfl (by kernel_rfl) rfl ?_
            refine wp_enter 34 #[.slice av (20 + (pad (obs os)).length + zm.length) cv, .int .i64 16, .int .u16 (Mt.cks (psd src dst 6 (20 + (pad (obs os)).length + zm.length) ++ (tcp0 sp dp sq ak fl wn ur (pad (obs os)) zm)))] (by go_simp) ?_
            refine (put16_any _ (tcp0 sp dp sq ak fl wn ur (pad (obs os)) zm) 16 (Mt.cks (psd src dst 6 (20 + (pad (obs os)).length + zm.length) ++ (tcp0 sp dp sq ak fl wn ur (pad (obs os)) zm))) W7 (by rw [HTL.out]; omega) hOu7.rd hcb).mono ?_
            rw [HTL.out]
            rintro e W8 ⟨a6, rfl, hO8, hb8'⟩
            rw [putAt2_lit _ 16 16 _ rfl (by rw [HTL.out]; omega)] at hO8
            refine ⟨But.of hb8', ?_⟩
            simp only [Act.put, List.setIfInBounds_toArray, List.set_cons_zero, List.set_cons_succ]
            have r8 := later_keep hb8' r7
            have q8 := later_keep hb8' q7
            have hw8' := hw7.trans (hb8'.mono hw7.size)
            have hOo := hO7.later hb8'
            have hs57 := hb57.size
            have hs78 := hb8'.size
            clear hOu5 hO5 hOu7 hO7 r7 q7 r5 q5 Q5 hS6
            refine anyT_one 6 rfl (by kernel_rfl) rfl ?_
            unfold Oper.wp
            go_simp
            refine ⟨But.refl _ _, ?_⟩
            have Q8 := block_cell q8
            have F8 := block_frozen q8
            refine anyT_one 7 rfl (by kernel_rfl) rfl ?_
            unfold Oper.wp
            go_simp
            refine ⟨(But.refl (fun b => b = w3.heap.size) W8).setCell (p := ⟨w3.heap.size, 8, none⟩) rfl _, ?_⟩
            clear Q8 F8
            refine anyT_done (by kernel_rfl) ?_
            have E9 : But (fun b => b = w3.heap.size) W8 (W8.setCell ⟨w3.heap.size, 8, none⟩ (.slice a6 (20 + (pad (obs os)).length + zm.length) (20 + (pad (obs os)).length + zm.length))) := (But.refl (fun b => b = w3.heap.size) W8).setCell (p := ⟨w3.heap.size, 8, none⟩) rfl _
            have q9 : (W8.setCell ⟨w3.heap.size, 8, none⟩ (.slice a6 (20 + (pad (obs os)).length + zm.length) (20 + (pad (obs os)).length + zm.length))).heap[w3.heap.size]? = some (.cells [.int .u8 tos, .int .u16 id, .bool keep, .int .u8 ttl, .int .u8 6, .int .u32 src, .int .u32 dst, .slice ao3 zo.length co3, .slice a6 (20 + (pad (obs os)).length + zm.length) (20 + (pad (obs os)).length + zm.length)].toArray 26 (0, 0)) := heap_set1 q8 8 _
            generalize W8.setCell ⟨w3.heap.size, 8, none⟩ (.slice a6 (20 + (pad (obs os)).length + zm.length) (20 + (pad (obs os)).length + zm.length)) = W9 at *
            have r9 := (E9.block (w.heap.size + 1 + 1) (by omega) (by omega)).trans r8
            have hwL : Below w.heap.size w W9 := hw8'.trans (E9.below (by omega) (fun k h e => by omega))
            have hO9 := hOo.aside q8 (by decide) E9
            have hOd := hO8.aside q8 (by decide) E9
            have Q9 := block_cell q9
            have R9 := block_cell r9
            have F9 := block_frozen r9
            go_wp2_with fail
            generalize hV : ((((((((W9.setCell ⟨w.heap.size + 1 + 1, 0, none⟩ _).setCell ⟨w.heap.size + 1 + 1, 1, none⟩ _).setCell ⟨w.heap.size + 1 + 1, 2, none⟩ _).setCell ⟨w.heap.size + 1 + 1, 3, none⟩ _).setCell ⟨w.heap.size + 1 + 1, 4, none⟩ _).setCell ⟨w.heap.size + 1 + 1, 5, none⟩ _).setCell ⟨w.heap.size + 1 + 1, 6, none⟩ _).setCell ⟨w.heap.size + 1 + 1, 7, none⟩ _).setCell ⟨w.heap.size + 1 + 1, 8, none⟩ _ = V8
            have hV9 : V8 = putRow W9 (w.heap.size + 1 + 1) 0 [.int .u8 tos, .int .u16 id, .bool keep, .int .u8 ttl, .int .u8 6, .int .u32 src, .int .u32 dst, .slice ao3 zo.length co3, .slice a6 (20 + (pad (obs os)).length + zm.length) (20 + (pad (obs os)).length + zm.length)] := hV.symm
            have hb8 : But (fun b => b = w.heap.size + 1 + 1) W9 V8 := by rw [hV9]; exact putRow_but (E := fun b => b = w.heap.size + 1 + 1) (n := w.heap.size + 1 + 1) rfl _ _ _ _ (But.refl _ _)
            have p8 := putRow_all [.int .u8 tos, .int .u16 id, .bool keep, .int .u8 ttl, .int .u8 6, .int .u32 src, .int .u32 dst, .slice ao3 zo.length co3, .slice a6 (20 + (pad (obs os)).length + zm.length) (20 + (pad (obs os)).length + zm.length)] r9 rfl
            rw [← hV9] at p8
            clear hV hV9
            have P8 := block_cell p8
            have hw8 : Below w.heap.size w V8 := (hwL).trans (hb8.below (hwL).size (fun k h e => by omega))
            exact bodyPost_ret (v := .tuple #[.agg #[.int .u8 tos, .int .u16 id, .bool keep, .int .u8 ttl, .int .u8 6, .int .u32 src, .int .u32 dst, .slice ao3 zo.length co3, .slice a6 (20 + (pad (obs os)).length + zm.length) (20 + (pad (obs os)).length + zm.length)], .int .i64 0]) (by simp [results, Try.results11, go_sem, P8]) rfl (⟨hw8, .inr ⟨HF.out, _, _, _, _, rfl, (hO9.but hb8 (fun b h e => by omega)).mono hw2.size, by rw [HTC.out]; exact (hOd.but hb8 (fun b h e => by omega)).mono (by omega)⟩⟩)
          · refine wp_enter 35 #[.slice a6' (12 + (20 + (pad (obs os)).length + zm.length)) c6'] (by go_simp) ?_
            refine (sum_any _ (psd src dst 6 (20 + (pad (obs os)).length + zm.length) ++ (tcp0 sp dp sq ak fl wn ur (pad (obs os)) zm)) hBS (by rw [HLS.out]; omega) W6 hS6.rd).mono ?_
            rintro e W7 ⟨rfl, hb7⟩
            refine ⟨But.of hb7, ?_⟩
            simp only [Act.put, List.setIfInBounds_toArray, List.set_cons_zero, List.set_cons_succ]
            have Q7 := block_cell (later_keep (hb6.trans (hb7.mono hb6.size) : Later W5 W7) q5)
            refine anyT_one 1 rfl (by kernel_rfl) rfl ?_
            unfold Oper.wp
            go_simp
            refine ⟨But.refl _ _, ?_⟩
            clear Q6 Q7
            have hb57 : Later W5 W7 := hb6.trans (hb7.mono hb6.size)
            have hO7 := hO5.later hb57
            have hOu7 := hOu5.later hb57
            have r7 := later_keep hb57 r5
            have q7 := later_keep hb57 q5
            have hw7 := hw5.trans (hb57.mono hw5.size)
            have hq5 := (Array.getElem?_eq_some_iff.1 q5).1
            have hcb := Mt.cks_bd (psd src dst 6 (20 + (pad (obs os)).length + zm.length) ++ (tcp0 sp dp sq ak fl wn ur (pad (obs os)) zm))
            refine anyT_one 5 rfl (by kernel_rfl) rfl ?_
            refine wp_enter 34 #[.slice av (20 + (pad (obs os)).length + zm.length) cv, .int .i64 16, .int .u16 (Mt.cks (psd src dst 6 (20 + (pad (obs os)).length + zm.length) ++ (tcp0 sp dp sq ak fl wn ur (pad (obs os)) zm)))] (by go_simp) ?_
            refine (put16_any _ (tcp0 sp dp sq ak fl wn ur (pad (obs os)) zm) 16 (Mt.cks (psd src dst 6 (20 + (pad (obs os)).length + zm.length) ++ (tcp0 sp dp sq ak fl wn ur (pad (obs os)) zm))) W7 (by rw [HTL.out]; omega) hOu7.rd hcb).mono ?_
            rw [HTL.out]
            rintro e W8 ⟨a6, rfl, hO8, hb8'⟩
            rw [putAt2_lit _ 16 16 _ rfl (by rw [HTL.out]; omega)] at hO8
            refine ⟨But.of hb8', ?_⟩
            simp only [Act.put, List.setIfInBounds_toArray, List.set_cons_zero, List.set_cons_succ]
            have r8 := later_keep hb8' r7
            have q8 := later_keep hb8' q7
            have hw8' := hw7.trans (hb8'.mono hw7.size)
            have hOo := hO7.later hb8'
            have hs57 := hb57.size
            have hs78 := hb8'.size
            clear hOu5 hO5 hOu7 hO7 r7 q7 r5 q5 Q5 hS6
            refine anyT_one 6 rfl (by kernel_rfl) rfl ?_
            unfold Oper.wp
            go_simp
            refine ⟨But.refl _ _, ?_⟩
            have Q8 := block_cell q8
            have F8 := block_frozen q8
            refine anyT_one 7 rfl (by kernel_rfl) rfl ?_
            unfold Oper.wp
            go_simp
            refine ⟨(But.refl (fun b => b = w3.heap.size) W8).setCell (p := ⟨w3.heap.size, 8, none⟩) rfl _, ?_⟩
            clear Q8 F8
            refine anyT_done (by kernel_rfl) ?_
            have E9 : But (fun b => b = w3.heap.size) W8 (W8.setCell ⟨w3.heap.size, 8, none⟩ (.slice a6 (20 + (pad (obs os)).length + zm.length) (20 + (pad (obs os)).length + zm.length))) := (But.refl (fun b => b = w3.heap.size) W8).setCell (p := ⟨w3.heap.size, 8, none⟩) rfl _
            have q9 : (W8.setCell ⟨w3.heap.size, 8, none⟩ (.slice a6 (20 + (pad (obs os)).length + zm.length) (20 + (pad (obs os)).length + zm.length))).heap[w3.heap.size]? = some (.cells [.int .u8 tos, .int .u16 id, .bool keep, .int .u8 ttl, .int .u8 6, .int .u32 src, .int .u32 dst, .slice ao3 zo.length co3, .slice a6 (20 + (pad (obs os)).length + zm.length) (20 + (pad (obs os)).length + zm.length)].toArray 26 (0, 0)) := heap_set1 q8 8 _
            generalize W8.setCell ⟨w3.heap.size, 8, none⟩ (.slice a6 (20 + (pad (obs os)).length + zm.length) (20 + (pad (obs os)).length + zm.length)) = W9 at *
            have r9 := (E9.block (w.heap.size + 1 + 1) (by omega) (by omega)).trans r8
            have hwL : Below w.heap.size w W9 := hw8'.trans (E9.below (by omega) (fun k h e => by omega))
            have hO9 := hOo.aside q8 (by decide) E9
            have hOd := hO8.aside q8 (by decide) E9
            have Q9 := block_cell q9
            have R9 := block_cell r9
            have F9 := block_frozen r9
            go_wp2_with fail
            generalize hV : ((((((((W9.setCell ⟨w.heap.size + 1 + 1, 0, none⟩ _).setCell ⟨w.heap.size + 1 + 1, 1, none⟩ _).setCell ⟨w.heap.size + 1 + 1, 2, none⟩ _).setCell ⟨w.heap.size + 1 + 1, 3, none⟩ _).setCell ⟨w.heap.size + 1 + 1, 4, none⟩ _).setCell ⟨w.heap.size + 1 + 1, 5, none⟩ _).setCell ⟨w.heap.size + 1 + 1, 6, none⟩ _).setCell ⟨w.heap.size + 1 + 1, 7, none⟩ _).setCell ⟨w.heap.size + 1 + 1, 8, none⟩ _ = V8
            have hV9 : V8 = putRow W9 (w.heap.size + 1 + 1) 0 [.int .u8 tos, .int .u16 id, .bool keep, .int .u8 ttl, .int .u8 6, .int .u32 src, .int .u32 dst, .slice ao3 zo.length co3, .slice a6 (20 + (pad (obs os)).length + zm.length) (20 + (pad (obs os)).length + zm.length)] := hV.symm
            have hb8 : But (fun b => b = w.heap.size + 1 + 1) W9 V8 := by rw [hV9]; exact putRow_but (E := fun b => b = w.heap.size + 1 + 1) (n := w.heap.size + 1 + 1) rfl _ _ _ _ (But.refl _ _)
            have p8 := putRow_all [.int .u8 tos, .int .u16 id, .bool keep, .int .u8 ttl, .int .u8 6, .int .u32 src, .int .u32 dst, .slice ao3 zo.length co3, .slice a6 (20 + (pad (obs os)).length + zm.length) (20 + (pad (obs os)).length + zm.length)] r9 rfl
            rw [← hV9] at p8
            clear hV hV9
            have P8 := block_cell p8
            have hw8 : Below w.heap.size w V8 := (hwL).trans (hb8.below (hwL).size (fun k h e => by omega))
            exact bodyPost_ret (v := .tuple #[.agg #[.int .u8 tos, .int .u16 id, .bool keep, .int .u8 ttl, .int .u8 6, .int .u32 src, .int .u32 dst, .slice ao3 zo.length co3, .slice a6 (20 + (pad (obs os)).length + zm.length) (20 + (pad (obs os)).length + zm.length)], .int .i64 0]) (by simp [results, Try.results11, go_sem, P8]) rfl (⟨hw8, .inr ⟨HF.out, _, _, _, _, rfl, (hO9.but hb8 (fun b h e => by omega)).mono hw2.size, by rw [HTC.out]; exact (hOd.but hb8 (fun b h e => by omega)).mono (by omega)⟩⟩)
end Go.Proofs.Ytclkfmdlgffbeaa
