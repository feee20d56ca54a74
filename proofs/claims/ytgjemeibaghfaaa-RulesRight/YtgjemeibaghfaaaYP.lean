/- The document's Masq and Dnat; whether rules are the same. -/
import Derived.Test.YtgjemeibaghfaaaYO
namespace Go.Proofs.Ytgjemeibaghfaaa
open Go.RowKit Go.Shelf
set_option maxRecDepth 100000
set_option linter.unusedVariables false
set_option linter.unusedSimpArgs false

theorem fnd_none {q : Ru → Bool} {l : List Ru} (h : ∀ j (hj : j < l.length), q l[j] = false) : fnd q l = zRu ∧ fdb q l = false := fnd_no fun x hx => by
  obtain ⟨j, hj, rfl⟩ := List.getElem_of_mem hx
  exact h j hj
theorem fnd_some {q : Ru → Bool} {l : List Ru} {k : Nat} (hk : k < l.length) (h : ∀ j (hj : j < l.length), j < k → q l[j] = false) (ht : q l[k] = true) : fnd q l = l[k] ∧ fdb q l = true := by
  have e : l = l.take k ++ [l[k]] ++ l.drop (k + 1) := by rw [List.take_append_getElem hk, List.take_append_drop]
  have := fnd_yes (p := q) (pre := l.take k) (x := l[k]) (rest := l.drop (k + 1)) (fun y hy => by
    obtain ⟨j, hj, rfl⟩ := List.getElem_of_mem hy
    rw [List.getElem_take]
    exact h j (by simp at hj; omega) (by simp at hj; omega)) ht
  rw [← e] at this
  exact this

set_option maxHeartbeats 4000000 in
theorem rmasq9_any (base b : Nat) (v : Value) (ls : List Ru) (src : Int) (w : World) (hT : RL 67 base w b v ls) (hok : okL ls) (hs : 0 ≤ src ∧ src ≤ 4294967295) :
    Calls Try.prog 24 #[.pointer (some ⟨b, 0, none⟩), .int .u32 src] w fun e w' => e = .returned (.tuple #[.agg (ruc (fnd (mqB src) ls)).toArray, .bool (fdb (mqB src) ls)]) ∧ Later w w' := by
  have lb0 : Later w (w.alloc (.cells #[.int .i64 0, .int .u8 0, .int .u32 0, .int .i64 0, .int .u32 0, .int .u16 0, .int .u32 0, .int .u16 0] 36)) := (Below.refl _ _).alloc (Nat.le_refl _) _
  have c0 := heap_alloc_new w (.cells #[.int .i64 0, .int .u8 0, .int .u32 0, .int .i64 0, .int .u32 0, .int .u16 0, .int .u32 0, .int .u16 0] 36)
  obtain ⟨sa, cv, rfl, hcv1, hcv2⟩ := (ownU_rd hT.2.2).slice
  have HRD := hide (ownU_rd hT.2.2)
  go_enter Try.func24, Try.ntmps24
  go_wp2_with fail
  generalize w.alloc (.cells #[.int .i64 0, .int .u8 0, .int .u32 0, .int .i64 0, .int .u32 0, .int .u16 0, .int .u32 0, .int .u16 0] 36) = w0 at *
  go_loopw [6] (fun i wr => ∃ k : Nat, k ≤ ls.length ∧ i = .int .i64 (k : Int) ∧ (∀ j (hj : j < ls.length), j < k → mqB src ls[j] = false) ∧ Later w0 wr) (fun i _ => ls.length - (intOf i).toNat)
  case atStart => exact ⟨0, by omega, rfl, fun j _ h => by omega, Later.refl _⟩
  case round =>
    obtain ⟨k, hk, rfl, hz, hbw⟩ := hrel
    have HZ := hide hz
    clear hz
    have lw := lb0.trans hbw
    have hTr := hT.later lw
    have kT := block_cell hTr.2.1
    have r1 := later_keep hbw c0
    by_cases hlt : k < ls.length
    · have hlt' : (k : Int) < ls.length := by omega
      obtain ⟨bb, off, cp, e, _, _, hbb, hcs⟩ := (HRD.out.below lw).cells (by omega)
      simp at e
      obtain ⟨rfl, rfl⟩ := e
      have d0 := hcs k hlt 0 (by omega)
      have d1 := hcs k hlt 1 (by omega)
      have d2 := hcs k hlt 2 (by omega)
      have d3 := hcs k hlt 3 (by omega)
      have d4 := hcs k hlt 4 (by omega)
      have d5 := hcs k hlt 5 (by omega)
      have d6 := hcs k hlt 6 (by omega)
      have d7 := hcs k hlt 7 (by omega)
      have hwf := hok.2 ls[k] (List.getElem_mem hlt)
      clear hcs
      generalize hgo : ls[k] = r at *
      have HGO := hide hgo
      clear hgo
      simp only [ruc, List.getElem?_cons_zero, List.getElem?_cons_succ, Nat.add_zero] at d0 d1 d2 d3 d4 d5 d6 d7
      go_upto_region 4 with fail
      by_cases k1 : r.kind = 1
      · obtain ⟨h0, h1⟩ := rtB_bits hwf.2 k1
        have hU : ∀ W, Calls Try.prog 31 #[.int .u32 src, .int .i64 r.bits] W fun e w' => e = .returned (.int .u32 (upp src r.bits)) ∧ w' = W := fun W => rupper_any src r.bits W hs h0 h1
        by_cases hq : upp src r.bits = r.net
        · have ht : mqB src r = true := by unfold mqB; simp [k1, hq]
          have HT := hide ht
          clear ht
          go_quiet (first | (go_at_call 31; exact Calls.quiet_of_same (hU _)))
          clear k1 hq kT
          have r3 := later_keep (below_draw (Later.refl wr) nq) r1
          have kT := block_cell (hTr.later (below_draw (Later.refl wr) nq)).2.1
          have lwq := lw.trans (below_draw (Later.refl wr) nq)
          have l1 : Later wr (wr.drewN nq) := below_draw (Later.refl wr) nq
          replace d0 := l1.cell d0
          replace d1 := l1.cell d1
          replace d2 := l1.cell d2
          replace d3 := l1.cell d3
          replace d4 := l1.cell d4
          replace d5 := l1.cell d5
          replace d6 := l1.cell d6
          replace d7 := l1.cell d7
          clear hU hTr
          generalize wr.drewN nq = wq at *
          have r2 := block_cell r3
          have f2 := block_frozen r3
          go_wp2_with fail
          change bodyPost _ _ _ _ _ (putRow wq w.heap.size 0 (ruc r))
          obtain ⟨n1, n2⟩ := fnd_some hlt HZ.out (by rw [HGO.out]; exact HT.out)
          have v1 := putRow_all (ruc r) r3 rfl
          have hbl : Below w.heap.size wq (putRow wq w.heap.size 0 (ruc r)) := (putRow_rb (rb := w.heap.size) (ruc r) wq).below lwq.size (fun k hk e => by omega)
          generalize putRow wq w.heap.size 0 (ruc r) = V at *
          have k1 := block_cell v1
          simp only [ruc] at k1
          refine bodyPost_ret (v := .tuple #[.agg (ruc r).toArray, .bool true]) (by simp [results, Try.results24, go_sem, k1, ruc]) rfl ⟨by rw [n1, n2, HGO.out], Below.trans lwq hbl⟩
        · have ht : mqB src r = false := by unfold mqB; simp [hq]
          have HT := hide ht
          clear ht
          go_quiet (first | (go_at_call 31; exact Calls.quiet_of_same (hU _)))
          go_wp2_with fail
          go_roundw
          case rel => exact ⟨k + 1, by omega, by go_num, fun j hj hjk => by by_cases h : j = k; (subst h; rw [HGO.out]; exact HT.out); exact HZ.out j hj (by omega), hbw.trans (below_draw (Later.refl _) _)⟩
          case measure => simp [intOf]; omega
      · have ht : mqB src r = false := by unfold mqB; simp [k1]
        have HT := hide ht
        clear ht
        go_quiet (fail)
        go_wp2_with fail
        go_roundw
        case rel => exact ⟨k + 1, by omega, by go_num, fun j hj hjk => by by_cases h : j = k; (subst h; rw [HGO.out]; exact HT.out); exact HZ.out j hj (by omega), hbw.trans (below_draw (Later.refl _) _)⟩
        case measure => simp [intOf]; omega
    · obtain rfl : k = ls.length := by omega
      have r2 := block_cell r1
      have f2 := block_frozen r1
      go_wp2_with fail
      change bodyPost _ _ _ _ _ (putRow wr w.heap.size 0 (ruc zRu))
      obtain ⟨n1, n2⟩ := fnd_none (fun j hj => HZ.out j hj hj)
      have v1 := putRow_all (ruc zRu) r1 rfl
      have hbl : Below w.heap.size wr (putRow wr w.heap.size 0 (ruc zRu)) := (putRow_rb (rb := w.heap.size) (ruc zRu) wr).below lw.size (fun k hk e => by omega)
      generalize putRow wr w.heap.size 0 (ruc zRu) = V at *
      have k1 := block_cell v1
      simp only [ruc, zRu] at k1
      refine bodyPost_ret (v := .tuple #[.agg (ruc zRu).toArray, .bool false]) (by simp [results, Try.results24, go_sem, k1, ruc, zRu]) rfl ⟨by rw [n1, n2], Below.trans lw hbl⟩

set_option maxHeartbeats 4000000 in
theorem rdnat9_any (base b : Nat) (v : Value) (ls : List Ru) (pr dst pt : Int) (w : World) (hT : RL 67 base w b v ls) :
    Calls Try.prog 25 #[.pointer (some ⟨b, 0, none⟩), .int .u8 pr, .int .u32 dst, .int .u16 pt] w fun e w' => e = .returned (.tuple #[.agg (ruc (fnd (dnB pr dst pt) ls)).toArray, .bool (fdb (dnB pr dst pt) ls)]) ∧ Later w w' := by
  have lb0 : Later w (w.alloc (.cells #[.int .i64 0, .int .u8 0, .int .u32 0, .int .i64 0, .int .u32 0, .int .u16 0, .int .u32 0, .int .u16 0] 36)) := (Below.refl _ _).alloc (Nat.le_refl _) _
  have c0 := heap_alloc_new w (.cells #[.int .i64 0, .int .u8 0, .int .u32 0, .int .i64 0, .int .u32 0, .int .u16 0, .int .u32 0, .int .u16 0] 36)
  obtain ⟨sa, cv, rfl, hcv1, hcv2⟩ := (ownU_rd hT.2.2).slice
  have HRD := hide (ownU_rd hT.2.2)
  go_enter Try.func25, Try.ntmps25
  go_wp2_with fail
  generalize w.alloc (.cells #[.int .i64 0, .int .u8 0, .int .u32 0, .int .i64 0, .int .u32 0, .int .u16 0, .int .u32 0, .int .u16 0] 36) = w0 at *
  go_loopw [10] (fun i wr => ∃ k : Nat, k ≤ ls.length ∧ i = .int .i64 (k : Int) ∧ (∀ j (hj : j < ls.length), j < k → dnB pr dst pt ls[j] = false) ∧ Later w0 wr) (fun i _ => ls.length - (intOf i).toNat)
  case atStart => exact ⟨0, by omega, rfl, fun j _ h => by omega, Later.refl _⟩
  case round =>
    obtain ⟨k, hk, rfl, hz, hbw⟩ := hrel
    have HZ := hide hz
    clear hz
    have lw := lb0.trans hbw
    have hTr := hT.later lw
    have kT := block_cell hTr.2.1
    have r1 := later_keep hbw c0
    by_cases hlt : k < ls.length
    · have hlt' : (k : Int) < ls.length := by omega
      obtain ⟨bb, off, cp, e, _, _, hbb, hcs⟩ := (HRD.out.below lw).cells (by omega)
      simp at e
      obtain ⟨rfl, rfl⟩ := e
      have d0 := hcs k hlt 0 (by omega)
      have d1 := hcs k hlt 1 (by omega)
      have d2 := hcs k hlt 2 (by omega)
      have d3 := hcs k hlt 3 (by omega)
      have d4 := hcs k hlt 4 (by omega)
      have d5 := hcs k hlt 5 (by omega)
      have d6 := hcs k hlt 6 (by omega)
      have d7 := hcs k hlt 7 (by omega)
      clear hcs
      generalize hgo : ls[k] = r at *
      have HGO := hide hgo
      clear hgo
      obtain ⟨kind, proto, net, bts, tq, port, host, hp⟩ := r
      simp only [ruc, List.getElem?_cons_zero, List.getElem?_cons_succ, Nat.add_zero] at d0 d1 d2 d3 d4 d5 d6 d7
      have la : Later wr (wr.alloc (.cells #[.int .i64 kind, .int .u8 proto, .int .u32 net, .int .i64 bts, .int .u32 tq, .int .u16 port, .int .u32 host, .int .u16 hp] 36)) := (Below.refl _ _).alloc (Nat.le_refl _) _
      have xa := heap_alloc_new wr (.cells #[.int .i64 kind, .int .u8 proto, .int .u32 net, .int .i64 bts, .int .u32 tq, .int .u16 port, .int .u32 host, .int .u16 hp] 36)
      go_upto_region 5 with fail
      generalize wr.alloc (.cells #[.int .i64 kind, .int .u8 proto, .int .u32 net, .int .i64 bts, .int .u32 tq, .int .u16 port, .int .u32 host, .int .u16 hp] 36) = wa at *
      generalize wr.heap.size = xb at *
      clear d0 d1 d2 d3 d4 d5 d6 d7 kT
      have xk := block_cell xa
      have ra := later_keep la r1
      have lwa := lw.trans la
      have hwa := hbw.trans la
      by_cases k1 : kind = 2
      · subst k1
        by_cases k2 : proto = pr
        · subst k2
          by_cases k3 : tq = dst
          · subst k3
            by_cases k4 : port = pt
            · subst k4
              have ht : dnB proto tq port ⟨2, proto, net, bts, tq, port, host, hp⟩ = true := by unfold dnB; simp
              have HT := hide ht
              clear ht
              have r2 := block_cell ra
              have f2 := block_frozen ra
              go_wp2_with fail
              change bodyPost _ _ _ _ _ (putRow wa w.heap.size 0 (ruc ⟨2, proto, net, bts, tq, port, host, hp⟩))
              obtain ⟨n1, n2⟩ := fnd_some hlt HZ.out (by rw [HGO.out]; exact HT.out)
              have v1 := putRow_all (ruc ⟨2, proto, net, bts, tq, port, host, hp⟩) ra rfl
              have hbl : Below w.heap.size wa (putRow wa w.heap.size 0 (ruc ⟨2, proto, net, bts, tq, port, host, hp⟩)) := (putRow_rb (rb := w.heap.size) (ruc ⟨2, proto, net, bts, tq, port, host, hp⟩) wa).below lwa.size (fun k hk e => by omega)
              generalize putRow wa w.heap.size 0 (ruc ⟨2, proto, net, bts, tq, port, host, hp⟩) = V at *
              have k1 := block_cell v1
              simp only [ruc] at k1
              refine bodyPost_ret (v := .tuple #[.agg (ruc ⟨2, proto, net, bts, tq, port, host, hp⟩).toArray, .bool true]) (by simp [results, Try.results25, go_sem, k1, ruc]) rfl ⟨by rw [n1, n2, HGO.out], Below.trans lwa hbl⟩
            · have ht : dnB proto tq pt ⟨2, proto, net, bts, tq, port, host, hp⟩ = false := by unfold dnB; simp [k4]
              have HT := hide ht
              clear ht
              go_wp2_with fail
              go_roundw
              case rel => exact ⟨k + 1, by omega, by go_num, fun j hj hjk => by by_cases h : j = k; (subst h; rw [HGO.out]; exact HT.out); exact HZ.out j hj (by omega), hwa⟩
              case measure => simp [intOf]; omega
          · have ht : dnB proto dst pt ⟨2, proto, net, bts, tq, port, host, hp⟩ = false := by unfold dnB; simp [k3]
            have HT := hide ht
            clear ht
            go_wp2_with fail
            go_roundw
            case rel => exact ⟨k + 1, by omega, by go_num, fun j hj hjk => by by_cases h : j = k; (subst h; rw [HGO.out]; exact HT.out); exact HZ.out j hj (by omega), hwa⟩
            case measure => simp [intOf]; omega
        · have ht : dnB pr dst pt ⟨2, proto, net, bts, tq, port, host, hp⟩ = false := by unfold dnB; simp [k2]
          have HT := hide ht
          clear ht
          go_wp2_with fail
          go_roundw
          case rel => exact ⟨k + 1, by omega, by go_num, fun j hj hjk => by by_cases h : j = k; (subst h; rw [HGO.out]; exact HT.out); exact HZ.out j hj (by omega), hwa⟩
          case measure => simp [intOf]; omega
      · have ht : dnB pr dst pt ⟨kind, proto, net, bts, tq, port, host, hp⟩ = false := by unfold dnB; simp [k1]
        have HT := hide ht
        clear ht
        go_wp2_with fail
        go_roundw
        case rel => exact ⟨k + 1, by omega, by go_num, fun j hj hjk => by by_cases h : j = k; (subst h; rw [HGO.out]; exact HT.out); exact HZ.out j hj (by omega), hwa⟩
        case measure => simp [intOf]; omega
    · obtain rfl : k = ls.length := by omega
      have r2 := block_cell r1
      have f2 := block_frozen r1
      go_wp2_with fail
      change bodyPost _ _ _ _ _ (putRow wr w.heap.size 0 (ruc zRu))
      obtain ⟨n1, n2⟩ := fnd_none (fun j hj => HZ.out j hj hj)
      have v1 := putRow_all (ruc zRu) r1 rfl
      have hbl : Below w.heap.size wr (putRow wr w.heap.size 0 (ruc zRu)) := (putRow_rb (rb := w.heap.size) (ruc zRu) wr).below lw.size (fun k hk e => by omega)
      generalize putRow wr w.heap.size 0 (ruc zRu) = V at *
      have k1 := block_cell v1
      simp only [ruc, zRu] at k1
      refine bodyPost_ret (v := .tuple #[.agg (ruc zRu).toArray, .bool false]) (by simp [results, Try.results25, go_sem, k1, ruc, zRu]) rfl ⟨by rw [n1, n2], Below.trans lw hbl⟩
end Go.Proofs.Ytgjemeibaghfaaa
