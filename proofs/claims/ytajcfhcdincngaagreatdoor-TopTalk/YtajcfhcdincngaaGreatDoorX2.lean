/- Several texts in one. -/
import Derived.Test.YtajcfhcdincngaaGreatDoorX3
import Derived.Test.YtajcfhcdincngaaGreatDoorX16
import Derived.Test.YtajcfhcdincngaaGreatDoorX8
import Derived.Test.YtajcfhcdincngaaGreatDoorX6
import Derived.Test.YtajcfhcdincngaaGreatDoorX7
/- Package gate: there is room for a flow. -/
namespace Go.Proofs.YtajcfhcdincngaaGreatDoor
open Go.RowKit Go.Shelf
set_option maxRecDepth 100000
set_option linter.unusedVariables false
set_option linter.unusedSimpArgs false

theorem getF_none (base gt : Nat) (cnt trn : Int) (rw : Nat → List Rw) (p x d a b : Int) (W : World) (h : TB base W gt 128 cnt trn rw) (hk : kx p x d a b rw = none) (hs : 0 ≤ x ∧ x ≤ 4294967295) (hd : 0 ≤ d ∧ d ≤ 4294967295) (ha : 0 ≤ a ∧ a ≤ 65535) (hb : 0 ≤ b ∧ b ≤ 65535) :
  Calls Tryz.prog 82 #[.pointer (some ⟨gt, 0, none⟩), .agg #[.int .u8 p, .int .u32 x, .int .u32 d, .int .u16 a, .int .u16 b]] W fun e w' => e = .returned (.tuple #[.int .i64 0, .int .i64 0, .bool false]) ∧ Later W w' := by
 refine (get_any base gt 128 cnt trn rw p x d a b W h hs hd ha hb).mono ?_
 rintro e w' ⟨h1, rfl⟩
 exact ⟨by unfold gtv; rw [hk], h1⟩

set_option maxRecDepth 100000 in
set_option maxHeartbeats 4000000 in
theorem lookUpF_none (base g : Nat) (s : Gf) (p x d a b : Int) (w : World) (h : GF base w g s) (hk : kx p x d a b s.rw = none) (hs : 0 ≤ x ∧ x ≤ 4294967295) (hd : 0 ≤ d ∧ d ≤ 4294967295) (ha : 0 ≤ a ∧ a ≤ 65535) (hb : 0 ≤ b ∧ b ≤ 65535) :
  Calls Tryz.prog 42 #[.pointer (some ⟨g, 0, none⟩), .agg #[.int .u8 p, .int .u32 x, .int .u32 d, .int .u16 a, .int .u16 b]] w fun e w' => e = .returned (.tuple #[.pointer none, .bool false, .bool false]) ∧ Later w w' := by
 have l0 := later_allocG w (.cells #[.int .u8 p, .int .u32 x, .int .u32 d, .int .u16 a, .int .u16 b] 47)
 have C0 := hide (heap_alloc_new w (.cells #[.int .u8 p, .int .u32 x, .int .u32 d, .int .u16 a, .int .u16 b] 47))
 have HG := hide (h.later l0)
 have HGT := hide (fun W (l : Later w W) => getF_none base s.gt s.cnt s.trn s.rw p x d a b W (h.tb.laterD l) hk hs hd ha hb)
 clear h hs hd ha hb hk
 go_enter Tryz.func42, Tryz.ntmps42
 go_upto_region 1 with fail
 generalize w.alloc _ = w1 at *
 generalize w.heap.size = gx at *
 refine anyR_begin (R := Later) Later.pre Later.drew 13 rfl (by kernel_rfl) (fun V0 hV0 => ?_)
 have q0 : ∀ v, Later V0 v → ∀ j, v.cell? ⟨gx, j, none⟩ = #[.int .u8 p, .int .u32 x, .int .u32 d, .int .u16 a, .int .u16 b][j]? := fun v hv => block_cell (later_keep (hV0.trans hv) C0.out)
 have q1 : ∀ v, Later V0 v → ∀ j, v.cell? ⟨g, j, none⟩ = (gfc s).toArray[j]? := fun v hv => block_cell (later_keep (hV0.trans hv) HG.out.gc)
 unfold gfc at q1
 refine rV Later.pre 0 rfl rfl ?_; apply Exists.intro; refine ⟨fun v1 hv1 => ?_, ?_⟩; (· (go_simp; rfl)); simp only [Act.put, sA, sB, sC]
 refine rV Later.pre 1 rfl rfl ?_; apply Exists.intro; refine ⟨fun v1 hv1 => ?_, ?_⟩; (· (go_simp; rfl)); simp only [Act.put, sA, sB, sC]
 refine rV Later.pre 2 rfl rfl ?_; apply Exists.intro; refine ⟨fun v1 hv1 => ?_, ?_⟩; (· (go_simp; rfl)); simp only [Act.put, sA, sB, sC]
 refine rV Later.pre 3 rfl rfl ?_; apply Exists.intro; refine ⟨fun v1 hv1 => ?_, ?_⟩; (· (go_simp; rfl)); simp only [Act.put, sA, sB, sC]
 refine rV Later.pre 4 rfl rfl ?_; apply Exists.intro; refine ⟨fun v1 hv1 => ?_, ?_⟩; (· (go_simp; rfl)); simp only [Act.put, sA, sB, sC]
 clear q0 q1
 refine anyR_take Later.pre 5 (.tuple #[.int .i64 0, .int .i64 0, .bool false]) rfl (by kernel_rfl) (by kernel_rfl) (by kernel_rfl) (fun _ _ _ h => h) rfl (fun u hu => goes_call 82 #[.pointer (some ⟨s.gt, 0, none⟩), .agg #[.int .u8 p, .int .u32 x, .int .u32 d, .int .u16 a, .int .u16 b]] (by go_simp) (HGT.out u (Later.trans l0 (hV0.trans hu)))) ?_
 simp only [Act.put, sA, sB, sC]
 refine rV Later.pre 6 rfl rfl ?_; apply Exists.intro; refine ⟨fun v1 hv1 => ?_, ?_⟩; (· (go_simp; rfl)); simp only [Act.put, sA, sB, sC]
 refine rV Later.pre 7 rfl rfl ?_; apply Exists.intro; refine ⟨fun v1 hv1 => ?_, ?_⟩; (· (go_simp; rfl)); simp only [Act.put, sA, sB, sC]
 refine rV Later.pre 8 rfl rfl ?_; apply Exists.intro; refine ⟨fun v1 hv1 => ?_, ?_⟩; (· (go_simp; rfl)); simp only [Act.put, sA, sB, sC]
 refine rV Later.pre 9 rfl rfl ?_; apply Exists.intro; refine ⟨fun v1 hv1 => ?_, ?_⟩; (· (go_simp; rfl)); simp only [Act.put, sA, sB, sC]
 refine rV Later.pre 10 rfl rfl ?_; apply Exists.intro; refine ⟨fun v1 hv1 => ?_, ?_⟩; (· (go_simp; rfl)); simp only [Act.put, sA, sB, sC]
 refine rV Later.pre 11 rfl rfl ?_; apply Exists.intro; refine ⟨fun v1 hv1 => ?_, ?_⟩; (· (go_simp; rfl)); simp only [Act.put, sA, sB, sC]
 refine rV Later.pre 12 rfl rfl ?_; apply Exists.intro; refine ⟨fun v1 hv1 => ?_, ?_⟩; (· (go_simp; rfl)); simp only [Act.put, sA, sB, sC]
 refine anyR_done (by kernel_rfl) (fun V9 hV9 => ?_)
 go_wp2_with fail
 exact bodyPost_ret (v := .tuple #[.pointer none, .bool false, .bool false]) (by simp [results, Tryz.results42, go_sem]) rfl ⟨rfl, Later.trans l0 (hV0.trans hV9)⟩

theorem len_flows {w : World} {b : Nat} {es : Array MapEntry} {c : Nat} (hb : w.heap[b]? = some (.map es c)) : (Builtin.len_ #[79] 3 #[.map (some b)]).run Tryz.prog w = .ok (.int .i64 (es.size : Int)) w := by
 simp [Builtin.len_, Builtin.lenOf, run_underlying Tryz.underlying79, MapKept.run_getObj_map hb, Result.andThen, goInt]
theorem tup_neq (p x d a b p2 x2 d2 a2 b2 : Int) (w : World) (h : ¬ (p = p2 ∧ x = x2 ∧ d = d2 ∧ a = a2 ∧ b = b2)) : (binOp .neq 47 (.agg #[.int .u8 p, .int .u32 x, .int .u32 d, .int .u16 a, .int .u16 b]) (.agg #[.int .u8 p2, .int .u32 x2, .int .u32 d2, .int .u16 a2, .int .u16 b2])).run Tryz.prog w = .ok (.bool true) w := by
 go_simp
 by_cases h1 : p = p2 <;> by_cases h2 : x = x2 <;> by_cases h3 : d = d2 <;> by_cases h4 : a = a2 <;> by_cases h5 : b = b2 <;> simp_all

set_option maxRecDepth 100000 in
set_option maxHeartbeats 8000000 in
theorem roomFor_yes (base g : Nat) (s : Gf) (p x d a b p2 x2 d2 a2 b2 : Int) (w : World) (h : GF base w g s) (hk : kx p x d a b s.rw = none) (hk2 : kx p2 x2 d2 a2 b2 s.rw = none) (hs : 0 ≤ x ∧ x ≤ 4294967295) (hd : 0 ≤ d ∧ d ≤ 4294967295) (ha : 0 ≤ a ∧ a ≤ 65535) (hb : 0 ≤ b ∧ b ≤ 65535) (hs2 : 0 ≤ x2 ∧ x2 ≤ 4294967295) (hd2 : 0 ≤ d2 ∧ d2 ≤ 4294967295) (ha2 : 0 ≤ a2 ∧ a2 ≤ 65535) (hb2 : 0 ≤ b2 ∧ b2 ≤ 65535) (hfs : s.fs.length < 64) (hne : ¬ (p = p2 ∧ x = x2 ∧ d = d2 ∧ kyp p a = kyp p2 a2 ∧ b = b2)) :
  Calls Tryz.prog 201 #[.pointer (some ⟨g, 0, none⟩), .agg #[.int .u8 p, .int .u32 x, .int .u32 d, .int .u16 a, .int .u16 b], .agg #[.int .u8 p2, .int .u32 x2, .int .u32 d2, .int .u16 a2, .int .u16 b2]] w fun e w' => e = .returned (.bool true) ∧ Later w w' := by
 obtain ⟨l0, c0, c1⟩ := alloc2 w (.cells #[.int .u8 p, .int .u32 x, .int .u32 d, .int .u16 a, .int .u16 b] 47) (.cells #[.int .u8 p2, .int .u32 x2, .int .u32 d2, .int .u16 a2, .int .u16 b2] 47)
 have C0 := hide c0
 have C1 := hide c1
 have HL1 := hide (fun W (l : Later w W) => lookUpF_none base g s p x d a b W (h.later l) hk hs hd ha hb)
 have HL2 := hide (fun W (l : Later w W) => lookUpF_none base g s p2 x2 d2 a2 b2 W (h.later l) hk2 hs2 hd2 ha2 hb2)
 have hfz : s.fe.size = s.fs.length := by have := congrArg List.length h.fm; simpa using this
 have HG := hide h
 have HNE := hide hne
 clear c0 c1 h hk hk2 hs hd ha hb hs2 hd2 ha2 hb2 hne
 go_enter Tryz.func201, Tryz.ntmps201
 go_upto_region 1 with fail
 generalize (w.alloc (.cells #[.int .u8 p, .int .u32 x, .int .u32 d, .int .u16 a, .int .u16 b] 47)).alloc (.cells #[.int .u8 p2, .int .u32 x2, .int .u32 d2, .int .u16 a2, .int .u16 b2] 47) = w1 at *
 generalize w.heap.size = gx at C0 C1 ⊢
 have k0 := block_cell C0.out
 go_wp2_with fail
 refine (HL1.out w1 l0).mono ?_
 rintro e w2 ⟨rfl, l2⟩
 clear k0 HL1
 have L2 : Later w w2 := l0.trans l2
 have k1 := block_cell (later_keep l2 C1.out)
 go_wp2_with fail
 refine (HL2.out w2 L2).mono ?_
 rintro e w3 ⟨rfl, l3⟩
 clear k1 HL2
 have L3 : Later w w3 := L2.trans l3
 have D0 := hide (later_keep (Later.trans l2 l3) C0.out)
 have D1 := hide (later_keep (Later.trans l2 l3) C1.out)
 have H3 := hide (HG.out.later L3)
 clear C0 C1 HG l2 l3 L2
 go_upto_region 3 with fail
 refine anyR_begin (R := Later) Later.pre Later.drew 22 rfl (by kernel_rfl) (fun V0 hV0 => ?_)
 have q0 : ∀ v, Later V0 v → ∀ j, v.cell? ⟨gx, j, none⟩ = #[.int .u8 p, .int .u32 x, .int .u32 d, .int .u16 a, .int .u16 b][j]? := fun v hv => block_cell (later_keep (hV0.trans hv) D0.out)
 have q1 : ∀ v, Later V0 v → ∀ j, v.cell? ⟨gx + 1, j, none⟩ = #[.int .u8 p2, .int .u32 x2, .int .u32 d2, .int .u16 a2, .int .u16 b2][j]? := fun v hv => block_cell (later_keep (hV0.trans hv) D1.out)
 have q2 : ∀ v, Later V0 v → ∀ j, v.cell? ⟨g, j, none⟩ = (gfc s).toArray[j]? := fun v hv => block_cell (later_keep (hV0.trans hv) H3.out.gc)
 unfold gfc at q2
 have q3 : ∀ v, Later V0 v → v.heap[s.gf]? = some (.map s.fe s.cf) := fun v hv => later_keep (hV0.trans hv) H3.out.fl
 refine rV Later.pre 0 rfl rfl ?_; apply Exists.intro; refine ⟨fun v1 hv1 => ?_, ?_⟩; (· (go_simp; rfl)); simp only [Act.put, sA, sB, sC]
 refine rV Later.pre 1 rfl rfl ?_; apply Exists.intro; refine ⟨fun v1 hv1 => ?_, ?_⟩; (· (go_simp; rfl)); simp only [Act.put, sA, sB, sC]
 refine rV Later.pre 2 rfl rfl ?_; apply Exists.intro; refine ⟨fun v1 hv1 => ?_, ?_⟩; (· (go_simp; rfl)); simp only [Act.put, sA, sB, sC]
 refine rV Later.pre 3 rfl rfl ?_; apply Exists.intro; refine ⟨fun v1 hv1 => ?_, ?_⟩; (· (go_simp; rfl)); simp only [Act.put, sA, sB, sC]
 have hlI : ((s.fs.length : Nat) : Int) < 64 := by omega
 have q4 : ∀ v, Later V0 v → (Builtin.len_ #[79] 3 #[.map (some s.gf)]).run Tryz.prog v = .ok (.int .i64 ((s.fs.length : Nat) : Int)) v := fun v hv => by rw [← hfz]; exact len_flows (q3 v hv)
 clear q3
 refine rV Later.pre 4 rfl rfl ?_; apply Exists.intro; refine ⟨fun v1 hv1 => ?_, ?_⟩; (· (go_simp; rfl)); simp only [Act.put, sA, sB, sC]
 refine rV Later.pre 5 rfl rfl ?_; apply Exists.intro; refine ⟨fun v1 hv1 => ?_, ?_⟩; (· (go_simp; rfl)); simp only [Act.put, sA, sB, sC]
 clear q4
 refine rV Later.pre 6 rfl rfl ?_; apply Exists.intro; refine ⟨fun v1 hv1 => ?_, ?_⟩; (· (go_simp; rfl)); simp only [Act.put, sA, sB, sC]
 refine anyR_valG Later.pre 7 rfl (by kernel_rfl) (by kernel_rfl) (by kernel_rfl) (fun _ _ _ _ h => h) (by rfl) ?_; apply Exists.intro; refine ⟨fun v1 hv1 => ?_, ?_⟩; (· (go_simp; rfl)); simp only [Act.put, sA, sB, sC]
 refine anyR_valG Later.pre 8 rfl (by kernel_rfl) (by kernel_rfl) (by kernel_rfl) (fun _ _ _ _ h => h) (by rfl) ?_; apply Exists.intro; refine ⟨fun v1 hv1 => ?_, ?_⟩; (· (go_simp; rfl)); simp only [Act.put, sA, sB, sC]
 refine rV Later.pre 9 rfl rfl ?_; apply Exists.intro; refine ⟨fun v1 hv1 => ?_, ?_⟩; (· (go_simp; rfl)); simp only [Act.put, sA, sB, sC]
 refine rV Later.pre 10 rfl rfl ?_; apply Exists.intro; refine ⟨fun v1 hv1 => ?_, ?_⟩; (· (go_simp; rfl)); simp only [Act.put, sA, sB, sC]
 refine anyR_valG Later.pre 11 rfl (by kernel_rfl) (by kernel_rfl) (by kernel_rfl) (fun _ _ _ _ h => h) (by rfl) ?_; apply Exists.intro; refine ⟨fun v1 hv1 => ?_, ?_⟩; (· (go_simp; rfl)); simp only [Act.put, sA, sB, sC]
 refine anyR_valG Later.pre 12 rfl (by kernel_rfl) (by kernel_rfl) (by kernel_rfl) (fun _ _ _ _ h => h) (by rfl) ?_; apply Exists.intro; refine ⟨fun v1 hv1 => ?_, ?_⟩; (· (go_simp; rfl)); simp only [Act.put, sA, sB, sC]
 refine rV Later.pre 13 rfl rfl ?_; apply Exists.intro; refine ⟨fun v1 hv1 => ?_, ?_⟩; (· (go_simp; rfl)); simp only [Act.put, sA, sB, sC]
 refine rV Later.pre 14 rfl rfl ?_; apply Exists.intro; refine ⟨fun v1 hv1 => ?_, ?_⟩; (· (go_simp; rfl)); simp only [Act.put, sA, sB, sC]
 refine anyR_valG Later.pre 15 rfl (by kernel_rfl) (by kernel_rfl) (by kernel_rfl) (fun _ _ _ _ h => h) (by rfl) ?_; apply Exists.intro; refine ⟨fun v1 hv1 => ?_, ?_⟩; (· (go_simp; rfl)); simp only [Act.put, sA, sB, sC]
 refine anyR_valG Later.pre 17 rfl (by kernel_rfl) (by kernel_rfl) (by kernel_rfl) (fun _ _ _ _ h => h) (by rfl) ?_; apply Exists.intro; refine ⟨fun v1 hv1 => ?_, ?_⟩; (· (go_simp; rfl)); simp only [Act.put, sA, sB, sC]
 clear q0 q1 q2
 refine anyR_takeG Later.pre 16 (.agg #[.int .u8 p, .int .u32 x, .int .u32 d, .int .u16 (kyp p a), .int .u16 b]) rfl (by kernel_rfl) (by kernel_rfl) (by kernel_rfl) (fun _ _ _ h => h) (by rfl) (fun u hu => goes_call 83 #[.agg #[.int .u8 p, .int .u32 x, .int .u32 d, .int .u16 a, .int .u16 b]] (by go_simp) (key_any p x d a b u)) ?_
 simp only [Act.put, sA, sB, sC]
 refine anyR_takeG Later.pre 18 (.agg #[.int .u8 p2, .int .u32 x2, .int .u32 d2, .int .u16 (kyp p2 a2), .int .u16 b2]) rfl (by kernel_rfl) (by kernel_rfl) (by kernel_rfl) (fun _ _ _ h => h) (by rfl) (fun u hu => goes_call 83 #[.agg #[.int .u8 p2, .int .u32 x2, .int .u32 d2, .int .u16 a2, .int .u16 b2]] (by go_simp) (key_any p2 x2 d2 a2 b2 u)) ?_
 simp only [Act.put, sA, sB, sC]
 generalize kyp p a = ka at *
 generalize kyp p2 a2 = ka2 at *
 have q5 : ∀ v : World, (binOp .neq 47 (.agg #[.int .u8 p, .int .u32 x, .int .u32 d, .int .u16 ka, .int .u16 b]) (.agg #[.int .u8 p2, .int .u32 x2, .int .u32 d2, .int .u16 ka2, .int .u16 b2])).run Tryz.prog v = .ok (.bool true) v := fun v => tup_neq p x d ka b p2 x2 d2 ka2 b2 v HNE.out
 refine anyR_valG Later.pre 19 rfl (by kernel_rfl) (by kernel_rfl) (by kernel_rfl) (fun _ _ _ _ h => h) (by rfl) ⟨.bool true, fun v1 hv1 => by first | (simp only [execOp, Act.eval, Array.getD_eq_getD_getElem?, List.getElem?_toArray, List.getElem?_cons_zero, List.getElem?_cons_succ, Option.getD_some, Sem.run_bind, q5, Result.andThen]; rfl) | (have hn := HNE.out; clear q5; go_simp; by_cases g1 : p = p2 <;> by_cases g2 : x = x2 <;> by_cases g3 : d = d2 <;> by_cases g4 : ka = ka2 <;> by_cases g5 : b = b2 <;> simp_all), ?_⟩
 simp only [Act.put, sA, sB, sC]
 refine rV Later.pre 20 rfl rfl ?_; apply Exists.intro; refine ⟨fun v1 hv1 => ?_, ?_⟩; (· (go_simp; rfl)); simp only [Act.put, sA, sB, sC]
 refine rV Later.pre 21 rfl rfl ?_; apply Exists.intro; refine ⟨fun v1 hv1 => ?_, ?_⟩; (· (go_simp; rfl)); simp only [Act.put, sA, sB, sC]
 refine anyR_done (by kernel_rfl) (fun V9 hV9 => ?_)
 go_wp2_with fail
 go_ret
 exact ⟨rfl, L3.trans (hV0.trans hV9)⟩
end Go.Proofs.YtajcfhcdincngaaGreatDoor

/- Package gate: a flow has another state, and the time that is its. -/
namespace Go.Proofs.YtajcfhcdincngaaGreatDoor
open Go.RowKit Go.Shelf
set_option maxRecDepth 100000
set_option linter.unusedVariables false
set_option linter.unusedSimpArgs false

/-- Of a block nothing but two cells changes. -/
def Rf (n : Nat) (A B : World) : Prop := But (fun b => b = n) A B ∧ ∀ j, j ≠ 12 → j ≠ 13 → B.cell? ⟨n, j, none⟩ = A.cell? ⟨n, j, none⟩
theorem Rf.pre (n : Nat) : Pre (Rf n) := ⟨fun A => ⟨But.refl _ _, fun _ _ _ => rfl⟩, fun A B C h k => ⟨h.1.trans k.1, fun j h1 h2 => (k.2 j h1 h2).trans (h.2 j h1 h2)⟩⟩
/-- A flow's state and time. -/
def Fl.at (f : Fl) (st till : Int) : Fl := { f with st := st, till := till }
/-- The gateway with a flow changed. -/
def withF (s : Gf) (f : Fl) : Gf := { s with fs := s.fs.map (fun x => if x.blk = f.blk then f else x) }
theorem GF.flow {base g : Nat} {W W' : World} {s : Gf} (h : GF base W g s) (f f2 : Fl) (hf : f ∈ s.fs) (hu : ∀ x ∈ s.fs, x.blk = f.blk → x = f) (hb : But (fun x => x = f.blk) W W') (e1 : f2.blk = f.blk) (e2 : f2.id = f.id) (h2 : W'.heap[f.blk]? = some (.cells (flc f2).toArray 122 (0, 0))) : GF base W' g (withF s f2) := by
 have hF := h.fb f hf
 have hE := TE.one hF.2
 obtain ⟨k1, k2, k3, k4, k5, k6⟩ := h.keep hE hb (by decide)
 refine ⟨h.bs, k1, k2, k3, k4, k5, k6, h.ne, h.bf, ?_, h.pm, fun x hx => ?_, fun p hp => ⟨(h.pb p hp).1, (h.pb p hp).2.1, hE.keep hb (h.pb p hp).2.2 (isT_no (by decide) _ _)⟩⟩
 ·show s.fe.toList.map (fun e => (e.key, e.val)) = (s.fs.map _).map flE
  rw [h.fm]
  rw [List.map_map]
  apply List.map_congr_left
  intro x hx
  show flE x = flE (if x.blk = f2.blk then f2 else x)
  split
  ·rename_i e
   have := hu x hx (e.trans e1)
   subst this
   unfold flE
   rw [e1, e2]
  ·rfl
 ·obtain ⟨y, hy, rfl⟩ := List.mem_map.1 hx
  split
  ·rw [e1]
   exact ⟨hF.1, h2⟩
  ·rename_i e
   exact ⟨(h.fb y hy).1, (hb.block y.blk (Array.getElem?_eq_some_iff.1 (h.fb y hy).2).1 (fun e' => e (by have e2 : y.blk = f.blk := e'; rw [e2, e1]))).trans (h.fb y hy).2⟩
theorem mem_withF {s : Gf} {f f2 : Fl} (hf : f ∈ s.fs) (e : f2.blk = f.blk) : f2 ∈ (withF s f2).fs := List.mem_map.2 ⟨f, hf, by rw [if_pos e.symm]⟩
/-- A row of the table is moved, or none is. -/
theorem GF.moved {base g : Nat} {W W' : World} {s : Gf} (h : GF base W g s) (hk : KT W W') (hb : KM W W') {trn : Int} {rw : Nat → List Rw} (ht : TB base W' s.gt 128 s.cnt trn rw) : GF base W' g { s with trn := trn, rw := rw } := by
 have ho : ∀ {e : TypeId} {size : Nat} {v : Value} {n : Nat} {xs : List Value}, e ≠ 163 → e ≠ 171 → W.ownsRow base e size v n xs → W'.ownsRow base e size v n xs := fun h1 h2 q => by
  obtain ⟨q1, q2 | ⟨b, cap, cur', e', hb', hh, r⟩⟩ := q
  ·exact ⟨q1, .inl q2⟩
  ·exact ⟨q1, .inr ⟨b, cap, cur', e', hb', hk _ _ _ _ hh h1 h2, r⟩⟩
 exact ⟨h.bs, hk _ _ _ _ h.gc (by decide) (by decide), ⟨h.rl.1, hk _ _ _ _ h.rl.2.1 (by decide) (by decide), ho (by decide) (by decide) h.rl.2.2⟩, ht, ⟨h.bl.1, hk _ _ _ _ h.bl.2.1 (by decide) (by decide), ho (by decide) (by decide) h.bl.2.2⟩, hb.map h.fl, hb.map h.pl, h.ne, h.bf, h.fm, h.pm, fun f hf => ⟨(h.fb f hf).1, hk _ _ _ _ (h.fb f hf).2 (by decide) (by decide)⟩, fun p hp => ⟨(h.pb p hp).1, (h.pb p hp).2.1, hk _ _ _ _ (h.pb p hp).2.2 (by decide) (by decide)⟩⟩
/-- Which blocks a gateway may change. -/
def gK (o : Obj) : Prop := match o with
 | .cells _ t _ => gTs.contains t = true
 | .map _ _ => True
 | _ => False
/-- All else stays. -/
structure KG (base : Nat) (w w' : World) : Prop where
 os : w'.os = w.os
 tape : w'.tape = w.tape
 output : w'.output = w.output
 size : w.heap.size ≤ w'.heap.size
 block : ∀ (k : Nat) (o : Obj), w.heap[k]? = some o → (k < base ∨ ¬ gK o) → w'.heap[k]? = some o
theorem KG.refl (base : Nat) (w : World) : KG base w w := ⟨rfl, rfl, rfl, Nat.le_refl _, fun _ _ h _ => h⟩
theorem KG.trans {base : Nat} {a b c : World} (h : KG base a b) (k : KG base b c) : KG base a c := ⟨k.os.trans h.os, k.tape.trans h.tape, k.output.trans h.output, Nat.le_trans h.size k.size, fun i o h1 h2 => k.block i o (h.block i o h1 h2) h2⟩
theorem KG.of_later {base : Nat} {a b : World} (h : Later a b) : KG base a b := ⟨h.os, h.tape, h.output, h.size, fun _ _ h1 _ => later_keep h h1⟩
theorem KG.of_but {base : Nat} {E : Nat → Prop} {a b : World} (h : But E a b) (hE : ∀ k, E k → base ≤ k ∧ ∀ o, a.heap[k]? = some o → gK o) : KG base a b := ⟨h.os, h.tape, h.output, h.size, fun k o h1 h2 => (h.block k (bl9 h1) (fun e => by
 obtain ⟨q1, q2⟩ := hE k e
 rcases h2 with h2 | h2
 ·omega
 ·exact h2 (q2 o h1))).trans h1⟩
theorem KG.below {base : Nat} {a b : World} (h : KG base a b) (hb : base ≤ a.heap.size) : Below base a b := ⟨h.os, h.tape, h.output, h.size, fun i hi => by
 have hi' : i < a.heap.size := Nat.lt_of_lt_of_le hi hb
 obtain ⟨o, ho⟩ : ∃ o, a.heap[i]? = some o := ⟨_, Array.getElem?_eq_getElem hi'⟩
 rw [ho]
 exact h.block i o ho (.inl hi)⟩
theorem KG.cells {base : Nat} {a b : World} (h : KG base a b) {k : Nat} {cur : Array Value} {t : TypeId} {f : Nat × Nat} (hk : a.heap[k]? = some (.cells cur t f)) (ht : gTs.contains t = false) : b.heap[k]? = some (.cells cur t f) := h.block k _ hk (.inr (by show ¬ (gTs.contains t = true); rw [ht]; simp))
/-- Cells of other types than the table's stay. -/
def KX (w w' : World) : Prop := KT w w'
theorem KX.pre : Pre KX := ⟨fun a k cur t f h _ _ => h, fun a b c h k i cur t f q h1 h2 => k i cur t f (h i cur t f q h1 h2) h1 h2⟩
theorem KX.of {w w' : World} (h : KT w w') : KX w w' := h
def TuB (t : Tu) : Prop := (0 ≤ t.src ∧ t.src ≤ 4294967295) ∧ (0 ≤ t.dst ∧ t.dst ≤ 4294967295) ∧ (0 ≤ t.sp ∧ t.sp ≤ 65535) ∧ (0 ≤ t.dp ∧ t.dp ≤ 65535)
def kxT (t : Tu) (ls : Nat → List Rw) : Option Nat := kx t.pr t.src t.dst t.sp t.dp ls
def bkT (t : Tu) : Nat := bki t.pr t.src t.dst t.sp t.dp
/-- A table's turn and rows when a tuple has another time. -/
def mvT (t : Tu) (till : Int) (q : Int × (Nat → List Rw)) : Int × (Nat → List Rw) := match (if mayb till = false then none else kxT t q.2) with
 | none => q
 | some k => (q.1 + 1, mvL q.2 (bkT t) k till (q.1 + 1))
theorem mvT_fst (t : Tu) (till : Int) (q : Int × (Nat → List Rw)) : q.1 ≤ (mvT t till q).1 ∧ (mvT t till q).1 ≤ q.1 + 1 := by
 unfold mvT
 split
 ·omega
 ·exact ⟨by show q.1 ≤ q.1 + 1; omega, Int.le_refl _⟩
theorem moveF (base gt : Nat) (cnt trn : Int) (rw : Nat → List Rw) (t : Tu) (till : Int) (w : World) (hT : TB base w gt 128 cnt trn rw) (hB : TuB t) (hbs : base ≤ w.heap.size) (htr : 0 ≤ trn ∧ trn ≤ 1000000) :
  Calls Tryz.prog 169 #[.pointer (some ⟨gt, 0, none⟩), .agg #[.int .u8 t.pr, .int .u32 t.src, .int .u32 t.dst, .int .u16 t.sp, .int .u16 t.dp], .int .i64 till] w fun e w' => ∃ ev : Int, e = .returned (.int .i64 ev) ∧ TB base w' gt 128 cnt (mvT t till (trn, rw)).1 (mvT t till (trn, rw)).2 ∧ KT w w' ∧ KM w w' ∧ KG base w w' := by
 refine (move_any base gt 128 cnt trn rw t.pr t.src t.dst t.sp t.dp till w hT hB.1 hB.2.1 hB.2.2.1 hB.2.2.2 hbs htr).mono ?_
 rintro e w' ⟨he, ⟨h0, h1, h2⟩ | ⟨h0, k, gg, hk, hbg, h1, h2, h3, h4⟩⟩
 ·refine ⟨_, he, ?_, KT.of_later h2, KM.of_later h2, KG.of_later h2⟩
  have e1 : (if mayb till = false then none else kxT t rw) = none := by
   unfold move at h0
   split
   ·rfl
   ·rename_i hm
    rw [if_neg hm] at h0
    by_cases e : kx t.pr t.src t.dst t.sp t.dp rw = none
    ·exact e
    ·rw [if_neg e] at h0; exact absurd rfl h0
  have e2 : mvT t till (trn, rw) = (trn, rw) := by unfold mvT; rw [e1]
  rw [e2]
  exact h1
 ·refine ⟨_, he, ?_, h3, h4, h2.os, h2.tape, h2.output, h2.size, fun i o q1 q2 => ?_⟩
  ·have e1 : (if mayb till = false then none else kxT t rw) = some k := by
    unfold move at h0
    split
    ·rename_i hm
     rw [if_pos hm] at h0; exact absurd h0 (by decide)
    ·exact hk
   have e2 : mvT t till (trn, rw) = (trn + 1, mvL rw (bkT t) k till (trn + 1)) := by unfold mvT; rw [e1]
   rw [e2]
   exact h1
  ·rcases q2 with q2 | q2
   ·obtain ⟨vs, hTv⟩ := hT
    refine (h2.block i (bl9 q1) (fun e => ?_)).trans q1
    have := hTv.2.1
    rcases e with e | e <;> omega
   ·refine h4 i o q1 (fun cur ty fz e => ⟨fun e2 => q2 ?_, fun e2 => q2 ?_⟩)
    ·subst e; subst e2; show gTs.contains _ = true; decide
    ·subst e; subst e2; show gTs.contains _ = true; decide
/-- The gateway when a flow has a state. -/
def bcM (s : Gf) (f : Fl) (tl : Int) : Int × (Nat → List Rw) := mvT f.r tl (mvT f.o tl (s.trn, s.rw))
def bcS (s : Gf) (f : Fl) (st : Int) : Gf := { withF s (f.at st (s.now + tm f.o.pr st)) with trn := (bcM s f (s.now + tm f.o.pr st)).1, rw := (bcM s f (s.now + tm f.o.pr st)).2 }
theorem tm_bd (p s : Int) : 0 ≤ tm p s ∧ tm p s ≤ 432000 := by
 unfold tm tmT tmO
 repeat' split
 all_goals omega
theorem wrap_now {a b : Int} (h1 : 0 ≤ a) (h2 : a ≤ 549755813888) (h3 : 0 ≤ b ∧ b ≤ 432000) : IntKind.i64.wrap (a + b) = a + b := by
 exact wrapi _ (by omega) (by omega)
theorem Rf.set {n : Nat} (w : World) {j : Nat} (v : Value) (hj : j = 12 ∨ j = 13) : Rf n w (w.setCell ⟨n, j, none⟩ v) := ⟨(But.refl (fun b => b = n) w).setCell (p := ⟨n, j, none⟩) (show _ = _ from rfl) v, fun i h1 h2 => by
 exact World.cell?_setCell_other _ _ _ _ (fun e => by injection e with e1 e2 e3; omega)⟩

set_option maxRecDepth 100000 in
set_option maxHeartbeats 8000000 in
theorem become_any (base g : Nat) (s : Gf) (f : Fl) (st : Int) (w : World) (h : GF base w g s) (hf : f ∈ s.fs) (hu : ∀ x ∈ s.fs, x.blk = f.blk → x = f) (hbs : base ≤ w.heap.size) (hBo : TuB f.o) (hBr : TuB f.r) (htr : 0 ≤ s.trn ∧ s.trn ≤ 999999) (hnw : 0 ≤ s.now ∧ s.now ≤ 549755813888) :
  Calls Tryz.prog 130 #[.pointer (some ⟨g, 0, none⟩), .pointer (some ⟨f.blk, 0, none⟩), .int .i64 st] w fun e w' => e = .returned (.tuple #[]) ∧ KG base w w' ∧ GF base w' g (bcS s f st) := by
 obtain ⟨tl, htl⟩ : ∃ tl, tl = s.now + tm f.o.pr st := ⟨_, rfl⟩
 have HTL := hide htl
 have hwr : IntKind.i64.wrap (s.now + tm f.o.pr st) = tl := by rw [htl]; exact wrap_now hnw.1 hnw.2 (tm_bd _ _)
 have HWR := hide hwr
 have hFB := h.fb f hf
 have HF := hide hFB
 have HG := hide h
 have hgf : g ≠ f.blk := fun e => by
  have h1 := h.gc
  rw [e, hFB.2] at h1
  injection h1 with h2
  injection h2 with h3 h4 h5
  exact absurd h4 (by decide)
 have HGF := hide hgf
 have hSf := fun W' (hb : But (fun x => x = f.blk) w W') (h2 : W'.heap[f.blk]? = some (.cells (flc (f.at st tl)).toArray 122 (0, 0))) => h.flow f (f.at st tl) hf hu hb rfl rfl h2
 have HSF := hide hSf
 clear h hFB hgf htl hwr hSf hnw
 go_enter Tryz.func130, Tryz.ntmps130
 go_upto_region 0 with fail
 refine anyT_begin (R := Rf f.blk) 24 rfl (by kernel_rfl) ?_
 have ld : Later w w.drew := Later.drew w
 generalize hwd : w.drew = wd at *
 clear hwd
 have k1 : ∀ v, Rf f.blk wd v → ∀ j, v.cell? ⟨g, j, none⟩ = (gfc s).toArray[j]? := fun v hv => block_cell ((hv.1.block g (Array.getElem?_eq_some_iff.1 (later_keep ld HG.out.gc)).1 (fun e => HGF.out e)).trans (later_keep ld HG.out.gc))
 have k2 : ∀ v, Rf f.blk wd v → v.cell? ⟨f.blk, 1, none⟩ = some (.int .u8 f.o.pr) := fun v hv => (hv.2 1 (by decide) (by decide)).trans (block_cell (later_keep ld HF.out.2) 1)
 unfold gfc at k1
 refine tV (Rf.pre f.blk) 0 rfl rfl ?_; apply Exists.intro; refine ⟨fun v1 hv1 => ?_, ?_⟩; (· (go_simp; rfl)); simp only [Act.put, sA, sB, sC]
 refine tV (Rf.pre f.blk) 1 rfl rfl ?_; apply Exists.intro; refine ⟨fun v1 hv1 => ?_, ?_⟩; (· (go_simp; rfl)); simp only [Act.put, sA, sB, sC]
 refine tV (Rf.pre f.blk) 2 rfl rfl ?_; apply Exists.intro; refine ⟨fun v1 hv1 => ?_, ?_⟩; (· (go_simp; rfl)); simp only [Act.put, sA, sB, sC]
 refine tV (Rf.pre f.blk) 3 rfl rfl ?_; apply Exists.intro; refine ⟨fun v1 hv1 => ?_, ?_⟩; (· (go_simp; rfl)); simp only [Act.put, sA, sB, sC]
 refine tV (Rf.pre f.blk) 4 rfl rfl ?_; apply Exists.intro; refine ⟨fun v1 hv1 => ?_, ?_⟩; (· (go_simp; rfl)); simp only [Act.put, sA, sB, sC]
 refine tV (Rf.pre f.blk) 5 rfl rfl ?_; apply Exists.intro; refine ⟨fun v1 hv1 => ?_, ?_⟩; (· (go_simp; rfl)); simp only [Act.put, sA, sB, sC]
 refine tV (Rf.pre f.blk) 6 rfl rfl ?_; apply Exists.intro; refine ⟨fun v1 hv1 => ?_, ?_⟩; (· (go_simp; rfl)); simp only [Act.put, sA, sB, sC]
 refine tV (Rf.pre f.blk) 7 rfl rfl ?_; apply Exists.intro; refine ⟨fun v1 hv1 => ?_, ?_⟩; (· (go_simp; rfl)); simp only [Act.put, sA, sB, sC]
 refine tV (Rf.pre f.blk) 8 rfl rfl ?_; apply Exists.intro; refine ⟨fun v1 hv1 => ?_, ?_⟩; (· (go_simp; rfl)); simp only [Act.put, sA, sB, sC]
 refine tV (Rf.pre f.blk) 9 rfl rfl ?_; apply Exists.intro; refine ⟨fun v1 hv1 => ?_, ?_⟩; (· (go_simp; rfl)); simp only [Act.put, sA, sB, sC]
 refine tV (Rf.pre f.blk) 10 rfl rfl ?_; apply Exists.intro; refine ⟨fun v1 hv1 => ?_, ?_⟩; (· (go_simp; rfl)); simp only [Act.put, sA, sB, sC]
 refine tV (Rf.pre f.blk) 11 rfl rfl ?_; apply Exists.intro; refine ⟨fun v1 hv1 => ?_, ?_⟩; (· (go_simp; rfl)); simp only [Act.put, sA, sB, sC]
 refine tV (Rf.pre f.blk) 12 rfl rfl ?_; apply Exists.intro; refine ⟨fun v1 hv1 => ?_, ?_⟩; (· (go_simp; rfl)); simp only [Act.put, sA, sB, sC]
 refine tV (Rf.pre f.blk) 13 rfl rfl ?_; apply Exists.intro; refine ⟨fun v1 hv1 => ?_, ?_⟩; (· (go_simp; rfl)); simp only [Act.put, sA, sB, sC]
 refine anyT_one 14 rfl (by kernel_rfl) rfl ?_
 refine wp_enter 168 #[.int .u8 f.o.pr, .int .i64 st] (by go_simp) ?_
 refine (time_any f.o.pr st wd).mono ?_
 rintro e w1 ⟨rfl, rfl⟩
 refine ⟨(Rf.pre f.blk).1 _, ?_⟩
 simp only [Act.put, sA, sB, sC]
 refine tV (Rf.pre f.blk) 15 rfl rfl ⟨.int .i64 tl, fun v1 hv1 => by (have hq := HWR.out; go_simp), ?_⟩
 simp only [Act.put, sA, sB, sC]
 refine tV (Rf.pre f.blk) 16 rfl rfl ?_; apply Exists.intro; refine ⟨fun v1 hv1 => ?_, ?_⟩; (· (go_simp; rfl)); simp only [Act.put, sA, sB, sC]
 refine tV (Rf.pre f.blk) 17 rfl rfl ?_; apply Exists.intro; refine ⟨fun v1 hv1 => ?_, ?_⟩; (· (go_simp; rfl)); simp only [Act.put, sA, sB, sC]
 refine tV (Rf.pre f.blk) 18 rfl rfl ?_; apply Exists.intro; refine ⟨fun v1 hv1 => ?_, ?_⟩; (· (go_simp; rfl)); simp only [Act.put, sA, sB, sC]
 clear k1 k2
 have kc := block_cell (later_keep ld HF.out.2)
 have fz := block_frozen (later_keep ld HF.out.2)
 unfold flc at kc
 refine anyT_one 19 rfl (by kernel_rfl) rfl ?_
 unfold Oper.wp
 go_simp
 refine ⟨Rf.set _ _ (.inl rfl), ?_⟩
 have c1 := heap_set1 (later_keep ld HF.out.2) 12 (.int .i64 st)
 have kc2 := block_cell c1
 have fz2 := block_frozen c1
 clear kc fz
 refine tV (Rf.pre f.blk) 20 rfl rfl ?_; apply Exists.intro; refine ⟨fun v1 hv1 => ?_, ?_⟩; (· (go_simp; rfl)); simp only [Act.put, sA, sB, sC]
 refine tV (Rf.pre f.blk) 21 rfl rfl ?_; apply Exists.intro; refine ⟨fun v1 hv1 => ?_, ?_⟩; (· (go_simp; rfl)); simp only [Act.put, sA, sB, sC]
 refine tV (Rf.pre f.blk) 22 rfl rfl ?_; apply Exists.intro; refine ⟨fun v1 hv1 => ?_, ?_⟩; (· (go_simp; rfl)); simp only [Act.put, sA, sB, sC]
 refine anyT_one 23 rfl (by kernel_rfl) rfl ?_
 unfold Oper.wp
 go_simp
 refine ⟨Rf.set _ _ (.inr rfl), ?_⟩
 refine anyT_done (by kernel_rfl) ?_
 have c2 := heap_set1 c1 13 (.int .i64 tl)
 have hbb : But (fun x => x = f.blk) w ((w1.setCell ⟨f.blk, 12, none⟩ (.int .i64 st)).setCell ⟨f.blk, 13, none⟩ (.int .i64 tl)) := ((But.of (E := fun x => x = f.blk) ld).setCell (p := ⟨f.blk, 12, none⟩) (show _ = _ from rfl) (.int .i64 st)).setCell (p := ⟨f.blk, 13, none⟩) (show _ = _ from rfl) (.int .i64 tl)
 clear kc2 fz2 c1
 generalize (w1.setCell ⟨f.blk, 12, none⟩ (.int .i64 st)).setCell ⟨f.blk, 13, none⟩ (.int .i64 tl) = w2 at *
 have H1 := hide (HSF.out w2 hbb c2)
 have M1 : Hid (KG base w w2) := KG.of_but hbb (fun k e => by
  have e' : k = f.blk := e
  refine ⟨by rw [e']; exact HF.out.1, fun o ho => ?_⟩
  rw [e', HF.out.2] at ho
  cases ho
  show gTs.contains _ = true
  decide)
 clear HSF HGF HG HF hbb c2 ld hu HWR
 go_upto_region 1 with fail
 refine anyT_begin (R := KX) 15 rfl (by kernel_rfl) ?_
 have ld : Later w2 w2.drew := Later.drew w2
 generalize w2.drew = w2d at *
 have HD1 := hide (H1.out.later ld)
 have MD1 := hide (M1.out.trans (KG.of_later ld))
 clear H1 M1 ld
 have hbd : base ≤ w2d.heap.size := Nat.le_trans hbs MD1.out.size
 have k1 : ∀ v, KX w2d v → ∀ j, v.cell? ⟨g, j, none⟩ = (gfc s).toArray[j]? := fun v hv => block_cell (hv g _ _ _ HD1.out.gc (by decide) (by decide))
 have k2 : ∀ v, KX w2d v → ∀ j, v.cell? ⟨f.blk, j, none⟩ = (flc (f.at st tl)).toArray[j]? := fun v hv => block_cell (hv f.blk _ _ _ (HD1.out.fb (f.at st tl) (mem_withF hf rfl)).2 (by decide) (by decide))
 unfold gfc at k1
 unfold flc Fl.at at k2
 refine tV KX.pre 0 rfl rfl ?_; apply Exists.intro; refine ⟨fun v1 hv1 => ?_, ?_⟩; (· (go_simp; rfl)); simp only [Act.put, sA, sB, sC]
 refine tV KX.pre 1 rfl rfl ?_; apply Exists.intro; refine ⟨fun v1 hv1 => ?_, ?_⟩; (· (go_simp; rfl)); simp only [Act.put, sA, sB, sC]
 refine tV KX.pre 2 rfl rfl ?_; apply Exists.intro; refine ⟨fun v1 hv1 => ?_, ?_⟩; (· (go_simp; rfl)); simp only [Act.put, sA, sB, sC]
 refine tV KX.pre 3 rfl rfl ?_; apply Exists.intro; refine ⟨fun v1 hv1 => ?_, ?_⟩; (· (go_simp; rfl)); simp only [Act.put, sA, sB, sC]
 refine tV KX.pre 4 rfl rfl ?_; apply Exists.intro; refine ⟨fun v1 hv1 => ?_, ?_⟩; (· (go_simp; rfl)); simp only [Act.put, sA, sB, sC]
 refine tV KX.pre 5 rfl rfl ?_; apply Exists.intro; refine ⟨fun v1 hv1 => ?_, ?_⟩; (· (go_simp; rfl)); simp only [Act.put, sA, sB, sC]
 refine tV KX.pre 6 rfl rfl ?_; apply Exists.intro; refine ⟨fun v1 hv1 => ?_, ?_⟩; (· (go_simp; rfl)); simp only [Act.put, sA, sB, sC]
 refine tV KX.pre 7 rfl rfl ?_; apply Exists.intro; refine ⟨fun v1 hv1 => ?_, ?_⟩; (· (go_simp; rfl)); simp only [Act.put, sA, sB, sC]
 refine tV KX.pre 8 rfl rfl ?_; apply Exists.intro; refine ⟨fun v1 hv1 => ?_, ?_⟩; (· (go_simp; rfl)); simp only [Act.put, sA, sB, sC]
 refine tV KX.pre 9 rfl rfl ?_; apply Exists.intro; refine ⟨fun v1 hv1 => ?_, ?_⟩; (· (go_simp; rfl)); simp only [Act.put, sA, sB, sC]
 refine tV KX.pre 10 rfl rfl ?_; apply Exists.intro; refine ⟨fun v1 hv1 => ?_, ?_⟩; (· (go_simp; rfl)); simp only [Act.put, sA, sB, sC]
 refine tV KX.pre 11 rfl rfl ?_; apply Exists.intro; refine ⟨fun v1 hv1 => ?_, ?_⟩; (· (go_simp; rfl)); simp only [Act.put, sA, sB, sC]
 refine tV KX.pre 12 rfl rfl ?_; apply Exists.intro; refine ⟨fun v1 hv1 => ?_, ?_⟩; (· (go_simp; rfl)); simp only [Act.put, sA, sB, sC]
 refine tV KX.pre 13 rfl rfl ?_; apply Exists.intro; refine ⟨fun v1 hv1 => ?_, ?_⟩; (· (go_simp; rfl)); simp only [Act.put, sA, sB, sC]
 clear k1 k2
 refine anyT_one 14 rfl (by kernel_rfl) rfl ?_
 refine wp_enter 169 #[.pointer (some ⟨s.gt, 0, none⟩), .agg #[.int .u8 f.o.pr, .int .u32 f.o.src, .int .u32 f.o.dst, .int .u16 f.o.sp, .int .u16 f.o.dp], .int .i64 tl] (by go_simp) ?_
 refine (moveF base s.gt s.cnt (s.trn, s.rw).1 (s.trn, s.rw).2 f.o tl w2d HD1.out.tb hBo hbd (by exact ⟨htr.1, by show s.trn ≤ 1000000; omega⟩)).mono ?_
 rintro e w3 ⟨ev, rfl, hT, hk, hm, hg⟩
 refine ⟨KX.of hk, ?_⟩
 simp only [Act.put, sA, sB, sC]
 refine anyT_done (by kernel_rfl) ?_
 have H2 := hide (HD1.out.moved hk hm hT)
 have M2 := hide (MD1.out.trans hg)
 clear HD1 MD1 hT hk hm hg hbd
 go_upto_region 2 with fail
 refine anyT_begin (R := KX) 15 rfl (by kernel_rfl) ?_
 have ld : Later w3 w3.drew := Later.drew w3
 generalize w3.drew = w3d at *
 have HD2 := hide (H2.out.later ld)
 have MD2 := hide (M2.out.trans (KG.of_later ld))
 clear H2 M2 ld
 have hbd : base ≤ w3d.heap.size := Nat.le_trans hbs MD2.out.size
 have k1 : ∀ v, KX w3d v → ∀ j, v.cell? ⟨g, j, none⟩ = (gfc s).toArray[j]? := fun v hv => block_cell (hv g _ _ _ HD2.out.gc (by decide) (by decide))
 have k2 : ∀ v, KX w3d v → ∀ j, v.cell? ⟨f.blk, j, none⟩ = (flc (f.at st tl)).toArray[j]? := fun v hv => block_cell (hv f.blk _ _ _ (HD2.out.fb (f.at st tl) (mem_withF hf rfl)).2 (by decide) (by decide))
 unfold gfc at k1
 unfold flc Fl.at at k2
 refine tV KX.pre 0 rfl rfl ?_; apply Exists.intro; refine ⟨fun v1 hv1 => ?_, ?_⟩; (· (go_simp; rfl)); simp only [Act.put, sA, sB, sC]
 refine tV KX.pre 1 rfl rfl ?_; apply Exists.intro; refine ⟨fun v1 hv1 => ?_, ?_⟩; (· (go_simp; rfl)); simp only [Act.put, sA, sB, sC]
 refine tV KX.pre 2 rfl rfl ?_; apply Exists.intro; refine ⟨fun v1 hv1 => ?_, ?_⟩; (· (go_simp; rfl)); simp only [Act.put, sA, sB, sC]
 refine tV KX.pre 3 rfl rfl ?_; apply Exists.intro; refine ⟨fun v1 hv1 => ?_, ?_⟩; (· (go_simp; rfl)); simp only [Act.put, sA, sB, sC]
 refine tV KX.pre 4 rfl rfl ?_; apply Exists.intro; refine ⟨fun v1 hv1 => ?_, ?_⟩; (· (go_simp; rfl)); simp only [Act.put, sA, sB, sC]
 refine tV KX.pre 5 rfl rfl ?_; apply Exists.intro; refine ⟨fun v1 hv1 => ?_, ?_⟩; (· (go_simp; rfl)); simp only [Act.put, sA, sB, sC]
 refine tV KX.pre 6 rfl rfl ?_; apply Exists.intro; refine ⟨fun v1 hv1 => ?_, ?_⟩; (· (go_simp; rfl)); simp only [Act.put, sA, sB, sC]
 refine tV KX.pre 7 rfl rfl ?_; apply Exists.intro; refine ⟨fun v1 hv1 => ?_, ?_⟩; (· (go_simp; rfl)); simp only [Act.put, sA, sB, sC]
 refine tV KX.pre 8 rfl rfl ?_; apply Exists.intro; refine ⟨fun v1 hv1 => ?_, ?_⟩; (· (go_simp; rfl)); simp only [Act.put, sA, sB, sC]
 refine tV KX.pre 9 rfl rfl ?_; apply Exists.intro; refine ⟨fun v1 hv1 => ?_, ?_⟩; (· (go_simp; rfl)); simp only [Act.put, sA, sB, sC]
 refine tV KX.pre 10 rfl rfl ?_; apply Exists.intro; refine ⟨fun v1 hv1 => ?_, ?_⟩; (· (go_simp; rfl)); simp only [Act.put, sA, sB, sC]
 refine tV KX.pre 11 rfl rfl ?_; apply Exists.intro; refine ⟨fun v1 hv1 => ?_, ?_⟩; (· (go_simp; rfl)); simp only [Act.put, sA, sB, sC]
 refine tV KX.pre 12 rfl rfl ?_; apply Exists.intro; refine ⟨fun v1 hv1 => ?_, ?_⟩; (· (go_simp; rfl)); simp only [Act.put, sA, sB, sC]
 refine tV KX.pre 13 rfl rfl ?_; apply Exists.intro; refine ⟨fun v1 hv1 => ?_, ?_⟩; (· (go_simp; rfl)); simp only [Act.put, sA, sB, sC]
 clear k1 k2
 refine anyT_one 14 rfl (by kernel_rfl) rfl ?_
 refine wp_enter 169 #[.pointer (some ⟨s.gt, 0, none⟩), .agg #[.int .u8 f.r.pr, .int .u32 f.r.src, .int .u32 f.r.dst, .int .u16 f.r.sp, .int .u16 f.r.dp], .int .i64 tl] (by go_simp) ?_
 refine (moveF base s.gt s.cnt (mvT f.o tl (s.trn, s.rw)).1 (mvT f.o tl (s.trn, s.rw)).2 f.r tl w3d HD2.out.tb hBr hbd (by have := mvT_fst f.o tl (s.trn, s.rw); simp only at this; omega)).mono ?_
 rintro e w4 ⟨ev, rfl, hT, hk, hm, hg⟩
 refine ⟨KX.of hk, ?_⟩
 simp only [Act.put, sA, sB, sC]
 refine anyT_done (by kernel_rfl) ?_
 have H3 := hide (HD2.out.moved hk hm hT)
 have M3 := hide (MD2.out.trans hg)
 clear HD2 MD2 hT hk hm hg hbd
 go_wp2_with fail
 go_end0
 refine ⟨rfl, M3.out, ?_⟩
 have h3 := H3.out
 rw [HTL.out] at h3
 exact h3
end Go.Proofs.YtajcfhcdincngaaGreatDoor

/- Package gate: a flow begins. -/
namespace Go.Proofs.YtajcfhcdincngaaGreatDoor
open Go.RowKit Go.Shelf
set_option maxRecDepth 100000
set_option linter.unusedVariables false
set_option linter.unusedSimpArgs false

/-- The helper that leaves packets as they are. -/
def noh : Value := .iface 370 (.agg #[])

set_option maxHeartbeats 4000000 in
theorem helper_udp (o r : Tu) (i sd st0 tl0 ms : Int) (w : World) (hp : o.pr = 17) (h1 : (r.sp == 5060) = false) (h2 : (o.sp == 5060) = false) :
  Calls Tryz.prog 232 #[.agg #[.int .i64 i, .int .u8 o.pr, .int .u32 o.src, .int .u32 o.dst, .int .u16 o.sp, .int .u16 o.dp, .int .u8 r.pr, .int .u32 r.src, .int .u32 r.dst, .int .u16 r.sp, .int .u16 r.dp, .int .i64 sd, .int .i64 st0, .int .i64 tl0, .int .i64 ms]] w fun e w' => e = .returned noh ∧ Later w w' := by
 have l0 := later_allocG w (.cells #[.int .i64 i, .int .u8 o.pr, .int .u32 o.src, .int .u32 o.dst, .int .u16 o.sp, .int .u16 o.dp, .int .u8 r.pr, .int .u32 r.src, .int .u32 r.dst, .int .u16 r.sp, .int .u16 r.dp, .int .i64 sd, .int .i64 st0, .int .i64 tl0, .int .i64 ms] 117)
 have C0 := hide (heap_alloc_new w (.cells #[.int .i64 i, .int .u8 o.pr, .int .u32 o.src, .int .u32 o.dst, .int .u16 o.sp, .int .u16 o.dp, .int .u8 r.pr, .int .u32 r.src, .int .u32 r.dst, .int .u16 r.sp, .int .u16 r.dp, .int .i64 sd, .int .i64 st0, .int .i64 tl0, .int .i64 ms] 117))
 have HP := hide hp
 clear hp
 go_enter Tryz.func232, Tryz.ntmps232
 go_upto_region 1 with fail
 generalize w.alloc _ = w1 at *
 generalize w.heap.size = gx at *
 have k0 := block_cell C0.out
 rw [HP.out] at k0
 go_wp2_with fail
 go_ret
 exact ⟨rfl, l0⟩

theorem first_st (p : Int) (w : World) (hp : (p == 6) = false) : Calls Tryz.prog 234 #[.int .u8 p] w fun e w' => e = .returned (.int .i64 8) ∧ w' = w := by
 go_enter Tryz.func234, Tryz.ntmps234
 go_wp2_with fail
 go_ret
 exact ⟨rfl, rfl⟩

/-- A table's count, turn and rows when a tuple is put. -/
def ptT (t : Tu) (id till : Int) (q : Int × Int × (Nat → List Rw)) : Int × Int × (Nat → List Rw) := if pute 128 q.1 q.2.2 t.pr t.src t.dst t.sp t.dp till = 0 then (q.1 + 1, q.2.1 + 1, addL q.2.2 (bkT t) ⟨t.pr, t.src, t.dst, kyp t.pr t.sp, t.dp, id, till, q.2.1 + 1⟩) else q
theorem ptT_bd (t : Tu) (id till : Int) (q : Int × Int × (Nat → List Rw)) : q.1 ≤ (ptT t id till q).1 ∧ (ptT t id till q).1 ≤ q.1 + 1 ∧ q.2.1 ≤ (ptT t id till q).2.1 ∧ (ptT t id till q).2.1 ≤ q.2.1 + 1 ∧ ∀ i, ((ptT t id till q).2.2 i).length ≤ (q.2.2 i).length + 1 := by
 unfold ptT
 split
 ·refine ⟨by show q.1 ≤ q.1 + 1; omega, Int.le_refl _, by show q.2.1 ≤ q.2.1 + 1; omega, Int.le_refl _, fun i => ?_⟩
  show (addL q.2.2 _ _ i).length ≤ _
  unfold addL
  split
  ·rename_i e; simp [e]
  ·omega
 ·exact ⟨by omega, by omega, by omega, by omega, fun i => by omega⟩
theorem putF (base gt : Nat) (cnt trn : Int) (rw : Nat → List Rw) (t : Tu) (id till : Int) (w : World) (hT : TB base w gt 128 cnt trn rw) (hB : TuB t) (hbs : base ≤ w.heap.size) (htr : 0 ≤ trn ∧ trn ≤ 1000000) (hcn : 0 ≤ cnt ∧ cnt ≤ 4096) (hln : ∀ i, (rw i).length ≤ 5000) :
  Calls Tryz.prog 233 #[.pointer (some ⟨gt, 0, none⟩), .agg #[.int .u8 t.pr, .int .u32 t.src, .int .u32 t.dst, .int .u16 t.sp, .int .u16 t.dp], .int .i64 id, .int .i64 till] w fun e w' => ∃ ev : Int, e = .returned (.int .i64 ev) ∧ TB base w' gt 128 (ptT t id till (cnt, trn, rw)).1 (ptT t id till (cnt, trn, rw)).2.1 (ptT t id till (cnt, trn, rw)).2.2 ∧ KT w w' ∧ KM w w' ∧ KG base w w' := by
 obtain ⟨vs, hTv⟩ := hT
 refine (tput_any base gt 128 cnt trn vs rw t.pr t.src t.dst t.sp t.dp id till w hTv hB.1 hB.2.1 hB.2.2.1 hB.2.2.2 hbs htr hcn (by omega) (hln _)).mono ?_
 rintro e w' ⟨he, ⟨h0, h1, h2⟩ | ⟨h0, h1, h2⟩⟩
 ·refine ⟨_, he, ?_, KT.of_later h2, KM.of_later h2, KG.of_later h2⟩
  have e2 : ptT t id till (cnt, trn, rw) = (cnt, trn, rw) := by unfold ptT; rw [if_neg h0]
  rw [e2]
  exact ⟨vs, h1⟩
 ·have ty := hTv.typed (bki t.pr t.src t.dst t.sp t.dp) (bki_lt _ _ _ _ _)
  refine ⟨_, he, ?_, KT.of_but h2 ty, KM.of_but h2 ty, KG.of_but h2 (fun k e => ?_)⟩
  ·have e2 : ptT t id till (cnt, trn, rw) = (cnt + 1, trn + 1, addL rw (bkT t) ⟨t.pr, t.src, t.dst, kyp t.pr t.sp, t.dp, id, till, trn + 1⟩) := by unfold ptT; rw [if_pos h0]
   rw [e2]
   exact h1
  ·refine ⟨?_, fun ob ho => ?_⟩
   ·rcases e with e | e
    ·rw [e]; exact hTv.2.1
    ·rcases (hTv.2.2.2.1 _ (bki_lt t.pr t.src t.dst t.sp t.dp)).2 with ⟨e2, _⟩ | ⟨g', cp, cur, e2, hb', _⟩
     ·rw [e2] at e; cases e
     ·rw [e2] at e; cases e; exact hb'
   ·obtain ⟨cur, tt, fz, hh, ht⟩ := ty k e
    rw [hh] at ho
    cases ho
    show gTs.contains _ = true
    rcases ht with ht | ht <;> (rw [ht]; decide)
/-- The table is another one. -/
theorem GF.tabled {base g : Nat} {W W' : World} {s : Gf} (h : GF base W g s) (hk : KT W W') (hb : KM W W') {cnt trn : Int} {rw : Nat → List Rw} (ht : TB base W' s.gt 128 cnt trn rw) : GF base W' g { s with cnt := cnt, trn := trn, rw := rw } := by
 have ho : ∀ {e : TypeId} {size : Nat} {v : Value} {n : Nat} {xs : List Value}, e ≠ 163 → e ≠ 171 → W.ownsRow base e size v n xs → W'.ownsRow base e size v n xs := fun h1 h2 q => by
  obtain ⟨q1, q2 | ⟨b, cap, cur', e', hb', hh, r⟩⟩ := q
  ·exact ⟨q1, .inl q2⟩
  ·exact ⟨q1, .inr ⟨b, cap, cur', e', hb', hk _ _ _ _ hh h1 h2, r⟩⟩
 exact ⟨h.bs, hk _ _ _ _ h.gc (by decide) (by decide), ⟨h.rl.1, hk _ _ _ _ h.rl.2.1 (by decide) (by decide), ho (by decide) (by decide) h.rl.2.2⟩, ht, ⟨h.bl.1, hk _ _ _ _ h.bl.2.1 (by decide) (by decide), ho (by decide) (by decide) h.bl.2.2⟩, hb.map h.fl, hb.map h.pl, h.ne, h.bf, h.fm, h.pm, fun f hf => ⟨(h.fb f hf).1, hk _ _ _ _ (h.fb f hf).2 (by decide) (by decide)⟩, fun p hp => ⟨(h.pb p hp).1, (h.pb p hp).2.1, hk _ _ _ _ (h.pb p hp).2.2 (by decide) (by decide)⟩⟩
/-- The gateway with one more flow, which is not in the table yet. -/
def Gf.begun (s : Gf) (f : Fl) : Gf := { s with bg := s.bg + 1, fs := s.fs ++ [f], fe := s.fe.push ⟨.int .i64 f.id, .pointer (some ⟨f.blk, 0, none⟩), s.cf⟩, cf := s.cf + 1 }
def opM (s : Gf) (f : Fl) : Int × Int × (Nat → List Rw) := ptT f.r f.id s.now (ptT f.o f.id s.now (s.cnt, s.trn, s.rw))
def opS (s : Gf) (f : Fl) : Gf := { s.begun f with cnt := (opM s f).1, trn := (opM s f).2.1, rw := (opM s f).2.2 }
/-- How many flows have begun, is another number. -/
theorem GF.count {base g : Nat} {W : World} {s : Gf} (h : GF base W g s) (n : Int) : GF base (W.setCell ⟨g, 3, none⟩ (.int .i64 n)) g { s with bg := n } := by
 have hb : But (fun b => b = g) W (W.setCell ⟨g, 3, none⟩ (.int .i64 n)) := (But.refl (fun b => b = g) _).setCell (show _ = _ from rfl) _
 have hE := TE.one h.gc
 exact ⟨h.bs, heap_set1 h.gc 3 (.int .i64 n), ⟨h.rl.1, hE.keep hb h.rl.2.1 (isT_no (by decide) _ _), hE.own hb h.rl.2.2 (isT_no (by decide))⟩, hE.table hb h.tb (isT_no (by decide)) (isT_no (by decide)), ⟨h.bl.1, hE.keep hb h.bl.2.1 (isT_no (by decide) _ _), hE.own hb h.bl.2.2 (isT_no (by decide))⟩, hE.keep hb h.fl (isT_map _ _), hE.keep hb h.pl (isT_map _ _), h.ne, h.bf, h.fm, h.pm, fun f hf => ⟨(h.fb f hf).1, hE.keep hb (h.fb f hf).2 (isT_no (by decide) _ _)⟩, fun p hp => ⟨(h.pb p hp).1, (h.pb p hp).2.1, hE.keep hb (h.pb p hp).2.2 (isT_no (by decide) _ _)⟩⟩
theorem findG_no (z : Int) : ∀ (l : List MapEntry) (i : Nat), (∀ e ∈ l, ∃ k : Int, e.key = .int .i64 k ∧ k ≠ z) → Instr.findNow (.int .i64) (.int .i64 z) l i = some none
 | [], _, _ => rfl
 | e :: l, i, h => by
  obtain ⟨k, hk, hne⟩ := h e (by simp)
  have h1 : Instr.sameNow (.int .i64) (.int .i64 z) e.key = some false := by rw [hk]; simp [Instr.sameNow, hne, Ne.symm hne]
  unfold Instr.findNow
  rw [h1]
  exact findG_no z l (i + 1) (fun e' he' => h e' (by simp [he']))
theorem fe_keys {base g : Nat} {W : World} {s : Gf} (h : GF base W g s) (z : Int) (hz : ∀ x ∈ s.fs, x.id ≠ z) : ∀ e ∈ s.fe.toList, ∃ k : Int, e.key = .int .i64 k ∧ k ≠ z := fun e he => by
 have h1 : (e.key, e.val) ∈ s.fe.toList.map (fun e => (e.key, e.val)) := List.mem_map.2 ⟨e, he, rfl⟩
 rw [h.fm] at h1
 obtain ⟨x, hx, e2⟩ := List.mem_map.1 h1
 have e3 : (Value.int .i64 x.id) = e.key := congrArg Prod.fst e2
 exact ⟨x.id, e3.symm, hz x hx⟩
/-- The flow is written into the map. -/
theorem GF.written {base g : Nat} {W W' : World} {s : Gf} (h : GF base W g s) (f : Fl) (hid : f.id = s.bg - 1) (hb : But (fun b => b = s.gf) W W') (hm : W'.heap[s.gf]? = some (.map (s.fe.push ⟨.int .i64 f.id, .pointer (some ⟨f.blk, 0, none⟩), s.cf⟩) (s.cf + 1))) (hf : base ≤ f.blk ∧ W.heap[f.blk]? = some (.cells (flc f).toArray 122 (0, 0))) : GF base W' g { s with fs := s.fs ++ [f], fe := s.fe.push ⟨.int .i64 f.id, .pointer (some ⟨f.blk, 0, none⟩), s.cf⟩, cf := s.cf + 1 } := by
 have hk : ∀ (b : Nat) (cur : Array Value) (t : TypeId) (fz : Nat × Nat), W.heap[b]? = some (.cells cur t fz) → W'.heap[b]? = some (.cells cur t fz) := fun b cur t fz hh => (hb.block b (bl9 hh) (fun e => by have e' : b = s.gf := e; have h2 := h.fl; rw [← e', hh] at h2; cases h2)).trans hh
 have ho : ∀ {bs : Nat} {e : TypeId} {size : Nat} {v : Value} {n : Nat} {xs : List Value}, W.ownsRow bs e size v n xs → W'.ownsRow bs e size v n xs := fun h => by
  obtain ⟨q1, q2 | ⟨b, cap, cur', e', hb', hh, r⟩⟩ := h
  ·exact ⟨q1, .inl q2⟩
  ·exact ⟨q1, .inr ⟨b, cap, cur', e', hb', hk _ _ _ _ hh, r⟩⟩
 obtain ⟨vs, t1, t2, t3, t4, t5⟩ := h.tb
 refine ⟨h.bs, hk _ _ _ _ h.gc, ⟨h.rl.1, hk _ _ _ _ h.rl.2.1, ho h.rl.2.2⟩, ⟨vs, t1, t2, hk _ _ _ _ t3, fun i hi => ho (t4 i hi), t5⟩, ⟨h.bl.1, hk _ _ _ _ h.bl.2.1, ho h.bl.2.2⟩, hm, ?_, h.ne, h.bf, ?_, h.pm, fun x hx => ?_, fun p hp => ⟨(h.pb p hp).1, (h.pb p hp).2.1, hk _ _ _ _ (h.pb p hp).2.2⟩⟩
 ·exact (hb.block s.gp (bl9 h.pl) (fun e => h.ne e.symm)).trans h.pl
 ·show (s.fe.push _).toList.map (fun e => (e.key, e.val)) = (s.fs ++ [f]).map flE
  rw [Array.toList_push, List.map_append, List.map_append, h.fm]
  rfl
 ·rcases List.mem_append.1 hx with hx | hx
  ·exact ⟨(h.fb x hx).1, hk _ _ _ _ (h.fb x hx).2⟩
  ·have e : x = f := by simpa using hx
   subst e
   exact ⟨hf.1, hk _ _ _ _ hf.2⟩
end Go.Proofs.YtajcfhcdincngaaGreatDoor

/- Package gate: a flow is opened. -/
namespace Go.Proofs.YtajcfhcdincngaaGreatDoor
open Go.RowKit Go.Shelf
set_option maxRecDepth 100000
set_option linter.unusedVariables false
set_option linter.unusedSimpArgs false

/-- The flow that begins. -/
def newF (s : Gf) (b : Nat) (o r : Tu) (sd st0 tl0 ms : Int) (hv : Value) : Fl := ⟨b, s.bg, o, r, sd, st0, tl0, ms, hv, noh⟩
theorem ins_flow {w : World} {b c : Nat} {es : Array MapEntry} (hb : w.heap[b]? = some (.map es c)) (z : Int) (v : Value) (hf : Instr.findNow (.int .i64) (.int .i64 z) es.toList 0 = some none) :
  ∃ w', (Instr.mapUpdate 79 (.map (some b)) (.int .i64 z) v).run Tryz.prog w = .ok () w' ∧ w'.heap[b]? = some (.map (es.push ⟨.int .i64 z, v, c⟩) (c + 1)) ∧ But (fun g => g = b) w w' := by
 have hc : (Instr.checkKey false 10000 3 (.int .i64 z)).run Tryz.prog w = .ok () w := MapKept.run_checkKey (k := .int .i64 z) Tryz.underlying3 (by simp [MapKept.IsKey]) false 9999
 have hlt := (bl9 hb)
 refine ⟨{ w with heap := w.heap.setIfInBounds b (.map (es.push ⟨.int .i64 z, v, c⟩) (c + 1)) }, ?_, ?_, rfl, rfl, rfl, by simp, fun i hi he => ?_⟩
 ·simp [Instr.mapUpdate, run_underlying Tryz.underlying79, MapKept.run_getObj_map hb, hc, MapKept.run_findKey Tryz.underlying3 hf, MapKept.run_setObj_map _ hb, Result.andThen]
 ·simp [hlt]
 ·have he' : i ≠ b := he
  rw [Array.getElem?_setIfInBounds_ne (by omega)]
def OpQ (base : Nat) (w w' : World) (g : Nat) (s : Gf) (o r : Tu) (sd st0 tl0 ms : Int) (hv : Value) (e : Ending) : Prop := ∃ f : Fl, w.heap.size ≤ f.blk ∧ e = .returned (.pointer (some ⟨f.blk, 0, none⟩)) ∧ KG base w w' ∧ f.id = s.bg ∧ f.o = o ∧ f.r = r ∧ f.side = sd ∧ f.ms = ms ∧ f.hv = hv ∧ f.hp = noh ∧ GF base w' g (bcS (opS s f) f 8)

set_option maxRecDepth 100000 in
set_option maxHeartbeats 8000000 in
theorem open_udp (base g : Nat) (s : Gf) (o r : Tu) (i0 sd st0 tl0 ms : Int) (ha : Option Addr) (hn hc : Nat) (w : World) (h : GF base w g s) (hp : o.pr = 17) (h1 : (r.sp == 5060) = false) (h2 : (o.sp == 5060) = false) (hbs : base ≤ w.heap.size) (hBo : TuB o) (hBr : TuB r) (htr : 0 ≤ s.trn ∧ s.trn ≤ 900000) (hnw : 0 ≤ s.now ∧ s.now ≤ 549755813888) (hbg : 0 ≤ s.bg ∧ s.bg ≤ 1000000) (hid : ∀ x ∈ s.fs, x.id ≠ s.bg) (hcn : 0 ≤ s.cnt ∧ s.cnt ≤ 1000) (hln : ∀ i, (s.rw i).length ≤ 4000) :
  Calls Tryz.prog 202 #[.pointer (some ⟨g, 0, none⟩), .agg #[.int .i64 i0, .int .u8 o.pr, .int .u32 o.src, .int .u32 o.dst, .int .u16 o.sp, .int .u16 o.dp, .int .u8 r.pr, .int .u32 r.src, .int .u32 r.dst, .int .u16 r.sp, .int .u16 r.dp, .int .i64 sd, .int .i64 st0, .int .i64 tl0, .int .i64 ms], .slice ha hn hc] w fun e w' => OpQ base w w' g s o r sd st0 tl0 ms (.slice ha hn hc) e := by
 have l0 := later_allocG w (.cells #[.int .i64 i0, .int .u8 o.pr, .int .u32 o.src, .int .u32 o.dst, .int .u16 o.sp, .int .u16 o.dp, .int .u8 r.pr, .int .u32 r.src, .int .u32 r.dst, .int .u16 r.sp, .int .u16 r.dp, .int .i64 sd, .int .i64 st0, .int .i64 tl0, .int .i64 ms] 117)
 have C0 := hide (heap_alloc_new w (.cells #[.int .i64 i0, .int .u8 o.pr, .int .u32 o.src, .int .u32 o.dst, .int .u16 o.sp, .int .u16 o.dp, .int .u8 r.pr, .int .u32 r.src, .int .u32 r.dst, .int .u16 r.sp, .int .u16 r.dp, .int .i64 sd, .int .i64 st0, .int .i64 tl0, .int .i64 ms] 117))
 have HG := hide (h.later l0)
 have HID := hide (fe_keys h s.bg hid)
 have HBF := hide (fun x (hx : x ∈ s.fs) => (Array.getElem?_eq_some_iff.1 (h.fb x hx).2).1)
 have hP6 : (o.pr == 6) = false := by rw [hp]; decide
 have HHP := hide (fun W => helper_udp o r s.bg sd st0 tl0 ms W hp h1 h2)
 have HFS := hide (fun W => first_st o.pr W hP6)
 have hwr : IntKind.i64.wrap (s.bg + 1) = s.bg + 1 := wrapi _ (by omega) (by omega)
 have HWR := hide hwr
 clear h hp h1 h2 hP6 hwr hid
 go_enter Tryz.func202, Tryz.ntmps202
 go_upto_region 1 with fail
 generalize w.alloc _ = w1 at *
 generalize hgx : w.heap.size = gx at C0 ⊢
 have kg := block_cell HG.out.gc
 have fg := block_frozen HG.out.gc
 unfold gfc at kg
 have kx0 := block_cell C0.out
 have fx0 := block_frozen C0.out
 go_upto_region 3 with fail
 have c1 := heap_set1 C0.out 0 (.int .i64 s.bg)
 have hgg : g ≠ gx := fun e => by
  have q1 := HG.out.gc
  have q2 := C0.out
  rw [← e, q1] at q2
  injection q2 with q3
  injection q3 with q4 q5 q6
  exact absurd q5 (by decide)
 have hA := HG.out.other (TE.one C0.out) ((But.refl (fun b => b = gx) w1).setCell (p := ⟨gx, 0, none⟩) (show _ = _ from rfl) (.int .i64 s.bg)) (by decide)
 have hB1 := hA.count (s.bg + 1)
 have c2 : ((w1.setCell ⟨gx, 0, none⟩ (.int .i64 s.bg)).setCell ⟨g, 3, none⟩ (.int .i64 (s.bg + 1))).heap[gx]? = some (.cells #[.int .i64 s.bg, .int .u8 o.pr, .int .u32 o.src, .int .u32 o.dst, .int .u16 o.sp, .int .u16 o.dp, .int .u8 r.pr, .int .u32 r.src, .int .u32 r.dst, .int .u16 r.sp, .int .u16 r.dp, .int .i64 sd, .int .i64 st0, .int .i64 tl0, .int .i64 ms] 117) := (((But.refl (fun b => b = g) (w1.setCell ⟨gx, 0, none⟩ (.int .i64 s.bg))).setCell (p := ⟨g, 3, none⟩) (show _ = _ from rfl) (.int .i64 (s.bg + 1))).block gx (bl9 c1) (fun e => hgg e.symm)).trans c1
 have hbb : But (fun b => b = g ∨ b = gx) w ((w1.setCell ⟨gx, 0, none⟩ (.int .i64 s.bg)).setCell ⟨g, 3, none⟩ (.int .i64 (s.bg + 1))) := ((But.of (E := fun b => b = g ∨ b = gx) l0).setCell (p := ⟨gx, 0, none⟩) (.inr rfl) (.int .i64 s.bg)).setCell (p := ⟨g, 3, none⟩) (.inl rfl) (.int .i64 (s.bg + 1))
 have M2 : Hid (KG base w ((w1.setCell ⟨gx, 0, none⟩ (.int .i64 s.bg)).setCell ⟨g, 3, none⟩ (.int .i64 (s.bg + 1)))) := KG.of_but hbb (fun k e => by
  rcases e with e | e
  ·rw [e]
   refine ⟨HG.out.bs, fun ob ho => ?_⟩
   have q := later_keep l0 ho
   rw [HG.out.gc] at q
   cases q
   show gTs.contains _ = true
   decide
  ·rw [e]
   refine ⟨by omega, fun ob ho => ?_⟩
   have := (bl9 ho)
   omega)
 have H2 := hide hB1
 have C2 := hide c2
 clear hbb hB1 c2 hA c1 kg fg kx0 fx0 C0 HG l0
 generalize ((w1.setCell ⟨gx, 0, none⟩ (.int .i64 s.bg)).setCell ⟨g, 3, none⟩ (.int .i64 (s.bg + 1))) = w2 at *
 refine anyT_begin (R := Later) 7 rfl (by kernel_rfl) ?_
 have ld : Later w2 w2.drew := Later.drew w2
 generalize w2.drew = w2d at *
 have k2 : ∀ v, Later w2d v → ∀ j, v.cell? ⟨gx, j, none⟩ = #[.int .i64 s.bg, .int .u8 o.pr, .int .u32 o.src, .int .u32 o.dst, .int .u16 o.sp, .int .u16 o.dp, .int .u8 r.pr, .int .u32 r.src, .int .u32 r.dst, .int .u16 r.sp, .int .u16 r.dp, .int .i64 sd, .int .i64 st0, .int .i64 tl0, .int .i64 ms][j]? := fun v hv => block_cell (later_keep hv (later_keep ld C2.out))
 refine tV Later.pre 0 rfl rfl ?_; apply Exists.intro; refine ⟨fun v1 hv1 => ?_, ?_⟩; (· (go_simp; rfl)); simp only [Act.put, sA, sB, sC]
 refine tV Later.pre 1 rfl rfl ?_; apply Exists.intro; refine ⟨fun v1 hv1 => ?_, ?_⟩; (· (go_simp; rfl)); simp only [Act.put, sA, sB, sC]
 refine tV Later.pre 2 rfl rfl ?_; apply Exists.intro; refine ⟨fun v1 hv1 => ?_, ?_⟩; (· (go_simp; rfl)); simp only [Act.put, sA, sB, sC]
 clear k2
 refine anyT_one 3 rfl (by kernel_rfl) rfl ?_
 refine wp_enter 232 #[.agg #[.int .i64 s.bg, .int .u8 o.pr, .int .u32 o.src, .int .u32 o.dst, .int .u16 o.sp, .int .u16 o.dp, .int .u8 r.pr, .int .u32 r.src, .int .u32 r.dst, .int .u16 r.sp, .int .u16 r.dp, .int .i64 sd, .int .i64 st0, .int .i64 tl0, .int .i64 ms]] (by go_simp) ?_
 refine (HHP.out w2d).mono ?_
 rintro e w3 ⟨rfl, l3⟩
 refine ⟨l3, ?_⟩
 simp only [Act.put, sA, sB, sC]
 unfold noh
 refine tV Later.pre 4 rfl rfl ?_; apply Exists.intro; refine ⟨fun v1 hv1 => ?_, ?_⟩; (· (go_simp; rfl)); simp only [Act.put, sA, sB, sC]
 have la := later_allocG w3 (.cells #[.int .i64 s.bg, .int .u8 o.pr, .int .u32 o.src, .int .u32 o.dst, .int .u16 o.sp, .int .u16 o.dp, .int .u8 r.pr, .int .u32 r.src, .int .u32 r.dst, .int .u16 r.sp, .int .u16 r.dp, .int .i64 sd, .int .i64 st0, .int .i64 tl0, .int .i64 ms, .slice ha hn hc, noh] 122)
 have ca := heap_alloc_new w3 (.cells #[.int .i64 s.bg, .int .u8 o.pr, .int .u32 o.src, .int .u32 o.dst, .int .u16 o.sp, .int .u16 o.dp, .int .u8 r.pr, .int .u32 r.src, .int .u32 r.dst, .int .u16 r.sp, .int .u16 r.dp, .int .i64 sd, .int .i64 st0, .int .i64 tl0, .int .i64 ms, .slice ha hn hc, noh] 122)
 unfold noh at la ca
 have LA := hide la
 have CA := hide ca
 clear la ca
 refine anyT_one 5 rfl (by kernel_rfl) rfl ?_
 unfold Oper.wp
 go_simp
 refine ⟨LA.out, ?_⟩
 generalize w3.alloc _ = w4 at *
 have la := LA.out
 have ca := CA.out
 clear LA CA
 refine tV Later.pre 6 rfl rfl ?_; apply Exists.intro; refine ⟨fun v1 hv1 => ?_, ?_⟩; (· (go_simp; rfl)); simp only [Act.put, sA, sB, sC]
 refine anyT_done (by kernel_rfl) ?_
 have hgn : w.heap.size ≤ w3.heap.size := Nat.le_trans M2.out.size (Nat.le_trans ld.size l3.size)
 generalize hgnn : w3.heap.size = gn at *
 have L4 : Later w2 w4 := ld.trans (l3.trans la)
 have H4 := hide (H2.out.later L4)
 have M4 := hide (M2.out.trans (KG.of_later L4))
 have C4 := hide (later_keep L4 C2.out)
 have D4 := hide ca
 clear H2 M2 C2 ld l3 la ca L4 hgnn
 go_upto_region 4 with fail
 refine anyT_begin (R := But (fun b => b = s.gf)) 8 rfl (by kernel_rfl) ?_
 have ld : Later w4 w4.drew := Later.drew w4
 generalize w4.drew = w5 at *
 have H4d := hide (H4.out.later ld)
 have M4d := hide (M4.out.trans (KG.of_later ld))
 have C4d := hide (later_keep ld C4.out)
 have D4d := hide (later_keep ld D4.out)
 clear H4 M4 C4 D4 ld
 have hnm : ∀ (b : Nat) (cur : Array Value) (t : TypeId) (f : Nat × Nat), w5.heap[b]? = some (.cells cur t f) → ∀ v, But (fun b => b = s.gf) w5 v → v.heap[b]? = some (.cells cur t f) := fun b cur t f hb v hv => (hv.block b (bl9 hb) (fun e => by have e' : b = s.gf := e; have hh := H4d.out.fl; simp only at hh; rw [← e', hb] at hh; cases hh)).trans hb
 have k1 : ∀ v, But (fun b => b = s.gf) w5 v → ∀ j, v.cell? ⟨g, j, none⟩ = (gfc { s with bg := s.bg + 1 }).toArray[j]? := fun v hv => block_cell (hnm _ _ _ _ H4d.out.gc v hv)
 have k2 : ∀ v, But (fun b => b = s.gf) w5 v → ∀ j, v.cell? ⟨gx, j, none⟩ = #[.int .i64 s.bg, .int .u8 o.pr, .int .u32 o.src, .int .u32 o.dst, .int .u16 o.sp, .int .u16 o.dp, .int .u8 r.pr, .int .u32 r.src, .int .u32 r.dst, .int .u16 r.sp, .int .u16 r.dp, .int .i64 sd, .int .i64 st0, .int .i64 tl0, .int .i64 ms][j]? := fun v hv => block_cell (hnm _ _ _ _ C4d.out v hv)
 unfold gfc at k1
 simp only at k1
 refine tV (But.pre (fun b => b = s.gf)) 0 rfl rfl ?_; apply Exists.intro; refine ⟨fun v1 hv1 => ?_, ?_⟩; (· (go_simp; rfl)); simp only [Act.put, sA, sB, sC]
 refine tV (But.pre (fun b => b = s.gf)) 1 rfl rfl ?_; apply Exists.intro; refine ⟨fun v1 hv1 => ?_, ?_⟩; (· (go_simp; rfl)); simp only [Act.put, sA, sB, sC]
 refine tV (But.pre (fun b => b = s.gf)) 2 rfl rfl ?_; apply Exists.intro; refine ⟨fun v1 hv1 => ?_, ?_⟩; (· (go_simp; rfl)); simp only [Act.put, sA, sB, sC]
 refine tV (But.pre (fun b => b = s.gf)) 3 rfl rfl ?_; apply Exists.intro; refine ⟨fun v1 hv1 => ?_, ?_⟩; (· (go_simp; rfl)); simp only [Act.put, sA, sB, sC]
 refine tV (But.pre (fun b => b = s.gf)) 4 rfl rfl ?_; apply Exists.intro; refine ⟨fun v1 hv1 => ?_, ?_⟩; (· (go_simp; rfl)); simp only [Act.put, sA, sB, sC]
 refine tV (But.pre (fun b => b = s.gf)) 5 rfl rfl ?_; apply Exists.intro; refine ⟨fun v1 hv1 => ?_, ?_⟩; (· (go_simp; rfl)); simp only [Act.put, sA, sB, sC]
 refine tV (But.pre (fun b => b = s.gf)) 6 rfl rfl ?_; apply Exists.intro; refine ⟨fun v1 hv1 => ?_, ?_⟩; (· (go_simp; rfl)); simp only [Act.put, sA, sB, sC]
 clear k1 k2
 obtain ⟨w6, hrun, hm6, hb6⟩ := ins_flow (w := w5) (b := s.gf) (c := s.cf) (es := s.fe) H4d.out.fl s.bg (.pointer (some ⟨gn, 0, none⟩)) (findG_no _ _ 0 HID.out)
 refine anyT_one 7 rfl (by kernel_rfl) rfl ?_
 have HB6 := hide hb6
 have HM6 := hide hm6
 clear hb6 hm6
 unfold Oper.wp
 go_simp
 refine ⟨HB6.out, ?_⟩
 refine anyT_done (by kernel_rfl) ?_
 clear hrun
 have hD : base ≤ ((newF s gn o r sd st0 tl0 ms (.slice ha hn hc))).blk ∧ w5.heap[((newF s gn o r sd st0 tl0 ms (.slice ha hn hc))).blk]? = some (.cells (flc (newF s gn o r sd st0 tl0 ms (.slice ha hn hc))).toArray 122 (0, 0)) := ⟨Nat.le_trans hbs hgn, D4d.out⟩
 have H5 : Hid (GF base w6 g (s.begun (newF s gn o r sd st0 tl0 ms (.slice ha hn hc)))) := H4d.out.written (newF s gn o r sd st0 tl0 ms (.slice ha hn hc)) (by show s.bg = s.bg + 1 - 1; omega) HB6.out HM6.out hD
 have M5 : Hid (KG base w w6) := M4d.out.trans (KG.of_but HB6.out (fun k e => by
  have e' : k = s.gf := e
  rw [e']
  refine ⟨H4d.out.bf.1, fun ob ho => ?_⟩
  have hh := H4d.out.fl
  simp only at hh
  rw [hh] at ho
  cases ho
  exact trivial))
 have C5 := hide (hnm _ _ _ _ C4d.out w6 HB6.out)
 clear H4d M4d C4d D4d HB6 HM6 hnm hD
 go_upto_region 5 with fail
 refine anyT_begin (R := KX) 13 rfl (by kernel_rfl) ?_
 have ld : Later w6 w6.drew := Later.drew w6
 generalize w6.drew = w6d at *
 have HD := hide (H5.out.later ld)
 have MD := hide (M5.out.trans (KG.of_later ld))
 have CD := hide (later_keep ld C5.out)
 clear H5 M5 C5 ld
 have hbd : base ≤ w6d.heap.size := Nat.le_trans hbs MD.out.size
 have k1 : ∀ v, KX w6d v → ∀ j, v.cell? ⟨g, j, none⟩ = (gfc (s.begun (newF s gn o r sd st0 tl0 ms (.slice ha hn hc)))).toArray[j]? := fun v hv => block_cell (hv g _ _ _ HD.out.gc (by decide) (by decide))
 have k2 : ∀ v, KX w6d v → ∀ j, v.cell? ⟨gx, j, none⟩ = #[.int .i64 s.bg, .int .u8 o.pr, .int .u32 o.src, .int .u32 o.dst, .int .u16 o.sp, .int .u16 o.dp, .int .u8 r.pr, .int .u32 r.src, .int .u32 r.dst, .int .u16 r.sp, .int .u16 r.dp, .int .i64 sd, .int .i64 st0, .int .i64 tl0, .int .i64 ms][j]? := fun v hv => block_cell (hv gx _ _ _ CD.out (by decide) (by decide))
 unfold gfc Gf.begun at k1
 simp only at k1
 refine tV KX.pre 0 rfl rfl ?_; apply Exists.intro; refine ⟨fun v1 hv1 => ?_, ?_⟩; (· (go_simp; rfl)); simp only [Act.put, sA, sB, sC]
 refine tV KX.pre 1 rfl rfl ?_; apply Exists.intro; refine ⟨fun v1 hv1 => ?_, ?_⟩; (· (go_simp; rfl)); simp only [Act.put, sA, sB, sC]
 refine tV KX.pre 2 rfl rfl ?_; apply Exists.intro; refine ⟨fun v1 hv1 => ?_, ?_⟩; (· (go_simp; rfl)); simp only [Act.put, sA, sB, sC]
 refine tV KX.pre 3 rfl rfl ?_; apply Exists.intro; refine ⟨fun v1 hv1 => ?_, ?_⟩; (· (go_simp; rfl)); simp only [Act.put, sA, sB, sC]
 refine tV KX.pre 4 rfl rfl ?_; apply Exists.intro; refine ⟨fun v1 hv1 => ?_, ?_⟩; (· (go_simp; rfl)); simp only [Act.put, sA, sB, sC]
 refine tV KX.pre 5 rfl rfl ?_; apply Exists.intro; refine ⟨fun v1 hv1 => ?_, ?_⟩; (· (go_simp; rfl)); simp only [Act.put, sA, sB, sC]
 refine tV KX.pre 6 rfl rfl ?_; apply Exists.intro; refine ⟨fun v1 hv1 => ?_, ?_⟩; (· (go_simp; rfl)); simp only [Act.put, sA, sB, sC]
 refine tV KX.pre 7 rfl rfl ?_; apply Exists.intro; refine ⟨fun v1 hv1 => ?_, ?_⟩; (· (go_simp; rfl)); simp only [Act.put, sA, sB, sC]
 refine tV KX.pre 8 rfl rfl ?_; apply Exists.intro; refine ⟨fun v1 hv1 => ?_, ?_⟩; (· (go_simp; rfl)); simp only [Act.put, sA, sB, sC]
 refine tV KX.pre 9 rfl rfl ?_; apply Exists.intro; refine ⟨fun v1 hv1 => ?_, ?_⟩; (· (go_simp; rfl)); simp only [Act.put, sA, sB, sC]
 refine tV KX.pre 10 rfl rfl ?_; apply Exists.intro; refine ⟨fun v1 hv1 => ?_, ?_⟩; (· (go_simp; rfl)); simp only [Act.put, sA, sB, sC]
 refine tV KX.pre 11 rfl rfl ?_; apply Exists.intro; refine ⟨fun v1 hv1 => ?_, ?_⟩; (· (go_simp; rfl)); simp only [Act.put, sA, sB, sC]
 clear k1 k2
 refine anyT_one 12 rfl (by kernel_rfl) rfl ?_
 refine wp_enter 233 #[.pointer (some ⟨s.gt, 0, none⟩), .agg #[.int .u8 o.pr, .int .u32 o.src, .int .u32 o.dst, .int .u16 o.sp, .int .u16 o.dp], .int .i64 s.bg, .int .i64 s.now] (by go_simp) ?_
 refine (putF base s.gt (s.cnt, s.trn, s.rw).1 (s.cnt, s.trn, s.rw).2.1 (s.cnt, s.trn, s.rw).2.2 o s.bg s.now w6d HD.out.tb hBo hbd (by simp only; omega) (by simp only; omega) (fun i => by have := hln i; simp only; omega)).mono ?_
 rintro e w7 ⟨ev, rfl, hT, hk, hm, hg⟩
 refine ⟨KX.of hk, ?_⟩
 simp only [Act.put, sA, sB, sC]
 refine anyT_done (by kernel_rfl) ?_
 have H6 := hide (HD.out.tabled hk hm hT)
 have M6 := hide (MD.out.trans hg)
 have C6 := hide (hk gx _ _ _ CD.out (by decide) (by decide))
 clear HD MD CD hT hk hm hg hbd
 go_upto_region 6 with fail
 refine anyT_begin (R := KX) 13 rfl (by kernel_rfl) ?_
 have ld : Later w7 w7.drew := Later.drew w7
 generalize w7.drew = w7d at *
 have HD := hide (H6.out.later ld)
 have MD := hide (M6.out.trans (KG.of_later ld))
 have CD := hide (later_keep ld C6.out)
 clear H6 M6 C6 ld
 have hbd : base ≤ w7d.heap.size := Nat.le_trans hbs MD.out.size
 have k1 : ∀ v, KX w7d v → ∀ j, v.cell? ⟨g, j, none⟩ = (gfc (s.begun (newF s gn o r sd st0 tl0 ms (.slice ha hn hc)))).toArray[j]? := fun v hv => block_cell (hv g _ _ _ HD.out.gc (by decide) (by decide))
 have k2 : ∀ v, KX w7d v → ∀ j, v.cell? ⟨gx, j, none⟩ = #[.int .i64 s.bg, .int .u8 o.pr, .int .u32 o.src, .int .u32 o.dst, .int .u16 o.sp, .int .u16 o.dp, .int .u8 r.pr, .int .u32 r.src, .int .u32 r.dst, .int .u16 r.sp, .int .u16 r.dp, .int .i64 sd, .int .i64 st0, .int .i64 tl0, .int .i64 ms][j]? := fun v hv => block_cell (hv gx _ _ _ CD.out (by decide) (by decide))
 unfold gfc Gf.begun at k1
 simp only at k1
 refine tV KX.pre 0 rfl rfl ?_; apply Exists.intro; refine ⟨fun v1 hv1 => ?_, ?_⟩; (· (go_simp; rfl)); simp only [Act.put, sA, sB, sC]
 refine tV KX.pre 1 rfl rfl ?_; apply Exists.intro; refine ⟨fun v1 hv1 => ?_, ?_⟩; (· (go_simp; rfl)); simp only [Act.put, sA, sB, sC]
 refine tV KX.pre 2 rfl rfl ?_; apply Exists.intro; refine ⟨fun v1 hv1 => ?_, ?_⟩; (· (go_simp; rfl)); simp only [Act.put, sA, sB, sC]
 refine tV KX.pre 3 rfl rfl ?_; apply Exists.intro; refine ⟨fun v1 hv1 => ?_, ?_⟩; (· (go_simp; rfl)); simp only [Act.put, sA, sB, sC]
 refine tV KX.pre 4 rfl rfl ?_; apply Exists.intro; refine ⟨fun v1 hv1 => ?_, ?_⟩; (· (go_simp; rfl)); simp only [Act.put, sA, sB, sC]
 refine tV KX.pre 5 rfl rfl ?_; apply Exists.intro; refine ⟨fun v1 hv1 => ?_, ?_⟩; (· (go_simp; rfl)); simp only [Act.put, sA, sB, sC]
 refine tV KX.pre 6 rfl rfl ?_; apply Exists.intro; refine ⟨fun v1 hv1 => ?_, ?_⟩; (· (go_simp; rfl)); simp only [Act.put, sA, sB, sC]
 refine tV KX.pre 7 rfl rfl ?_; apply Exists.intro; refine ⟨fun v1 hv1 => ?_, ?_⟩; (· (go_simp; rfl)); simp only [Act.put, sA, sB, sC]
 refine tV KX.pre 8 rfl rfl ?_; apply Exists.intro; refine ⟨fun v1 hv1 => ?_, ?_⟩; (· (go_simp; rfl)); simp only [Act.put, sA, sB, sC]
 refine tV KX.pre 9 rfl rfl ?_; apply Exists.intro; refine ⟨fun v1 hv1 => ?_, ?_⟩; (· (go_simp; rfl)); simp only [Act.put, sA, sB, sC]
 refine tV KX.pre 10 rfl rfl ?_; apply Exists.intro; refine ⟨fun v1 hv1 => ?_, ?_⟩; (· (go_simp; rfl)); simp only [Act.put, sA, sB, sC]
 refine tV KX.pre 11 rfl rfl ?_; apply Exists.intro; refine ⟨fun v1 hv1 => ?_, ?_⟩; (· (go_simp; rfl)); simp only [Act.put, sA, sB, sC]
 clear k1 k2
 refine anyT_one 12 rfl (by kernel_rfl) rfl ?_
 refine wp_enter 233 #[.pointer (some ⟨s.gt, 0, none⟩), .agg #[.int .u8 r.pr, .int .u32 r.src, .int .u32 r.dst, .int .u16 r.sp, .int .u16 r.dp], .int .i64 s.bg, .int .i64 s.now] (by go_simp) ?_
 refine (putF base s.gt (ptT o s.bg s.now (s.cnt, s.trn, s.rw)).1 (ptT o s.bg s.now (s.cnt, s.trn, s.rw)).2.1 (ptT o s.bg s.now (s.cnt, s.trn, s.rw)).2.2 r s.bg s.now w7d HD.out.tb hBr hbd (by have := ptT_bd o s.bg s.now (s.cnt, s.trn, s.rw); simp only at this; omega) (by have := ptT_bd o s.bg s.now (s.cnt, s.trn, s.rw); simp only at this; omega) (fun i => by have h1 := hln i; have h2 := (ptT_bd o s.bg s.now (s.cnt, s.trn, s.rw)).2.2.2.2 i; simp only at h2; omega)).mono ?_
 rintro e w8 ⟨ev, rfl, hT, hk, hm, hg⟩
 refine ⟨KX.of hk, ?_⟩
 simp only [Act.put, sA, sB, sC]
 refine anyT_done (by kernel_rfl) ?_
 have H7 := hide (HD.out.tabled hk hm hT)
 have M7 := hide (MD.out.trans hg)
 have C7 := hide (hk gx _ _ _ CD.out (by decide) (by decide))
 clear HD MD CD hT hk hm hg hbd
 go_upto_region 7 with fail
 have k2 := block_cell C7.out
 have hin : (newF s gn o r sd st0 tl0 ms (.slice ha hn hc)) ∈ (opS s (newF s gn o r sd st0 tl0 ms (.slice ha hn hc))).fs := by show _ ∈ s.fs ++ [_]; simp
 have huq : ∀ x ∈ (opS s (newF s gn o r sd st0 tl0 ms (.slice ha hn hc))).fs, x.blk = ((newF s gn o r sd st0 tl0 ms (.slice ha hn hc))).blk → x = (newF s gn o r sd st0 tl0 ms (.slice ha hn hc)) := fun x hx e => by
  have hx' : x ∈ s.fs ++ [(newF s gn o r sd st0 tl0 ms (.slice ha hn hc))] := hx
  rcases List.mem_append.1 hx' with hx' | hx'
  ·have q1 := HBF.out x hx'
   have q2 : x.blk = gn := e
   omega
  ·simpa using hx'
 have htr2 : 0 ≤ (opS s (newF s gn o r sd st0 tl0 ms (.slice ha hn hc))).trn ∧ (opS s (newF s gn o r sd st0 tl0 ms (.slice ha hn hc))).trn ≤ 999999 := by
  have q1 := ptT_bd o s.bg s.now (s.cnt, s.trn, s.rw)
  have q2 := ptT_bd r s.bg s.now (ptT o s.bg s.now (s.cnt, s.trn, s.rw))
  show 0 ≤ (ptT r s.bg s.now (ptT o s.bg s.now (s.cnt, s.trn, s.rw))).2.1 ∧ (ptT r s.bg s.now (ptT o s.bg s.now (s.cnt, s.trn, s.rw))).2.1 ≤ 999999
  simp only at q1 q2
  omega
 have HBC := hide (become_any base g (opS s (newF s gn o r sd st0 tl0 ms (.slice ha hn hc))) (newF s gn o r sd st0 tl0 ms (.slice ha hn hc)) 8 w8 H7.out hin huq (Nat.le_trans hbs M7.out.size) hBo hBr htr2 hnw)
 clear hin huq htr2 H7
 go_wp2_with fail
 refine (HFS.out w8).mono ?_
 rintro e w9 ⟨rfl, rfl⟩
 go_wp2_with fail
 refine HBC.out.mono ?_
 rintro e w10 ⟨rfl, mk, hG⟩
 clear k2
 go_wp2_with fail
 go_ret
 exact ⟨(newF s gn o r sd st0 tl0 ms (.slice ha hn hc)), hgn, rfl, M7.out.trans mk, rfl, rfl, rfl, rfl, rfl, rfl, rfl, hG⟩
end Go.Proofs.YtajcfhcdincngaaGreatDoor

/- Package gate: Flows of a gateway with one flow. -/
namespace Go.Proofs.YtajcfhcdincngaaGreatDoor
open Go.RowKit Go.Shelf
set_option maxRecDepth 100000
attribute [local go_sem] Oper.semAt_some
set_option linter.unusedVariables false
set_option linter.unusedSimpArgs false

/-- What is gathered. -/
def GaO (B n₀ : Nat) (pre : List Int) (W : World) : Prop := ∃ v, W.heap[B]? = some (.cells #[v] 189 (0, 0)) ∧ W.ownsRow n₀ 3 1 v pre.length (pre.map (Value.int .i64)) ∧ (pre = [] → v = .slice none 0 0)
theorem owns_ctG {base : Nat} {e : TypeId} {size : Nat} {A B : World} {v : Value} {n : Nat} {xs : List Value} (h : A.ownsRow base e size v n xs) (c : CT A B) : B.ownsRow base e size v n xs := by
 obtain ⟨h1, h2 | ⟨g, cap, cur, hv, hg, hh, r⟩⟩ := h
 ·exact ⟨h1, .inl h2⟩
 ·exact ⟨h1, .inr ⟨g, cap, cur, hv, hg, c.2 _ _ hh rfl, r⟩⟩
theorem GaO.ct {B n₀ : Nat} {pre : List Int} {U V : World} (h : GaO B n₀ pre U) (c : CT U V) : GaO B n₀ pre V := by
 obtain ⟨v, h1, h2, h3⟩ := h
 exact ⟨v, c.2 _ _ h1 rfl, owns_ctG h2 c, h3⟩
end Go.Proofs.YtajcfhcdincngaaGreatDoor

/- Package gate: a flow found by its number; Flows of a gateway with one flow. -/
namespace Go.Proofs.YtajcfhcdincngaaGreatDoor
open Go.RowKit Go.Shelf
set_option maxRecDepth 100000
set_option linter.unusedVariables false
set_option linter.unusedSimpArgs false

theorem findG_yes (z : Int) (v : Value) : ∀ (l : List MapEntry) (i : Nat), (∀ e ∈ l, ∃ k : Int, e.key = .int .i64 k ∧ (k = z → e.val = v)) → (∃ e ∈ l, e.key = .int .i64 z) → ∃ j, Instr.findNow (.int .i64) (.int .i64 z) l i = some (some (j, v))
 | [], _, _, h => by obtain ⟨_, h, _⟩ := h; cases h
 | e :: l, i, h, hx => by
  obtain ⟨k, hk, hv⟩ := h e (by simp)
  by_cases hz : k = z
  ·have h1 : Instr.sameNow (.int .i64) (.int .i64 z) e.key = some true := by rw [hk, hz]; simp [Instr.sameNow]
   unfold Instr.findNow
   rw [h1]
   exact ⟨i, by rw [hv hz]⟩
  ·have h1 : Instr.sameNow (.int .i64) (.int .i64 z) e.key = some false := by rw [hk]; simp [Instr.sameNow, hz, Ne.symm hz]
   unfold Instr.findNow
   rw [h1]
   refine findG_yes z v l (i + 1) (fun e' he' => h e' (by simp [he'])) ?_
   obtain ⟨e', he', hk'⟩ := hx
   rcases List.mem_cons.1 he' with q | q
   ·rw [q, hk] at hk'
    injection hk' with _ q2
    exact absurd q2 hz
   ·exact ⟨e', q, hk'⟩
/-- The numbers of flows are different. -/
def IdU (s : Gf) : Prop := ∀ x ∈ s.fs, ∀ y ∈ s.fs, x.id = y.id → x.blk = y.blk
theorem look_flow {base g : Nat} {W : World} {s : Gf} (h : GF base W g s) {f : Fl} (hf : f ∈ s.fs) (hu : IdU s) : (Instr.lookup 79 (.map (some s.gf)) (.int .i64 f.id) false).run Tryz.prog W = .ok (.pointer (some ⟨f.blk, 0, none⟩)) W := by
 refine run_find Tryz.underlying79 Tryz.underlying3 h.fl f.id _ (.inl ?_)
 refine findG_yes f.id _ s.fe.toList 0 (fun e he => ?_) ?_
 ·have h1 : (e.key, e.val) ∈ s.fe.toList.map (fun e => (e.key, e.val)) := List.mem_map.2 ⟨e, he, rfl⟩
  rw [h.fm] at h1
  obtain ⟨x, hx, e2⟩ := List.mem_map.1 h1
  have e3 : (Value.int .i64 x.id) = e.key := congrArg Prod.fst e2
  have e4 : (Value.pointer (some ⟨x.blk, 0, none⟩)) = e.val := congrArg Prod.snd e2
  exact ⟨x.id, e3.symm, fun q => by rw [← e4, hu x hx f hf q]⟩
 ·have h1 : flE f ∈ s.fs.map flE := List.mem_map.2 ⟨f, hf, rfl⟩
  rw [← h.fm] at h1
  obtain ⟨e, he, e2⟩ := List.mem_map.1 h1
  exact ⟨e, he, congrArg Prod.fst e2⟩
end Go.Proofs.YtajcfhcdincngaaGreatDoor

/- Package gate: a flow is found by its tuples. -/
namespace Go.Proofs.YtajcfhcdincngaaGreatDoor
open Go.RowKit Go.Shelf
set_option maxRecDepth 100000
set_option linter.unusedVariables false
set_option linter.unusedSimpArgs false

theorem getF_yes (base gt : Nat) (cnt trn : Int) (rw : Nat → List Rw) (p x d a b : Int) (k : Nat) (r : Rw) (W : World) (h : TB base W gt 128 cnt trn rw) (hk : kx p x d a b rw = some k) (hr : (rw (bki p x d a b))[k]? = some r) (hs : 0 ≤ x ∧ x ≤ 4294967295) (hd : 0 ≤ d ∧ d ≤ 4294967295) (ha : 0 ≤ a ∧ a ≤ 65535) (hb : 0 ≤ b ∧ b ≤ 65535) :
  Calls Tryz.prog 82 #[.pointer (some ⟨gt, 0, none⟩), .agg #[.int .u8 p, .int .u32 x, .int .u32 d, .int .u16 a, .int .u16 b]] W fun e w' => e = .returned (.tuple #[.int .i64 r.id, .int .i64 r.till, .bool true]) ∧ Later W w' := by
 refine (get_any base gt 128 cnt trn rw p x d a b W h hs hd ha hb).mono ?_
 rintro e w' ⟨h1, rfl⟩
 exact ⟨by unfold gtv; simp only [hk, hr], h1⟩
theorem tup_ne2 (bk : Bool) (p x d a b p2 x2 d2 a2 b2 : Int) (w : World) (h : bk = true ↔ ¬ (p = p2 ∧ x = x2 ∧ d = d2 ∧ a = a2 ∧ b = b2)) : (binOp .neq 47 (.agg #[.int .u8 p, .int .u32 x, .int .u32 d, .int .u16 a, .int .u16 b]) (.agg #[.int .u8 p2, .int .u32 x2, .int .u32 d2, .int .u16 a2, .int .u16 b2])).run Tryz.prog w = .ok (.bool bk) w := by
 cases bk with
 | true => exact tup_neq p x d a b p2 x2 d2 a2 b2 w (h.1 rfl)
 | false =>
  have h2 : p = p2 ∧ x = x2 ∧ d = d2 ∧ a = a2 ∧ b = b2 := Classical.byContradiction (fun q => by have := h.2 q; cases this)
  obtain ⟨rfl, rfl, rfl, rfl, rfl⟩ := h2
  go_simp

set_option maxRecDepth 100000 in
set_option maxHeartbeats 4000000 in
theorem lookUpF_yes (base g : Nat) (s : Gf) (f : Fl) (bk : Bool) (p x d a b : Int) (k : Nat) (r : Rw) (w : World) (h : GF base w g s) (hf : f ∈ s.fs) (hu : IdU s) (hk : kx p x d a b s.rw = some k) (hr : (s.rw (bki p x d a b))[k]? = some r) (hid : r.id = f.id) (hs : 0 ≤ x ∧ x ≤ 4294967295) (hd : 0 ≤ d ∧ d ≤ 4294967295) (ha : 0 ≤ a ∧ a ≤ 65535) (hb : 0 ≤ b ∧ b ≤ 65535)
  (hbk : bk = true ↔ ¬ (p = f.o.pr ∧ x = f.o.src ∧ d = f.o.dst ∧ kyp p a = kyp f.o.pr f.o.sp ∧ b = f.o.dp)) :
  Calls Tryz.prog 42 #[.pointer (some ⟨g, 0, none⟩), .agg #[.int .u8 p, .int .u32 x, .int .u32 d, .int .u16 a, .int .u16 b]] w fun e w' => e = .returned (.tuple #[.pointer (some ⟨f.blk, 0, none⟩), .bool bk, .bool true]) ∧ Later w w' := by
 have l0 := later_allocG w (.cells #[.int .u8 p, .int .u32 x, .int .u32 d, .int .u16 a, .int .u16 b] 47)
 have C0 := hide (heap_alloc_new w (.cells #[.int .u8 p, .int .u32 x, .int .u32 d, .int .u16 a, .int .u16 b] 47))
 have HG := hide (h.later l0)
 have HGT := hide (fun W (l : Later w W) => getF_yes base s.gt s.cnt s.trn s.rw p x d a b k r W (h.tb.laterD l) hk hr hs hd ha hb)
 rw [hid] at HGT
 have HLK := hide (fun W (l : Later w W) => look_flow (h.later l) hf hu)
 have HF := hide (later_keep l0 (h.fb f hf).2)
 have HBK := hide hbk
 clear h hs hd ha hb hk hr hid hf hu hbk
 go_enter Tryz.func42, Tryz.ntmps42
 go_upto_region 1 with fail
 generalize w.alloc _ = w1 at *
 generalize w.heap.size = gx at *
 refine anyR_begin (R := Later) Later.pre Later.drew 13 rfl (by kernel_rfl) (fun V0 hV0 => ?_)
 have q0 : ∀ v, Later V0 v → ∀ j, v.cell? ⟨gx, j, none⟩ = #[.int .u8 p, .int .u32 x, .int .u32 d, .int .u16 a, .int .u16 b][j]? := fun v hv => block_cell (later_keep (hV0.trans hv) C0.out)
 have q1 : ∀ v, Later V0 v → ∀ j, v.cell? ⟨g, j, none⟩ = (gfc s).toArray[j]? := fun v hv => block_cell (later_keep (hV0.trans hv) HG.out.gc)
 unfold gfc at q1
 refine rV Later.pre 0 rfl rfl ?_; apply Exists.intro; refine ⟨fun v1 hv1 => ?_, ?_⟩; (· (go_simp; rfl)); simp only [Act.put, sA, sB, sC]
 refine rV Later.pre 1 rfl rfl ?_; apply Exists.intro; refine ⟨fun v1 hv1 => ?_, ?_⟩; (· (go_simp; rfl)); simp only [Act.put, sA, sB, sC]
 refine rV Later.pre 2 rfl rfl ?_; apply Exists.intro; refine ⟨fun v1 hv1 => ?_, ?_⟩; (· (go_simp; rfl)); simp only [Act.put, sA, sB, sC]
 refine rV Later.pre 3 rfl rfl ?_; apply Exists.intro; refine ⟨fun v1 hv1 => ?_, ?_⟩; (· (go_simp; rfl)); simp only [Act.put, sA, sB, sC]
 refine rV Later.pre 4 rfl rfl ?_; apply Exists.intro; refine ⟨fun v1 hv1 => ?_, ?_⟩; (· (go_simp; rfl)); simp only [Act.put, sA, sB, sC]
 clear q0 q1
 refine anyR_take Later.pre 5 (.tuple #[.int .i64 f.id, .int .i64 r.till, .bool true]) rfl (by kernel_rfl) (by kernel_rfl) (by kernel_rfl) (fun _ _ _ h => h) rfl (fun u hu => goes_call 82 #[.pointer (some ⟨s.gt, 0, none⟩), .agg #[.int .u8 p, .int .u32 x, .int .u32 d, .int .u16 a, .int .u16 b]] (by go_simp) (HGT.out u (Later.trans l0 (hV0.trans hu)))) ?_
 simp only [Act.put, sA, sB, sC]
 refine rV Later.pre 6 rfl rfl ?_; apply Exists.intro; refine ⟨fun v1 hv1 => ?_, ?_⟩; (· (go_simp; rfl)); simp only [Act.put, sA, sB, sC]
 refine rV Later.pre 7 rfl rfl ?_; apply Exists.intro; refine ⟨fun v1 hv1 => ?_, ?_⟩; (· (go_simp; rfl)); simp only [Act.put, sA, sB, sC]
 refine rV Later.pre 8 rfl rfl ?_; apply Exists.intro; refine ⟨fun v1 hv1 => ?_, ?_⟩; (· (go_simp; rfl)); simp only [Act.put, sA, sB, sC]
 refine rV Later.pre 9 rfl rfl ?_; apply Exists.intro; refine ⟨fun v1 hv1 => ?_, ?_⟩; (· (go_simp; rfl)); simp only [Act.put, sA, sB, sC]
 refine rV Later.pre 10 rfl rfl ?_; apply Exists.intro; refine ⟨fun v1 hv1 => ?_, ?_⟩; (· (go_simp; rfl)); simp only [Act.put, sA, sB, sC]
 refine rV Later.pre 11 rfl rfl ?_; apply Exists.intro; refine ⟨fun v1 hv1 => ?_, ?_⟩; (· (go_simp; rfl)); simp only [Act.put, sA, sB, sC]
 refine rV Later.pre 12 rfl rfl ?_; apply Exists.intro; refine ⟨fun v1 hv1 => ?_, ?_⟩; (· (go_simp; rfl)); simp only [Act.put, sA, sB, sC]
 refine anyR_done (by kernel_rfl) (fun V9 hV9 => ?_)
 have L9 : Later w1 V9 := hV0.trans hV9
 have k1 := block_cell (later_keep L9 HG.out.gc)
 unfold gfc at k1
 have hlk := HLK.out V9 (l0.trans L9)
 clear hV0 hV9
 go_upto_region 5 with fail
 clear k1 hlk
 refine anyR_begin (R := Later) Later.pre Later.drew 13 rfl (by kernel_rfl) (fun V1 hV1 => ?_)
 have q0 : ∀ v, Later V1 v → ∀ j, v.cell? ⟨gx, j, none⟩ = #[.int .u8 p, .int .u32 x, .int .u32 d, .int .u16 a, .int .u16 b][j]? := fun v hv => block_cell (later_keep (L9.trans (hV1.trans hv)) C0.out)
 have qf : ∀ v, Later V1 v → ∀ j, v.cell? ⟨f.blk, j, none⟩ = (flc f).toArray[j]? := fun v hv => block_cell (later_keep (L9.trans (hV1.trans hv)) HF.out)
 unfold flc at qf
 refine rV Later.pre 0 rfl rfl ?_; apply Exists.intro; refine ⟨fun v1 hv1 => ?_, ?_⟩; (· (go_simp; rfl)); simp only [Act.put, sA, sB, sC]
 refine rV Later.pre 1 rfl rfl ?_; apply Exists.intro; refine ⟨fun v1 hv1 => ?_, ?_⟩; (· (go_simp; rfl)); simp only [Act.put, sA, sB, sC]
 refine anyR_take Later.pre 2 (.agg #[.int .u8 p, .int .u32 x, .int .u32 d, .int .u16 (kyp p a), .int .u16 b]) rfl (by kernel_rfl) (by kernel_rfl) (by kernel_rfl) (fun _ _ _ h => h) rfl (fun u hu => goes_call 83 #[.agg #[.int .u8 p, .int .u32 x, .int .u32 d, .int .u16 a, .int .u16 b]] (by go_simp) (key_any p x d a b u)) ?_
 simp only [Act.put, sA, sB, sC]
 refine rV Later.pre 3 rfl rfl ?_; apply Exists.intro; refine ⟨fun v1 hv1 => ?_, ?_⟩; (· (go_simp; rfl)); simp only [Act.put, sA, sB, sC]
 refine rV Later.pre 4 rfl rfl ?_; apply Exists.intro; refine ⟨fun v1 hv1 => ?_, ?_⟩; (· (go_simp; rfl)); simp only [Act.put, sA, sB, sC]
 refine rV Later.pre 5 rfl rfl ?_; apply Exists.intro; refine ⟨fun v1 hv1 => ?_, ?_⟩; (· (go_simp; rfl)); simp only [Act.put, sA, sB, sC]
 refine rV Later.pre 6 rfl rfl ?_; apply Exists.intro; refine ⟨fun v1 hv1 => ?_, ?_⟩; (· (go_simp; rfl)); simp only [Act.put, sA, sB, sC]
 refine rV Later.pre 7 rfl rfl ?_; apply Exists.intro; refine ⟨fun v1 hv1 => ?_, ?_⟩; (· (go_simp; rfl)); simp only [Act.put, sA, sB, sC]
 refine anyR_take Later.pre 8 (.agg #[.int .u8 f.o.pr, .int .u32 f.o.src, .int .u32 f.o.dst, .int .u16 (kyp f.o.pr f.o.sp), .int .u16 f.o.dp]) rfl (by kernel_rfl) (by kernel_rfl) (by kernel_rfl) (fun _ _ _ h => h) rfl (fun u hu => goes_call 83 #[.agg #[.int .u8 f.o.pr, .int .u32 f.o.src, .int .u32 f.o.dst, .int .u16 f.o.sp, .int .u16 f.o.dp]] (by go_simp) (key_any f.o.pr f.o.src f.o.dst f.o.sp f.o.dp u)) ?_
 simp only [Act.put, sA, sB, sC]
 clear q0 qf
 generalize kyp p a = ka at *
 generalize kyp f.o.pr f.o.sp = ka2 at *
 have q5 : ∀ v : World, (binOp .neq 47 (.agg #[.int .u8 p, .int .u32 x, .int .u32 d, .int .u16 ka, .int .u16 b]) (.agg #[.int .u8 f.o.pr, .int .u32 f.o.src, .int .u32 f.o.dst, .int .u16 ka2, .int .u16 f.o.dp])).run Tryz.prog v = .ok (.bool bk) v := fun v => tup_ne2 bk p x d ka b f.o.pr f.o.src f.o.dst ka2 f.o.dp v HBK.out
 refine rV Later.pre 9 rfl rfl ⟨.bool bk, fun v1 hv1 => by
  have hb := HBK.out
  clear q5
  cases bk with
  | true =>
   have hn := hb.1 rfl
   clear hb
   go_simp
   by_cases g1 : p = f.o.pr <;> by_cases g2 : x = f.o.src <;> by_cases g3 : d = f.o.dst <;> by_cases g4 : ka = ka2 <;> by_cases g5 : b = f.o.dp <;> simp_all
  | false =>
   have h2 := Classical.byContradiction (fun q => by have := hb.2 q; cases this)
   obtain ⟨g1, g2, g3, g4, g5⟩ := h2
   rw [g1, g2, g3, g4, g5]
   go_simp, ?_⟩
 simp only [Act.put, sA, sB, sC]
 refine rV Later.pre 10 rfl rfl ?_; apply Exists.intro; refine ⟨fun v1 hv1 => ?_, ?_⟩; (· (go_simp; rfl)); simp only [Act.put, sA, sB, sC]
 refine rV Later.pre 11 rfl rfl ?_; apply Exists.intro; refine ⟨fun v1 hv1 => ?_, ?_⟩; (· (go_simp; rfl)); simp only [Act.put, sA, sB, sC]
 refine rV Later.pre 12 rfl rfl ?_; apply Exists.intro; refine ⟨fun v1 hv1 => ?_, ?_⟩; (· (go_simp; rfl)); simp only [Act.put, sA, sB, sC]
 refine anyR_done (by kernel_rfl) (fun V2 hV2 => ?_)
 go_wp2_with fail
 exact bodyPost_ret (v := .tuple #[.pointer (some ⟨f.blk, 0, none⟩), .bool bk, .bool true]) (by simp [results, Tryz.results42, go_sem]) rfl ⟨rfl, l0.trans (L9.trans (hV1.trans hV2))⟩
end Go.Proofs.YtajcfhcdincngaaGreatDoor

/- Package gate: a flow of Udp begins inside. -/
namespace Go.Proofs.YtajcfhcdincngaaGreatDoor
open Go.RowKit Go.Shelf
set_option maxRecDepth 100000
set_option linter.unusedVariables false
set_option linter.unusedSimpArgs false

theorem masq_some (base gr : Nat) (vr : Value) (ls : List Ru) (x : Int) (W : World) (mr : Ru) (h : RL 157 base W gr vr ls) (hok : okL ls) (hx : 0 ≤ x ∧ x ≤ 4294967295) (hn : ls.find? (mqB x) = some mr) :
  Calls Tryz.prog 199 #[.pointer (some ⟨gr, 0, none⟩), .int .u32 x] W fun e w' => e = .returned (.tuple #[.agg #[.int .i64 mr.kind, .int .u8 mr.proto, .int .u32 mr.net, .int .i64 mr.bits, .int .u32 mr.tt, .int .u16 mr.port, .int .u32 mr.host, .int .u16 mr.hp], .bool true]) ∧ Later W w' := by
 have := masq_any base (some ⟨gr, 0, none⟩) ls x W (.inr ⟨gr, vr, rfl, h⟩) hok hx
 have e1 : fnd (mqB x) ls = mr := by unfold fnd; rw [hn]; rfl
 have e2 : fdb (mqB x) ls = true := by unfold fdb; rw [hn]; rfl
 rw [e1, e2] at this
 exact this
def MqC (v : Value) (n : Nat) (wx : World) (mr : Ru) : Prop := ∃ gn, v = .pointer (some ⟨gn, 0, none⟩) ∧ n ≤ gn ∧ wx.heap[gn]? = some (.cells #[.int .i64 mr.kind, .int .u8 mr.proto, .int .u32 mr.net, .int .i64 mr.bits, .int .u32 mr.tt, .int .u16 mr.port, .int .u32 mr.host, .int .u16 mr.hp] 57 (0, 0))
def BgQ (base : Nat) (w w' : World) (g : Nat) (s : Gf) (o : Tu) (mr : Ru) (e : Ending) : Prop := ∃ (f : Fl) (pb : Nat), w.heap.size ≤ f.blk ∧ e = .returned (.pointer (some ⟨f.blk, 0, none⟩)) ∧ KG base w w' ∧ f.id = s.bg ∧ f.o = o ∧ f.r = ⟨17, o.dst, mr.tt, o.dp, (tkn s.lo s.hi o.sp.toNat : Int)⟩ ∧ f.side = 0 ∧ f.ms = -1 ∧ f.hp = noh ∧ GF base w' g (bcS (opS (withP s 17 mr.tt pb (wsR (wsOf (nums s.lo s.hi)) (tkn s.lo s.hi o.sp.toNat))) f) f 8)

set_option maxRecDepth 100000 in
set_option maxHeartbeats 8000000 in
theorem beginInside_yes (base g : Nat) (s : Gf) (tos id ttl pr src dst : Int) (keep : Bool) (so sd : Value) (side : Int) (x d : Int) (a : Nat) (b : Int) (mr : Ru) (w : World) (h : GF base w g s) (hps : s.ps = []) (hok : okL s.ls) (hmr : s.ls.find? (mqB x) = some mr) (hbs : base ≤ w.heap.size) (hx : 0 ≤ x ∧ x ≤ 4294967295) (hd : 0 ≤ d ∧ d ≤ 4294967295) (ha : a ≤ 65535) (hb : 0 ≤ b ∧ b ≤ 65535) (htt : 0 ≤ mr.tt ∧ mr.tt ≤ 4294967295)
  (h1 : 1 ≤ s.lo) (h2 : s.lo ≤ s.hi) (h3 : s.hi < 65536) (hz : ∀ W, KG base w W → Dz W) (hgz : 1 ≤ w.heap.size) (hs1 : (b == 5060) = false) (hs2 : ((a : Int) == 5060) = false)
  (hk1 : kx 17 x d (a : Int) b s.rw = none) (hk2 : ∀ n : Nat, kx 17 d mr.tt b (n : Int) s.rw = none) (hfs : s.fs.length < 64) (hne : ¬ (x = d ∧ d = mr.tt)) (htr : 0 ≤ s.trn ∧ s.trn ≤ 900000) (hnw : 0 ≤ s.now ∧ s.now ≤ 549755813888) (hbg : 0 ≤ s.bg ∧ s.bg ≤ 1000000) (hid : ∀ y ∈ s.fs, y.id ≠ s.bg) (hcn : 0 ≤ s.cnt ∧ s.cnt ≤ 1000) (hln : ∀ i, (s.rw i).length ≤ 4000) :
  Calls Tryz.prog 166 #[.agg #[.pointer (some ⟨g, 0, none⟩), .int .u8 tos, .int .u16 id, .bool keep, .int .u8 ttl, .int .u8 pr, .int .u32 src, .int .u32 dst, so, sd, .int .i64 side], .agg #[.int .u8 17, .int .u32 x, .int .u32 d, .int .u16 (a : Int), .int .u16 b]] w fun e w' => BgQ base w w' g s ⟨17, x, d, (a : Int), b⟩ mr e := by
 obtain ⟨l0, c0, c1⟩ := alloc2 w (.cells #[.pointer (some ⟨g, 0, none⟩), .int .u8 tos, .int .u16 id, .bool keep, .int .u8 ttl, .int .u8 pr, .int .u32 src, .int .u32 dst, so, sd, .int .i64 side] 146) (.cells #[.int .u8 17, .int .u32 x, .int .u32 d, .int .u16 (a : Int), .int .u16 b] 47)
 have C0 := hide c0
 have C1 := hide c1
 have CG := hide (later_keep l0 h.gc)
 have HG := hide (h.later l0)
 have HMQ := hide (fun W (l : Later w W) => masq_some base s.gr s.vr s.ls x W mr (h.rl.later l) hok hx hmr)
 have HTK := hide (fun W (hh : GF base W g s) (hb' : base ≤ W.heap.size) (k : KG base w W) => gtake_new base g s 17 mr.tt a W hh hps h1 h2 h3 (by omega) hb' (fun V hV => hz V (k.trans (KG.of_but hV (fun q e => by have e' : q = s.gp := e; rw [e']; exact ⟨hh.bf.2, fun ob ho => by have hp := hh.pl; rw [hp] at ho; cases ho; exact trivial⟩)))) (Nat.le_trans hgz k.size))
 obtain ⟨n, hn⟩ : ∃ n, n = tkn s.lo s.hi a := ⟨_, rfl⟩
 have hnr := tkn_rng (wish := a) h2
 have HN := hide hn
 have HNR := hide hnr
 have HPS := hide hps
 have HGL := hide (bl9 h.pl)
 clear c0 c1 h hok hmr hps hz hgz hn hnr
 go_enter Tryz.func166, Tryz.ntmps166
 go_upto_region 1 with fail
 generalize (w.alloc (.cells #[.pointer (some ⟨g, 0, none⟩), .int .u8 tos, .int .u16 id, .bool keep, .int .u8 ttl, .int .u8 pr, .int .u32 src, .int .u32 dst, so, sd, .int .i64 side] 146)).alloc (.cells #[.int .u8 17, .int .u32 x, .int .u32 d, .int .u16 (a : Int), .int .u16 b] 47) = w1 at *
 generalize hgx : w.heap.size = gx at C0 C1 ⊢
 have LW0 : Later w w1 := l0
 go_cut [5, 6] (fun v c wx => MqC v w1.heap.size wx mr ∧ c = .bool true ∧ Hid (Later w1 wx))
 case first =>
  refine wp_calmG ?_
  refine anyU_begin (R1 := Later) (R2 := fun _ _ => True) (D := [12]) 14 rfl (by kernel_rfl) ?_
  have ld : Later w1 w1.drew := Later.drew w1
  generalize w1.drew = Wd at *
  have LWd : Later w Wd := LW0.trans ld
  have q0 : ∀ v1, Later Wd v1 → ∀ j, v1.cell? ⟨gx, j, none⟩ = #[.pointer (some ⟨g, 0, none⟩), .int .u8 tos, .int .u16 id, .bool keep, .int .u8 ttl, .int .u8 pr, .int .u32 src, .int .u32 dst, so, sd, .int .i64 side][j]? := fun v1 hv => block_cell (later_keep (ld.trans hv) C0.out)
  have q1 : ∀ v1, Later Wd v1 → ∀ j, v1.cell? ⟨gx + 1, j, none⟩ = #[.int .u8 17, .int .u32 x, .int .u32 d, .int .u16 (a : Int), .int .u16 b][j]? := fun v1 hv => block_cell (later_keep (ld.trans hv) C1.out)
  have q2 : ∀ v1, Later Wd v1 → ∀ j, v1.cell? ⟨g, j, none⟩ = (gfc s).toArray[j]? := fun v1 hv => block_cell (later_keep (ld.trans hv) CG.out)
  unfold gfc at q2
  refine anyU_val Later.pre 0 [1, 2, 3, 4, 7, 8, 9, 10, 12, 13] rfl (by rfl) (by rfl) (by kernel_rfl) (by kernel_rfl) (by kernel_rfl) (by kernel_rfl) (by kernel_rfl) (fun _ _ _ _ h => by cases h.1) (by rfl) ?_; apply Exists.intro; refine ⟨fun v1 hv1 => ?_, ?_⟩; (· (go_simp; rfl)); simp only [Act.put, sA, sB, sC]
  refine anyU_val Later.pre 1 [2, 3, 4, 7, 8, 9, 10, 12, 13] rfl (by rfl) (by rfl) (by kernel_rfl) (by kernel_rfl) (by kernel_rfl) (by kernel_rfl) (by kernel_rfl) (fun _ _ _ _ h => by cases h.1) (by rfl) ?_; apply Exists.intro; refine ⟨fun v1 hv1 => ?_, ?_⟩; (· (go_simp; rfl)); simp only [Act.put, sA, sB, sC]
  refine anyU_val Later.pre 2 [3, 4, 7, 8, 9, 10, 12, 13] rfl (by rfl) (by rfl) (by kernel_rfl) (by kernel_rfl) (by kernel_rfl) (by kernel_rfl) (by kernel_rfl) (fun _ _ _ _ h => by cases h.1) (by rfl) ?_; apply Exists.intro; refine ⟨fun v1 hv1 => ?_, ?_⟩; (· (go_simp; rfl)); simp only [Act.put, sA, sB, sC]
  refine anyU_val Later.pre 3 [4, 7, 8, 9, 10, 12, 13] rfl (by rfl) (by rfl) (by kernel_rfl) (by kernel_rfl) (by kernel_rfl) (by kernel_rfl) (by kernel_rfl) (fun _ _ _ _ h => by cases h.1) (by rfl) ?_; apply Exists.intro; refine ⟨fun v1 hv1 => ?_, ?_⟩; (· (go_simp; rfl)); simp only [Act.put, sA, sB, sC]
  refine anyU_val Later.pre 4 [7, 8, 9, 10, 12, 13] rfl (by rfl) (by rfl) (by kernel_rfl) (by kernel_rfl) (by kernel_rfl) (by kernel_rfl) (by kernel_rfl) (fun _ _ _ _ h => by cases h.1) (by rfl) ?_; apply Exists.intro; refine ⟨fun v1 hv1 => ?_, ?_⟩; (· (go_simp; rfl)); simp only [Act.put, sA, sB, sC]
  refine anyU_val Later.pre 5 [6, 7, 8, 9, 10, 12, 13] rfl (by rfl) (by rfl) (by kernel_rfl) (by kernel_rfl) (by kernel_rfl) (by kernel_rfl) (by kernel_rfl) (fun _ _ _ _ h => by cases h.1) (by rfl) ?_; apply Exists.intro; refine ⟨fun v1 hv1 => ?_, ?_⟩; (· (go_simp; rfl)); simp only [Act.put, sA, sB, sC]
  refine anyU_val Later.pre 6 [7, 8, 9, 10, 12, 13] rfl (by rfl) (by rfl) (by kernel_rfl) (by kernel_rfl) (by kernel_rfl) (by kernel_rfl) (by kernel_rfl) (fun _ _ _ _ h => by cases h.1) (by rfl) ?_; apply Exists.intro; refine ⟨fun v1 hv1 => ?_, ?_⟩; (· (go_simp; rfl)); simp only [Act.put, sA, sB, sC]

  clear q0 q1 q2
  refine anyU_two 7 11 rfl rfl (by kernel_rfl) (by rfl) (by rfl) ?ca ?al
  case ca =>
   refine wp_enter 199 #[.pointer (some ⟨s.gr, 0, none⟩), .int .u32 x] (by go_simp) ?_
   refine (HMQ.out Wd LWd).mono ?_
   rintro e W1 ⟨rfl, l1⟩
   refine ⟨Rj_out (by rfl) l1, ?_⟩
   simp only [Act.put, sA, sB, sC]
   refine anyU_val Later.pre 8 [9, 10, 12, 13] rfl (by rfl) (by rfl) (by kernel_rfl) (by kernel_rfl) (by kernel_rfl) (by kernel_rfl) (by kernel_rfl) (fun _ _ _ _ h => by cases h.1) (by rfl) ?_; apply Exists.intro; refine ⟨fun v1 hv1 => ?_, ?_⟩; (· (go_simp; rfl)); simp only [Act.put, sA, sB, sC]
   refine anyU_val Later.pre 9 [12, 13] rfl (by rfl) (by rfl) (by kernel_rfl) (by kernel_rfl) (by kernel_rfl) (by kernel_rfl) (by kernel_rfl) (fun _ _ _ _ h => by cases h.1) (by rfl) ?_; apply Exists.intro; refine ⟨fun v1 hv1 => ?_, ?_⟩; (· (go_simp; rfl)); simp only [Act.put, sA, sB, sC]
   have HSZ := (ld.trans l1).size
   refine anyU_two 10 11 rfl rfl (by kernel_rfl) (by rfl) (by rfl) ?xt1011 ?yt1011
   case xt1011 =>
    refine wp_value (w' := W1) (.bool true) (by go_simp) ?_
    refine ⟨Rj_out (by rfl) (Later.refl _), ?_⟩
    simp only [Act.put, sA, sB, sC]
    refine anyU_one 11 rfl (by kernel_rfl) (by rfl) ?_
    have la := later_allocG W1 (.cells #[.int .i64 0, .int .u8 0, .int .u32 0, .int .i64 0, .int .u32 0, .int .u16 0, .int .u32 0, .int .u16 0] 57)
    have HA0 := heap_alloc_new W1 (.cells #[.int .i64 0, .int .u8 0, .int .u32 0, .int .i64 0, .int .u32 0, .int .u16 0, .int .u32 0, .int .u16 0] 57)
    unfold Oper.wp
    go_simp
    refine ⟨Rj_out (by rfl) la, ?_⟩
    change wpAnyU _ _ _ _ _ _ _ _ _ _ (W1.alloc (.cells #[.int .i64 0, .int .u8 0, .int .u32 0, .int .i64 0, .int .u32 0, .int .u16 0, .int .u32 0, .int .u16 0] 57))
    have hgn : w1.heap.size ≤ W1.heap.size := HSZ
    generalize W1.alloc (.cells #[.int .i64 0, .int .u8 0, .int .u32 0, .int .i64 0, .int .u32 0, .int .u16 0, .int .u32 0, .int .u16 0] 57) = W5 at *
    generalize W1.heap.size = gn at *
    have HA := HA0
    have LL := ld.trans (l1.trans la)
    refine anyU_one 12 rfl (by kernel_rfl) (by rfl) ?_
    have kA := block_cell HA
    have fA := block_frozen HA
    unfold Oper.wp
    go_simp
    refine ⟨Rj_in (by rfl) trivial, ?_⟩
    clear kA fA
    generalize hV : ((((((((W5.setCell ⟨gn, 0, none⟩ _).setCell ⟨gn, 1, none⟩ _).setCell ⟨gn, 2, none⟩ _).setCell ⟨gn, 3, none⟩ _).setCell ⟨gn, 4, none⟩ _).setCell ⟨gn, 5, none⟩ _).setCell ⟨gn, 6, none⟩ _).setCell ⟨gn, 7, none⟩ _) = V8
    have hV9 : V8 = putRow W5 gn 0 [.int .i64 mr.kind, .int .u8 mr.proto, .int .u32 mr.net, .int .i64 mr.bits, .int .u32 mr.tt, .int .u16 mr.port, .int .u32 mr.host, .int .u16 mr.hp] := hV.symm
    have hb8 : But (fun b => b = gn) W5 V8 := by rw [hV9]; exact putRow_but (E := fun b => b = gn) (n := gn) rfl _ _ _ _ (But.refl _ _)
    have p8 := putRow_all [.int .i64 mr.kind, .int .u8 mr.proto, .int .u32 mr.net, .int .i64 mr.bits, .int .u32 mr.tt, .int .u16 mr.port, .int .u32 mr.host, .int .u16 mr.hp] HA rfl
    rw [← hV9] at p8
    have PP := hide p8
    clear hV hV9 p8
    have BB := hide (Below.trans LL (hb8.below LL.size (fun k h e => by omega)))
    refine anyU_one 13 rfl (by kernel_rfl) (by rfl) ?_
    refine wp_value (w' := V8) (.bool true) (by go_simp) ?_
    refine ⟨Rj_out (by rfl) (Later.refl _), ?_⟩
    simp only [Act.put, sA, sB, sC]
    refine anyU_done (by kernel_rfl) ?_
    refine ⟨rfl, ?_⟩
    go_wp2_with fail
    go_meet
    case rel => exact ⟨⟨gn, rfl, hgn, PP.out⟩, rfl, BB⟩
   case yt1011 =>
    have la := later_allocG W1 (.cells #[.int .i64 0, .int .u8 0, .int .u32 0, .int .i64 0, .int .u32 0, .int .u16 0, .int .u32 0, .int .u16 0] 57)
    have HA0 := heap_alloc_new W1 (.cells #[.int .i64 0, .int .u8 0, .int .u32 0, .int .i64 0, .int .u32 0, .int .u16 0, .int .u32 0, .int .u16 0] 57)
    unfold Oper.wp
    go_simp
    refine ⟨Rj_out (by rfl) la, ?_⟩
    change wpAnyU _ _ _ _ _ _ _ _ _ _ (W1.alloc (.cells #[.int .i64 0, .int .u8 0, .int .u32 0, .int .i64 0, .int .u32 0, .int .u16 0, .int .u32 0, .int .u16 0] 57))
    have hgn : w1.heap.size ≤ W1.heap.size := HSZ
    generalize W1.alloc (.cells #[.int .i64 0, .int .u8 0, .int .u32 0, .int .i64 0, .int .u32 0, .int .u16 0, .int .u32 0, .int .u16 0] 57) = W5 at *
    generalize W1.heap.size = gn at *
    have HA := HA0
    have LL := ld.trans (l1.trans la)
    refine anyU_two 10 12 rfl rfl (by kernel_rfl) (by rfl) (by rfl) ?xt1012 ?yt1012
    case xt1012 =>
     refine wp_value (w' := W5) (.bool true) (by go_simp) ?_
     refine ⟨Rj_out (by rfl) (Later.refl _), ?_⟩
     simp only [Act.put, sA, sB, sC]
     refine anyU_one 12 rfl (by kernel_rfl) (by rfl) ?_
     have kA := block_cell HA
     have fA := block_frozen HA
     unfold Oper.wp
     go_simp
     refine ⟨Rj_in (by rfl) trivial, ?_⟩
     clear kA fA
     generalize hV : ((((((((W5.setCell ⟨gn, 0, none⟩ _).setCell ⟨gn, 1, none⟩ _).setCell ⟨gn, 2, none⟩ _).setCell ⟨gn, 3, none⟩ _).setCell ⟨gn, 4, none⟩ _).setCell ⟨gn, 5, none⟩ _).setCell ⟨gn, 6, none⟩ _).setCell ⟨gn, 7, none⟩ _) = V8
     have hV9 : V8 = putRow W5 gn 0 [.int .i64 mr.kind, .int .u8 mr.proto, .int .u32 mr.net, .int .i64 mr.bits, .int .u32 mr.tt, .int .u16 mr.port, .int .u32 mr.host, .int .u16 mr.hp] := hV.symm
     have hb8 : But (fun b => b = gn) W5 V8 := by rw [hV9]; exact putRow_but (E := fun b => b = gn) (n := gn) rfl _ _ _ _ (But.refl _ _)
     have p8 := putRow_all [.int .i64 mr.kind, .int .u8 mr.proto, .int .u32 mr.net, .int .i64 mr.bits, .int .u32 mr.tt, .int .u16 mr.port, .int .u32 mr.host, .int .u16 mr.hp] HA rfl
     rw [← hV9] at p8
     have PP := hide p8
     clear hV hV9 p8
     have BB := hide (Below.trans LL (hb8.below LL.size (fun k h e => by omega)))
     refine anyU_one 13 rfl (by kernel_rfl) (by rfl) ?_
     refine wp_value (w' := V8) (.bool true) (by go_simp) ?_
     refine ⟨Rj_out (by rfl) (Later.refl _), ?_⟩
     simp only [Act.put, sA, sB, sC]
     refine anyU_done (by kernel_rfl) ?_
     refine ⟨rfl, ?_⟩
     go_wp2_with fail
     go_meet
     case rel => exact ⟨⟨gn, rfl, hgn, PP.out⟩, rfl, BB⟩
    case yt1012 =>
     have kA := block_cell HA
     have fA := block_frozen HA
     unfold Oper.wp
     go_simp
     refine ⟨Rj_in (by rfl) trivial, ?_⟩
     clear kA fA
     generalize hV : ((((((((W5.setCell ⟨gn, 0, none⟩ _).setCell ⟨gn, 1, none⟩ _).setCell ⟨gn, 2, none⟩ _).setCell ⟨gn, 3, none⟩ _).setCell ⟨gn, 4, none⟩ _).setCell ⟨gn, 5, none⟩ _).setCell ⟨gn, 6, none⟩ _).setCell ⟨gn, 7, none⟩ _) = V8
     have hV9 : V8 = putRow W5 gn 0 [.int .i64 mr.kind, .int .u8 mr.proto, .int .u32 mr.net, .int .i64 mr.bits, .int .u32 mr.tt, .int .u16 mr.port, .int .u32 mr.host, .int .u16 mr.hp] := hV.symm
     have hb8 : But (fun b => b = gn) W5 V8 := by rw [hV9]; exact putRow_but (E := fun b => b = gn) (n := gn) rfl _ _ _ _ (But.refl _ _)
     have p8 := putRow_all [.int .i64 mr.kind, .int .u8 mr.proto, .int .u32 mr.net, .int .i64 mr.bits, .int .u32 mr.tt, .int .u16 mr.port, .int .u32 mr.host, .int .u16 mr.hp] HA rfl
     rw [← hV9] at p8
     have PP := hide p8
     clear hV hV9 p8
     have BB := hide (Below.trans LL (hb8.below LL.size (fun k h e => by omega)))
     refine anyU_one 10 rfl (by kernel_rfl) (by rfl) ?_
     refine wp_value (w' := V8) (.bool true) (by go_simp) ?_
     refine ⟨Rj_out (by rfl) (Later.refl _), ?_⟩
     simp only [Act.put, sA, sB, sC]
     refine anyU_one 13 rfl (by kernel_rfl) (by rfl) ?_
     refine wp_value (w' := V8) (.bool true) (by go_simp) ?_
     refine ⟨Rj_out (by rfl) (Later.refl _), ?_⟩
     simp only [Act.put, sA, sB, sC]
     refine anyU_done (by kernel_rfl) ?_
     refine ⟨rfl, ?_⟩
     go_wp2_with fail
     go_meet
     case rel => exact ⟨⟨gn, rfl, hgn, PP.out⟩, rfl, BB⟩
  case al =>
   have HSZ := ld.size
   have la := later_allocG Wd (.cells #[.int .i64 0, .int .u8 0, .int .u32 0, .int .i64 0, .int .u32 0, .int .u16 0, .int .u32 0, .int .u16 0] 57)
   have HA0 := heap_alloc_new Wd (.cells #[.int .i64 0, .int .u8 0, .int .u32 0, .int .i64 0, .int .u32 0, .int .u16 0, .int .u32 0, .int .u16 0] 57)
   unfold Oper.wp
   go_simp
   refine ⟨Rj_out (by rfl) la, ?_⟩
   change wpAnyU _ _ _ _ _ _ _ _ _ _ (Wd.alloc (.cells #[.int .i64 0, .int .u8 0, .int .u32 0, .int .i64 0, .int .u32 0, .int .u16 0, .int .u32 0, .int .u16 0] 57))
   have hgn : w1.heap.size ≤ Wd.heap.size := HSZ
   generalize Wd.alloc (.cells #[.int .i64 0, .int .u8 0, .int .u32 0, .int .i64 0, .int .u32 0, .int .u16 0, .int .u32 0, .int .u16 0] 57) = W3 at *
   generalize Wd.heap.size = gn at *
   refine anyU_one 7 rfl (by kernel_rfl) (by rfl) ?_
   refine wp_enter 199 #[.pointer (some ⟨s.gr, 0, none⟩), .int .u32 x] (by go_simp) ?_
   refine (HMQ.out W3 (LWd.trans la)).mono ?_
   rintro e W5 ⟨rfl, l1⟩
   refine ⟨Rj_out (by rfl) l1, ?_⟩
   simp only [Act.put, sA, sB, sC]
   refine anyU_val Later.pre 8 [9, 10, 12, 13] rfl (by rfl) (by rfl) (by kernel_rfl) (by kernel_rfl) (by kernel_rfl) (by kernel_rfl) (by kernel_rfl) (fun _ _ _ _ h => by cases h.1) (by rfl) ?_; apply Exists.intro; refine ⟨fun v1 hv1 => ?_, ?_⟩; (· (go_simp; rfl)); simp only [Act.put, sA, sB, sC]
   refine anyU_val Later.pre 9 [12, 13] rfl (by rfl) (by rfl) (by kernel_rfl) (by kernel_rfl) (by kernel_rfl) (by kernel_rfl) (by kernel_rfl) (fun _ _ _ _ h => by cases h.1) (by rfl) ?_; apply Exists.intro; refine ⟨fun v1 hv1 => ?_, ?_⟩; (· (go_simp; rfl)); simp only [Act.put, sA, sB, sC]
   have HA := later_keep l1 HA0
   have LL := ld.trans (la.trans l1)
   refine anyU_two 10 12 rfl rfl (by kernel_rfl) (by rfl) (by rfl) ?xt1012 ?yt1012
   case xt1012 =>
    refine wp_value (w' := W5) (.bool true) (by go_simp) ?_
    refine ⟨Rj_out (by rfl) (Later.refl _), ?_⟩
    simp only [Act.put, sA, sB, sC]
    refine anyU_one 12 rfl (by kernel_rfl) (by rfl) ?_
    have kA := block_cell HA
    have fA := block_frozen HA
    unfold Oper.wp
    go_simp
    refine ⟨Rj_in (by rfl) trivial, ?_⟩
    clear kA fA
    generalize hV : ((((((((W5.setCell ⟨gn, 0, none⟩ _).setCell ⟨gn, 1, none⟩ _).setCell ⟨gn, 2, none⟩ _).setCell ⟨gn, 3, none⟩ _).setCell ⟨gn, 4, none⟩ _).setCell ⟨gn, 5, none⟩ _).setCell ⟨gn, 6, none⟩ _).setCell ⟨gn, 7, none⟩ _) = V8
    have hV9 : V8 = putRow W5 gn 0 [.int .i64 mr.kind, .int .u8 mr.proto, .int .u32 mr.net, .int .i64 mr.bits, .int .u32 mr.tt, .int .u16 mr.port, .int .u32 mr.host, .int .u16 mr.hp] := hV.symm
    have hb8 : But (fun b => b = gn) W5 V8 := by rw [hV9]; exact putRow_but (E := fun b => b = gn) (n := gn) rfl _ _ _ _ (But.refl _ _)
    have p8 := putRow_all [.int .i64 mr.kind, .int .u8 mr.proto, .int .u32 mr.net, .int .i64 mr.bits, .int .u32 mr.tt, .int .u16 mr.port, .int .u32 mr.host, .int .u16 mr.hp] HA rfl
    rw [← hV9] at p8
    have PP := hide p8
    clear hV hV9 p8
    have BB := hide (Below.trans LL (hb8.below LL.size (fun k h e => by omega)))
    refine anyU_one 13 rfl (by kernel_rfl) (by rfl) ?_
    refine wp_value (w' := V8) (.bool true) (by go_simp) ?_
    refine ⟨Rj_out (by rfl) (Later.refl _), ?_⟩
    simp only [Act.put, sA, sB, sC]
    refine anyU_done (by kernel_rfl) ?_
    refine ⟨rfl, ?_⟩
    go_wp2_with fail
    go_meet
    case rel => exact ⟨⟨gn, rfl, hgn, PP.out⟩, rfl, BB⟩
   case yt1012 =>
    have kA := block_cell HA
    have fA := block_frozen HA
    unfold Oper.wp
    go_simp
    refine ⟨Rj_in (by rfl) trivial, ?_⟩
    clear kA fA
    generalize hV : ((((((((W5.setCell ⟨gn, 0, none⟩ _).setCell ⟨gn, 1, none⟩ _).setCell ⟨gn, 2, none⟩ _).setCell ⟨gn, 3, none⟩ _).setCell ⟨gn, 4, none⟩ _).setCell ⟨gn, 5, none⟩ _).setCell ⟨gn, 6, none⟩ _).setCell ⟨gn, 7, none⟩ _) = V8
    have hV9 : V8 = putRow W5 gn 0 [.int .i64 mr.kind, .int .u8 mr.proto, .int .u32 mr.net, .int .i64 mr.bits, .int .u32 mr.tt, .int .u16 mr.port, .int .u32 mr.host, .int .u16 mr.hp] := hV.symm
    have hb8 : But (fun b => b = gn) W5 V8 := by rw [hV9]; exact putRow_but (E := fun b => b = gn) (n := gn) rfl _ _ _ _ (But.refl _ _)
    have p8 := putRow_all [.int .i64 mr.kind, .int .u8 mr.proto, .int .u32 mr.net, .int .i64 mr.bits, .int .u32 mr.tt, .int .u16 mr.port, .int .u32 mr.host, .int .u16 mr.hp] HA rfl
    rw [← hV9] at p8
    have PP := hide p8
    clear hV hV9 p8
    have BB := hide (Below.trans LL (hb8.below LL.size (fun k h e => by omega)))
    refine anyU_one 10 rfl (by kernel_rfl) (by rfl) ?_
    refine wp_value (w' := V8) (.bool true) (by go_simp) ?_
    refine ⟨Rj_out (by rfl) (Later.refl _), ?_⟩
    simp only [Act.put, sA, sB, sC]
    refine anyU_one 13 rfl (by kernel_rfl) (by rfl) ?_
    refine wp_value (w' := V8) (.bool true) (by go_simp) ?_
    refine ⟨Rj_out (by rfl) (Later.refl _), ?_⟩
    simp only [Act.put, sA, sB, sC]
    refine anyU_done (by kernel_rfl) ?_
    refine ⟨rfl, ?_⟩
    go_wp2_with fail
    go_meet
    case rel => exact ⟨⟨gn, rfl, hgn, PP.out⟩, rfl, BB⟩
 case rest =>
 obtain ⟨⟨gn, rfl, hgn, hC⟩, rfl, hL⟩ := hcut
 obtain ⟨w2, hw2⟩ : ∃ w2, w2 = wc := ⟨_, rfl⟩
 subst hw2
 have H2 := hide (HG.out.later hL.out)
 have K2 : Hid (KG base w w2) := KG.of_later (LW0.trans hL.out)
 have D0 := hide (later_keep hL.out C0.out)
 have D1 := hide (later_keep hL.out C1.out)
 have D2 := hide hC
 have hgn2 : gx + 1 < gn := Nat.lt_of_lt_of_le (bl9 C1.out) hgn
 have hb2 : base ≤ w2.heap.size := Nat.le_trans hbs K2.out.size
 clear C0 C1 CG HG HMQ hL hC hgn LW0 l0
 have k0 := block_cell D0.out
 have k1 := block_cell D1.out
 have k2 := block_cell D2.out
 go_wp2_with fail
 refine (grefuse_no 2 w2).mono ?_
 rintro e w2' ⟨rfl, rfl⟩
 go_wp2_with fail
 refine (HTK.out w2 H2.out hb2 K2.out).mono ?_
 rintro e w3 ⟨pb, he, M3, hpb, h3'⟩
 rw [← HN.out] at he h3'
 subst he
 have hnm : ∀ (b : Nat) (cur : Array Value) (t : TypeId) (f : Nat × Nat), w2.heap[b]? = some (.cells cur t f) → w3.heap[b]? = some (.cells cur t f) := fun b cur t f hb => (M3.block b (bl9 hb) (fun e => by have e' : b = s.gp := e; have hh := H2.out.pl; rw [← e', hb] at hh; cases hh)).trans hb
 have K3 : Hid (KG base w w3) := K2.out.trans (KG.of_but M3 (fun q e => by have e' : q = s.gp := e; rw [e']; exact ⟨H2.out.bf.2, fun ob ho => by have hp := H2.out.pl; rw [hp] at ho; cases ho; exact trivial⟩))
 have E0 := hide (hnm _ _ _ _ D0.out)
 have E1 := hide (hnm _ _ _ _ D1.out)
 have E2 := hide (hnm _ _ _ _ D2.out)
 have H3 := hide h3'
 clear k0 k1 k2 D0 D1 D2 HTK M3 hnm H2 K2 h3' hb2
 have k0 := block_cell E0.out
 have k1 := block_cell E1.out
 have k2 := block_cell E2.out
 go_wp2_with fail
 have la := later_allocG w3 (.cells #[.int .u8 17, .int .u32 mr.tt, .int .u16 (n : Int)] 185)
 have ca := heap_alloc_new w3 (.cells #[.int .u8 17, .int .u32 mr.tt, .int .u16 (n : Int)] 185)
 refine (grefuse_no 4 _).mono ?_
 rintro e w4 ⟨rfl, hw4⟩
 rw [hw4] at la ca
 clear hw4
 have H4 := hide (H3.out.later la)
 have K4 : Hid (KG base w w4) := K3.out.trans (KG.of_later la)
 have F0 := hide (later_keep la E0.out)
 have F1 := hide (later_keep la E1.out)
 have F2 := hide (later_keep la E2.out)
 have F3 := hide ca
 generalize hg3 : w3.heap.size = gm at *
 clear k0 k1 k2 E0 E1 E2 la ca H3 K3
 have k0 := block_cell F0.out
 have k1 := block_cell F1.out
 have k2 := block_cell F2.out
 have k3 := block_cell F3.out
 have la := later_allocG w4 (.cells #[.int .u8 17, .int .u32 d, .int .u32 mr.tt, .int .u16 b, .int .u16 (n : Int)] 47)
 have ca := heap_alloc_new w4 (.cells #[.int .u8 17, .int .u32 d, .int .u32 mr.tt, .int .u16 b, .int .u16 (n : Int)] 47)
 have LA := hide la
 have CA := hide ca
 clear la ca
 go_upto_region 6 with fail
 generalize hw5 : w4.alloc _ = w5 at *
 clear hw5
 generalize hg4 : w4.heap.size = gr at *
 have H5 := hide (H4.out.later LA.out)
 have K5 : Hid (KG base w w5) := K4.out.trans (KG.of_later LA.out)
 have G0 := hide (later_keep LA.out F0.out)
 have G1 := hide (later_keep LA.out F1.out)
 have G3 := hide (later_keep LA.out F3.out)
 have G4 := hide CA.out
 clear k0 k1 k2 k3 F0 F1 F2 F3 H4 K4 LA CA
 have k0 := block_cell G0.out
 have k1 := block_cell G1.out
 have k3 := block_cell G3.out
 have k4 := block_cell G4.out
 go_wp2_with fail
 refine (roomFor_yes base g _ 17 x d (a : Int) b 17 d mr.tt b (n : Int) w5 H5.out hk1 (hk2 n) hx hd ⟨by omega, by omega⟩ hb hd htt hb ⟨by omega, by have := HNR.out; rw [← HN.out] at this; omega⟩ hfs (fun e => hne ⟨e.2.1, e.2.2.1⟩)).mono ?_
 rintro e w6 ⟨rfl, l6⟩
 have H6 := hide (H5.out.later l6)
 have K6 : Hid (KG base w w6) := K5.out.trans (KG.of_later l6)
 have J0 := hide (later_keep l6 G0.out)
 have J1 := hide (later_keep l6 G1.out)
 have J3 := hide (later_keep l6 G3.out)
 have J4 := hide (later_keep l6 G4.out)
 clear k0 k1 k3 k4 G0 G1 G3 G4 H5 K5 l6
 have k0 := block_cell J0.out
 have k1 := block_cell J1.out
 have k3 := block_cell J3.out
 have k4 := block_cell J4.out
 have hbg' : gx ≤ w6.heap.size := by rw [← hgx]; exact K6.out.size
 have la := later_allocG w6 (.cells #[.int .u8 17, .int .u32 mr.tt, .int .u16 (n : Int)] 185)
 have HOP := hide (open_udp base g _ ⟨17, x, d, (a : Int), b⟩ ⟨17, d, mr.tt, b, (n : Int)⟩ 0 0 0 0 (-1) (some ⟨w6.heap.size, 0, none⟩) 1 1 (w6.alloc (.cells #[.int .u8 17, .int .u32 mr.tt, .int .u16 (n : Int)] 185)) (H6.out.later la) rfl hs1 hs2 (Nat.le_trans hbs (Nat.le_trans K6.out.size la.size)) ⟨hx, hd, ⟨by show (0:Int) ≤ (a : Int); omega, by show (a : Int) ≤ 65535; omega⟩, hb⟩ ⟨hd, htt, hb, ⟨by show (0:Int) ≤ (n : Int); omega, by have := HNR.out; rw [← HN.out] at this; show (n : Int) ≤ 65535; omega⟩⟩ htr hnw hbg hid hcn hln)
 have K7 : Hid (KG base w (w6.alloc (.cells #[.int .u8 17, .int .u32 mr.tt, .int .u16 (n : Int)] 185))) := K6.out.trans (KG.of_later la)
 clear la
 go_wp2_with fail
 refine HOP.out.mono ?_
 rintro e w8 ⟨f, hfb, rfl, hk, e1, e2, e3, e4, e5, e6, e7, hG⟩
 clear k0 k1 k3 k4
 go_wp2_with fail
 go_ret
 refine ⟨f, pb, ?_, rfl, K7.out.trans hk, e1, e2, ?_, e4, e5, e7, ?_⟩
 ·exact Nat.le_trans K7.out.size hfb
 ·rw [e3]
  show _ = Tu.mk 17 d mr.tt b ((tkn s.lo s.hi ((a : Int).toNat) : Nat) : Int)
  rw [show ((a : Int).toNat) = a from rfl, ← HN.out]
 ·show GF base w8 g (bcS (opS (withP s 17 mr.tt pb (wsR (wsOf (nums s.lo s.hi)) (tkn s.lo s.hi ((a : Int).toNat)))) f) f 8)
  rw [show ((a : Int).toNat) = a from rfl, ← HN.out]
  exact hG
end Go.Proofs.YtajcfhcdincngaaGreatDoor

/- Package gate: a packet of Udp whose flow begins. -/
namespace Go.Proofs.YtajcfhcdincngaaGreatDoor
open Go.RowKit Go.Shelf
set_option maxRecDepth 100000
set_option linter.unusedVariables false
set_option linter.unusedSimpArgs false

/-- A flow from x and a to d and b may begin, by a rule. -/
structure Rdy (s : Gf) (x d : Int) (a : Nat) (b : Int) (mr : Ru) : Prop where
 ps : s.ps = []
 ok : okL s.ls
 fd : s.ls.find? (mqB x) = some mr
 hx : 0 ≤ x ∧ x ≤ 4294967295
 hd : 0 ≤ d ∧ d ≤ 4294967295
 ha : a ≤ 65535
 hb : 0 ≤ b ∧ b ≤ 65535
 tt : 0 ≤ mr.tt ∧ mr.tt ≤ 4294967295
 h1 : 1 ≤ s.lo
 h2 : s.lo ≤ s.hi
 h3 : s.hi < 65536
 s1 : (b == 5060) = false
 s2 : ((a : Int) == 5060) = false
 k1 : kx 17 x d (a : Int) b s.rw = none
 k2 : ∀ n : Nat, kx 17 d mr.tt b (n : Int) s.rw = none
 fs : s.fs.length < 64
 ne : ¬ (x = d ∧ d = mr.tt)
 tr : 0 ≤ s.trn ∧ s.trn ≤ 900000
 nw : 0 ≤ s.now ∧ s.now ≤ 549755813888
 bg : 0 ≤ s.bg ∧ s.bg ≤ 1000000
 id : ∀ y ∈ s.fs, y.id ≠ s.bg
 cn : 0 ≤ s.cnt ∧ s.cnt ≤ 1000
 ln : ∀ i, (s.rw i).length ≤ 4000
theorem BgQ.of {base g : Nat} {w w1 w' : World} {s : Gf} {o : Tu} {mr : Ru} {e : Ending} (k : KG base w w1) (h : BgQ base w1 w' g s o mr e) : BgQ base w w' g s o mr e := by
 obtain ⟨f, pb, q1, q2, q3, q⟩ := h
 exact ⟨f, pb, Nat.le_trans k.size q1, q2, k.trans q3, q⟩

set_option maxRecDepth 100000 in
set_option maxHeartbeats 8000000 in
theorem begin_yes (base g : Nat) (s : Gf) (tos id ttl pr src dst : Int) (keep : Bool) (so sd : Value) (x d : Int) (a : Nat) (b : Int) (mr : Ru) (w : World) (h : GF base w g s) (hR : Rdy s x d a b mr) (hbs : base ≤ w.heap.size) (hz : ∀ W, KG base w W → Dz W) (hgz : 1 ≤ w.heap.size) :
  Calls Tryz.prog 129 #[.agg #[.pointer (some ⟨g, 0, none⟩), .int .u8 tos, .int .u16 id, .bool keep, .int .u8 ttl, .int .u8 pr, .int .u32 src, .int .u32 dst, so, sd, .int .i64 0], .agg #[.int .u8 17, .int .u32 x, .int .u32 d, .int .u16 (a : Int), .int .u16 b]] w fun e w' => BgQ base w w' g s ⟨17, x, d, (a : Int), b⟩ mr e := by
 obtain ⟨l0, c0, c1⟩ := alloc2 w (.cells #[.pointer (some ⟨g, 0, none⟩), .int .u8 tos, .int .u16 id, .bool keep, .int .u8 ttl, .int .u8 pr, .int .u32 src, .int .u32 dst, so, sd, .int .i64 0] 146) (.cells #[.int .u8 17, .int .u32 x, .int .u32 d, .int .u16 (a : Int), .int .u16 b] 47)
 have C0 := hide c0
 have C1 := hide c1
 have HB := hide (beginInside_yes base g s tos id ttl pr src dst keep so sd 0 x d a b mr _ (h.later l0) hR.ps hR.ok hR.fd (Nat.le_trans hbs l0.size) hR.hx hR.hd hR.ha hR.hb hR.tt hR.h1 hR.h2 hR.h3 (fun W k => hz W ((KG.of_later l0).trans k)) (Nat.le_trans hgz l0.size) hR.s1 hR.s2 hR.k1 hR.k2 hR.fs hR.ne hR.tr hR.nw hR.bg hR.id hR.cn hR.ln)
 clear c0 c1 h hR hz hgz
 go_enter Tryz.func129, Tryz.ntmps129
 go_upto_region 1 with fail
 generalize (w.alloc (.cells #[.pointer (some ⟨g, 0, none⟩), .int .u8 tos, .int .u16 id, .bool keep, .int .u8 ttl, .int .u8 pr, .int .u32 src, .int .u32 dst, so, sd, .int .i64 0] 146)).alloc (.cells #[.int .u8 17, .int .u32 x, .int .u32 d, .int .u16 (a : Int), .int .u16 b] 47) = w1 at *
 generalize hgx : w.heap.size = gx at C0 C1 ⊢
 have k0 := block_cell C0.out
 have k1 := block_cell C1.out
 go_wp2_with fail
 refine (grefuse_no 5 w1).mono ?_
 rintro e w2 ⟨rfl, rfl⟩
 go_wp2_with fail
 refine (grefuse_no 5 w1).mono ?_
 rintro e w2 ⟨rfl, rfl⟩
 go_wp2_with fail
 refine (grefuse_no 3 w1).mono ?_
 rintro e w2 ⟨rfl, rfl⟩
 go_wp2_with fail
 refine HB.out.mono ?_
 rintro e w2 hq
 obtain ⟨f, pb, q1, rfl, q⟩ := hq
 clear k0 k1
 go_wp2_with fail
 go_ret
 exact BgQ.of (KG.of_later l0) ⟨f, pb, q1, rfl, q⟩

def OwQ (base : Nat) (w w' : World) (g : Nat) (s : Gf) (o : Tu) (mr : Ru) (e : Ending) : Prop := ∃ (f : Fl) (pb : Nat), w.heap.size ≤ f.blk ∧ e = .returned (.tuple #[.pointer (some ⟨f.blk, 0, none⟩), .bool false]) ∧ KG base w w' ∧ f.id = s.bg ∧ f.o = o ∧ f.r = ⟨17, o.dst, mr.tt, o.dp, (tkn s.lo s.hi o.sp.toNat : Int)⟩ ∧ f.side = 0 ∧ f.ms = -1 ∧ f.hp = noh ∧ GF base w' g (bcS (opS (withP s 17 mr.tt pb (wsR (wsOf (nums s.lo s.hi)) (tkn s.lo s.hi o.sp.toNat))) f) f 8)

set_option maxRecDepth 100000 in
set_option maxHeartbeats 8000000 in
theorem owner_yes (base g : Nat) (s : Gf) (tos id ttl pr src dst : Int) (keep : Bool) (so sd : Value) (x d : Int) (a : Nat) (b : Int) (mr : Ru) (w : World) (h : GF base w g s) (hR : Rdy s x d a b mr) (hbs : base ≤ w.heap.size) (hz : ∀ W, KG base w W → Dz W) (hgz : 1 ≤ w.heap.size) :
  Calls Tryz.prog 98 #[.agg #[.pointer (some ⟨g, 0, none⟩), .int .u8 tos, .int .u16 id, .bool keep, .int .u8 ttl, .int .u8 pr, .int .u32 src, .int .u32 dst, so, sd, .int .i64 0], .agg #[.int .u8 17, .int .u32 x, .int .u32 d, .int .u16 (a : Int), .int .u16 b]] w fun e w' => OwQ base w w' g s ⟨17, x, d, (a : Int), b⟩ mr e := by
 obtain ⟨l0, c0, c1⟩ := alloc2 w (.cells #[.pointer (some ⟨g, 0, none⟩), .int .u8 tos, .int .u16 id, .bool keep, .int .u8 ttl, .int .u8 pr, .int .u32 src, .int .u32 dst, so, sd, .int .i64 0] 146) (.cells #[.int .u8 17, .int .u32 x, .int .u32 d, .int .u16 (a : Int), .int .u16 b] 47)
 have C0 := hide c0
 have C1 := hide c1
 have HL := hide (lookUpF_none base g s 17 x d (a : Int) b _ (h.later l0) hR.k1 hR.hx hR.hd ⟨by omega, by have := hR.ha; omega⟩ hR.hb)
 have HB := hide (fun W (l : Later w W) => begin_yes base g s tos id ttl pr src dst keep so sd x d a b mr W (h.later l) hR (Nat.le_trans hbs l.size) (fun V k => hz V ((KG.of_later l).trans k)) (Nat.le_trans hgz l.size))
 clear c0 c1 h hR hz hgz
 go_enter Tryz.func98, Tryz.ntmps98
 go_upto_region 1 with fail
 generalize (w.alloc (.cells #[.pointer (some ⟨g, 0, none⟩), .int .u8 tos, .int .u16 id, .bool keep, .int .u8 ttl, .int .u8 pr, .int .u32 src, .int .u32 dst, so, sd, .int .i64 0] 146)).alloc (.cells #[.int .u8 17, .int .u32 x, .int .u32 d, .int .u16 (a : Int), .int .u16 b] 47) = w1 at *
 generalize hgx : w.heap.size = gx at C0 C1 ⊢
 have k0 := block_cell C0.out
 have k1 := block_cell C1.out
 go_wp2_with fail
 refine HL.out.mono ?_
 rintro e w2 ⟨rfl, l2⟩
 clear k0 k1 HL
 have L2 : Later w w2 := l0.trans l2
 have k0 := block_cell (later_keep l2 C0.out)
 have k1 := block_cell (later_keep l2 C1.out)
 have HB2 := hide (HB.out w2 L2)
 clear HB
 go_wp2_with fail
 refine HB2.out.mono ?_
 rintro e w3 hq
 obtain ⟨f, pb, q1, rfl, q3, q⟩ := hq
 clear k0 k1
 go_wp2_with fail
 exact bodyPost_ret (v := .tuple #[.pointer (some ⟨f.blk, 0, none⟩), .bool false]) (by simp [results, Tryz.results98, go_sem]) rfl ⟨f, pb, Nat.le_trans L2.size q1, rfl, (KG.of_later L2).trans q3, q⟩
end Go.Proofs.YtajcfhcdincngaaGreatDoor
