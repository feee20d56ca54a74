import Derived.Test.YtofknbfbmaefoaaGreatDoorX4
import Derived.Test.YtofknbfbmaefoaaGreatDoorX17
import Derived.Test.YtofknbfbmaefoaaGreatDoorX8
namespace Go.Proofs.YtofknbfbmaefoaaGreatDoor
set_option maxHeartbeats 8000000
open Go.RowKit Go.Shelf
set_option maxRecDepth 100000
set_option linter.unusedVariables false
set_option linter.unusedSimpArgs false
theorem getF_none (base gt : Nat) (cnt trn : Int) (rw : Nat → List Rw) (p x d a b : Int) (W : World) (h : TB base W gt 128 cnt trn rw) (hk : kx p x d a b rw = none) (hs : 0 ≤ x ∧ x ≤ 4294967295) (hd : 0 ≤ d ∧ d ≤ 4294967295) (ha : 0 ≤ a ∧ a ≤ 65535) (hb : 0 ≤ b ∧ b ≤ 65535) :
  Calls Tryz.prog 75 #[.pointer (some ⟨gt, 0, none⟩), .agg #[.int .u8 p, .int .u32 x, .int .u32 d, .int .u16 a, .int .u16 b]] W fun e w' => e = .returned (.tuple #[.int .i64 0, .int .i64 0, .bool false]) ∧ Later W w' := by
 refine (get_any base gt 128 cnt trn rw p x d a b W h hs hd ha hb).mono ?_
 rintro e w' ⟨h1, rfl⟩
 exact ⟨by unfold gtv; rw [hk], h1⟩
theorem lookUpF_none (base g : Nat) (s : Gf) (p x d a b : Int) (w : World) (h : GF base w g s) (hk : kx p x d a b s.rw = none) (hs : 0 ≤ x ∧ x ≤ 4294967295) (hd : 0 ≤ d ∧ d ≤ 4294967295) (ha : 0 ≤ a ∧ a ≤ 65535) (hb : 0 ≤ b ∧ b ≤ 65535) :
  Calls Tryz.prog 33 #[.pointer (some ⟨g, 0, none⟩), .agg #[.int .u8 p, .int .u32 x, .int .u32 d, .int .u16 a, .int .u16 b]] w fun e w' => e = .returned (.tuple #[.pointer none, .bool false, .bool false]) ∧ Later w w' := by
 have l0 := later_allocG w (.cells #[.int .u8 p, .int .u32 x, .int .u32 d, .int .u16 a, .int .u16 b] 68)
 have C0 := hide (heap_alloc_new w (.cells #[.int .u8 p, .int .u32 x, .int .u32 d, .int .u16 a, .int .u16 b] 68))
 have HG := hide (h.later l0)
 have HGT := hide (fun W (l : Later w W) => getF_none base s.gt s.cnt s.trn s.rw p x d a b W (h.tb.laterD l) hk hs hd ha hb)
 clear h hs hd ha hb hk
 go_enter Tryz.func33, Tryz.ntmps33
 go_upto_region 1 with fail
 generalize w.alloc _ = w1 at *
 generalize w.heap.size = gx at *
 refine anyR_begin (R := Later) Later.pre Later.drew 13 rfl (by kernel_rfl) (fun V0 hV0 => ?_)
 have q0 : ∀ v, Later V0 v → ∀ j, v.cell? ⟨gx, j, none⟩ = #[.int .u8 p, .int .u32 x, .int .u32 d, .int .u16 a, .int .u16 b][j]? := fun v hv => block_cell (later_keep (hV0.trans hv) C0.out)
 have q1 : ∀ v, Later V0 v → ∀ j, v.cell? ⟨g, j, none⟩ = (gfc s).toArray[j]? := fun v hv => block_cell (later_keep (hV0.trans hv) HG.out.gc)
 unfold gfc at q1
 refine rV Later.pre 0 rfl rfl ⟨_, fun v h => by (go_simp; rfl), ?_⟩; simp only [Act.put, sA, sB, sC]
 refine rV Later.pre 1 rfl rfl ⟨_, fun v h => by (go_simp; rfl), ?_⟩; simp only [Act.put, sA, sB, sC]
 refine rV Later.pre 2 rfl rfl ⟨_, fun v h => by (go_simp; rfl), ?_⟩; simp only [Act.put, sA, sB, sC]
 refine rV Later.pre 3 rfl rfl ⟨_, fun v h => by (go_simp; rfl), ?_⟩; simp only [Act.put, sA, sB, sC]
 refine rV Later.pre 4 rfl rfl ⟨_, fun v h => by (go_simp; rfl), ?_⟩; simp only [Act.put, sA, sB, sC]
 clear q0 q1
 refine anyR_take Later.pre 5 (.tuple #[.int .i64 0, .int .i64 0, .bool false]) rfl (by kernel_rfl) (by kernel_rfl) (by kernel_rfl) (fun _ _ _ h => h) rfl (fun u hu => goes_call 75 #[.pointer (some ⟨s.gt, 0, none⟩), .agg #[.int .u8 p, .int .u32 x, .int .u32 d, .int .u16 a, .int .u16 b]] (by go_simp) (HGT.out u (Later.trans l0 (hV0.trans hu)))) ?_
 simp only [Act.put, sA, sB, sC]
 refine rV Later.pre 6 rfl rfl ⟨_, fun v h => by (go_simp; rfl), ?_⟩; simp only [Act.put, sA, sB, sC]
 refine rV Later.pre 7 rfl rfl ⟨_, fun v h => by (go_simp; rfl), ?_⟩; simp only [Act.put, sA, sB, sC]
 refine rV Later.pre 8 rfl rfl ⟨_, fun v h => by (go_simp; rfl), ?_⟩; simp only [Act.put, sA, sB, sC]
 refine rV Later.pre 9 rfl rfl ⟨_, fun v h => by (go_simp; rfl), ?_⟩; simp only [Act.put, sA, sB, sC]
 refine rV Later.pre 10 rfl rfl ⟨_, fun v h => by (go_simp; rfl), ?_⟩; simp only [Act.put, sA, sB, sC]
 refine rV Later.pre 11 rfl rfl ⟨_, fun v h => by (go_simp; rfl), ?_⟩; simp only [Act.put, sA, sB, sC]
 refine rV Later.pre 12 rfl rfl ⟨_, fun v h => by (go_simp; rfl), ?_⟩; simp only [Act.put, sA, sB, sC]
 refine anyR_done (by kernel_rfl) (fun V9 hV9 => ?_)
 go_wp2_with fail
 exact bodyPost_ret (v := .tuple #[.pointer none, .bool false, .bool false]) (by simp [results, Tryz.results33, go_sem]) rfl ⟨rfl, Later.trans l0 (hV0.trans hV9)⟩
theorem len_flows {w : World} {b : Nat} {es : Array MapEntry} {c : Nat} (hb : w.heap[b]? = some (.map es c)) : (Builtin.len_ #[74] 3 #[.map (some b)]).run Tryz.prog w = .ok (.int .i64 (es.size : Int)) w := by
 simp [Builtin.len_, Builtin.lenOf, run_underlying Tryz.underlying74, MapKept.run_getObj_map hb, Result.andThen, goInt]
theorem tup_neq (p x d a b p2 x2 d2 a2 b2 : Int) (w : World) (h : ¬ (p = p2 ∧ x = x2 ∧ d = d2 ∧ a = a2 ∧ b = b2)) : (binOp .neq 68 (.agg #[.int .u8 p, .int .u32 x, .int .u32 d, .int .u16 a, .int .u16 b]) (.agg #[.int .u8 p2, .int .u32 x2, .int .u32 d2, .int .u16 a2, .int .u16 b2])).run Tryz.prog w = .ok (.bool true) w := by
 go_simp
 by_cases h1 : p = p2 <;> by_cases h2 : x = x2 <;> by_cases h3 : d = d2 <;> by_cases h4 : a = a2 <;> by_cases h5 : b = b2 <;> simp_all
theorem roomFor_yes (base g : Nat) (s : Gf) (p x d a b p2 x2 d2 a2 b2 : Int) (w : World) (h : GF base w g s) (hk : kx p x d a b s.rw = none) (hk2 : kx p2 x2 d2 a2 b2 s.rw = none) (hs : 0 ≤ x ∧ x ≤ 4294967295) (hd : 0 ≤ d ∧ d ≤ 4294967295) (ha : 0 ≤ a ∧ a ≤ 65535) (hb : 0 ≤ b ∧ b ≤ 65535) (hs2 : 0 ≤ x2 ∧ x2 ≤ 4294967295) (hd2 : 0 ≤ d2 ∧ d2 ≤ 4294967295) (ha2 : 0 ≤ a2 ∧ a2 ≤ 65535) (hb2 : 0 ≤ b2 ∧ b2 ≤ 65535) (hfs : s.fs.length < 64) (hne : ¬ (p = p2 ∧ x = x2 ∧ d = d2 ∧ kyp p a = kyp p2 a2 ∧ b = b2)) :
  Calls Tryz.prog 230 #[.pointer (some ⟨g, 0, none⟩), .agg #[.int .u8 p, .int .u32 x, .int .u32 d, .int .u16 a, .int .u16 b], .agg #[.int .u8 p2, .int .u32 x2, .int .u32 d2, .int .u16 a2, .int .u16 b2]] w fun e w' => e = .returned (.bool true) ∧ Later w w' := by
 obtain ⟨l0, c0, c1⟩ := alloc2 w (.cells #[.int .u8 p, .int .u32 x, .int .u32 d, .int .u16 a, .int .u16 b] 68) (.cells #[.int .u8 p2, .int .u32 x2, .int .u32 d2, .int .u16 a2, .int .u16 b2] 68)
 have C0 := hide c0
 have C1 := hide c1
 have HL1 := hide (fun W (l : Later w W) => lookUpF_none base g s p x d a b W (h.later l) hk hs hd ha hb)
 have HL2 := hide (fun W (l : Later w W) => lookUpF_none base g s p2 x2 d2 a2 b2 W (h.later l) hk2 hs2 hd2 ha2 hb2)
 have hfz : s.fe.size = s.fs.length := by have := congrArg List.length h.fm; simpa using this
 have HG := hide h
 have HNE := hide hne
 clear c0 c1 h hk hk2 hs hd ha hb hs2 hd2 ha2 hb2 hne
 go_enter Tryz.func230, Tryz.ntmps230
 go_upto_region 1 with fail
 generalize (w.alloc (.cells #[.int .u8 p, .int .u32 x, .int .u32 d, .int .u16 a, .int .u16 b] 68)).alloc (.cells #[.int .u8 p2, .int .u32 x2, .int .u32 d2, .int .u16 a2, .int .u16 b2] 68) = w1 at *
 generalize w.heap.size = gx at C0 C1 ⊢
 have k0 := block_cell C0.out
 go_wp2_with fail
 refine (HL1.out w1 l0).mono ?_
 rintro e w2 ⟨rfl, l2⟩
 clear k0 HL1
 have L2 : Later w w2 := l0.trans l2
 have k1 := block_cell (later_keep l2 C1.out)
 go_wp2_with fail
 refine (HL2.out w2 L2).mono ?_
 rintro e w3 ⟨rfl, l3⟩
 clear k1 HL2
 have L3 : Later w w3 := L2.trans l3
 have D0 := hide (later_keep (Later.trans l2 l3) C0.out)
 have D1 := hide (later_keep (Later.trans l2 l3) C1.out)
 have H3 := hide (HG.out.later L3)
 clear C0 C1 HG l2 l3 L2
 go_upto_region 3 with fail
 refine anyR_begin (R := Later) Later.pre Later.drew 22 rfl (by kernel_rfl) (fun V0 hV0 => ?_)
 have q0 : ∀ v, Later V0 v → ∀ j, v.cell? ⟨gx, j, none⟩ = #[.int .u8 p, .int .u32 x, .int .u32 d, .int .u16 a, .int .u16 b][j]? := fun v hv => block_cell (later_keep (hV0.trans hv) D0.out)
 have q1 : ∀ v, Later V0 v → ∀ j, v.cell? ⟨gx + 1, j, none⟩ = #[.int .u8 p2, .int .u32 x2, .int .u32 d2, .int .u16 a2, .int .u16 b2][j]? := fun v hv => block_cell (later_keep (hV0.trans hv) D1.out)
 have q2 : ∀ v, Later V0 v → ∀ j, v.cell? ⟨g, j, none⟩ = (gfc s).toArray[j]? := fun v hv => block_cell (later_keep (hV0.trans hv) H3.out.gc)
 unfold gfc at q2
 have q3 : ∀ v, Later V0 v → v.heap[s.gf]? = some (.map s.fe s.cf) := fun v hv => later_keep (hV0.trans hv) H3.out.fl
 refine rV Later.pre 0 rfl rfl ⟨_, fun v h => by (go_simp; rfl), ?_⟩; simp only [Act.put, sA, sB, sC]
 refine rV Later.pre 1 rfl rfl ⟨_, fun v h => by (go_simp; rfl), ?_⟩; simp only [Act.put, sA, sB, sC]
 refine rV Later.pre 2 rfl rfl ⟨_, fun v h => by (go_simp; rfl), ?_⟩; simp only [Act.put, sA, sB, sC]
 refine rV Later.pre 3 rfl rfl ⟨_, fun v h => by (go_simp; rfl), ?_⟩; simp only [Act.put, sA, sB, sC]
 have hlI : ((s.fs.length : Nat) : Int) < 64 := by omega
 have q4 : ∀ v, Later V0 v → (Builtin.len_ #[74] 3 #[.map (some s.gf)]).run Tryz.prog v = .ok (.int .i64 ((s.fs.length : Nat) : Int)) v := fun v hv => by rw [← hfz]; exact len_flows (q3 v hv)
 clear q3
 refine rV Later.pre 4 rfl rfl ⟨_, fun v h => by (go_simp; rfl), ?_⟩; simp only [Act.put, sA, sB, sC]
 refine rV Later.pre 5 rfl rfl ⟨_, fun v h => by (go_simp; rfl), ?_⟩; simp only [Act.put, sA, sB, sC]
 clear q4
 refine rV Later.pre 6 rfl rfl ⟨_, fun v h => by (go_simp; rfl), ?_⟩; simp only [Act.put, sA, sB, sC]
 refine anyR_valG Later.pre 7 rfl (by kernel_rfl) (by kernel_rfl) (by kernel_rfl) (fun _ _ _ _ h => h) (by rfl) ⟨_, fun v h => by (go_simp; rfl), ?_⟩; simp only [Act.put, sA, sB, sC]
 refine anyR_valG Later.pre 8 rfl (by kernel_rfl) (by kernel_rfl) (by kernel_rfl) (fun _ _ _ _ h => h) (by rfl) ⟨_, fun v h => by (go_simp; rfl), ?_⟩; simp only [Act.put, sA, sB, sC]
 refine rV Later.pre 9 rfl rfl ⟨_, fun v h => by (go_simp; rfl), ?_⟩; simp only [Act.put, sA, sB, sC]
 refine rV Later.pre 10 rfl rfl ⟨_, fun v h => by (go_simp; rfl), ?_⟩; simp only [Act.put, sA, sB, sC]
 refine anyR_valG Later.pre 11 rfl (by kernel_rfl) (by kernel_rfl) (by kernel_rfl) (fun _ _ _ _ h => h) (by rfl) ⟨_, fun v h => by (go_simp; rfl), ?_⟩; simp only [Act.put, sA, sB, sC]
 refine anyR_valG Later.pre 12 rfl (by kernel_rfl) (by kernel_rfl) (by kernel_rfl) (fun _ _ _ _ h => h) (by rfl) ⟨_, fun v h => by (go_simp; rfl), ?_⟩; simp only [Act.put, sA, sB, sC]
 refine rV Later.pre 13 rfl rfl ⟨_, fun v h => by (go_simp; rfl), ?_⟩; simp only [Act.put, sA, sB, sC]
 refine rV Later.pre 14 rfl rfl ⟨_, fun v h => by (go_simp; rfl), ?_⟩; simp only [Act.put, sA, sB, sC]
 refine anyR_valG Later.pre 15 rfl (by kernel_rfl) (by kernel_rfl) (by kernel_rfl) (fun _ _ _ _ h => h) (by rfl) ⟨_, fun v h => by (go_simp; rfl), ?_⟩; simp only [Act.put, sA, sB, sC]
 refine anyR_valG Later.pre 17 rfl (by kernel_rfl) (by kernel_rfl) (by kernel_rfl) (fun _ _ _ _ h => h) (by rfl) ⟨_, fun v h => by (go_simp; rfl), ?_⟩; simp only [Act.put, sA, sB, sC]
 clear q0 q1 q2
 refine anyR_takeG Later.pre 16 (.agg #[.int .u8 p, .int .u32 x, .int .u32 d, .int .u16 (kyp p a), .int .u16 b]) rfl (by kernel_rfl) (by kernel_rfl) (by kernel_rfl) (fun _ _ _ h => h) (by rfl) (fun u hu => goes_call 76 #[.agg #[.int .u8 p, .int .u32 x, .int .u32 d, .int .u16 a, .int .u16 b]] (by go_simp) (key_any p x d a b u)) ?_
 simp only [Act.put, sA, sB, sC]
 refine anyR_takeG Later.pre 18 (.agg #[.int .u8 p2, .int .u32 x2, .int .u32 d2, .int .u16 (kyp p2 a2), .int .u16 b2]) rfl (by kernel_rfl) (by kernel_rfl) (by kernel_rfl) (fun _ _ _ h => h) (by rfl) (fun u hu => goes_call 76 #[.agg #[.int .u8 p2, .int .u32 x2, .int .u32 d2, .int .u16 a2, .int .u16 b2]] (by go_simp) (key_any p2 x2 d2 a2 b2 u)) ?_
 simp only [Act.put, sA, sB, sC]
 generalize kyp p a = ka at *
 generalize kyp p2 a2 = ka2 at *
 have q5 : ∀ v : World, (binOp .neq 68 (.agg #[.int .u8 p, .int .u32 x, .int .u32 d, .int .u16 ka, .int .u16 b]) (.agg #[.int .u8 p2, .int .u32 x2, .int .u32 d2, .int .u16 ka2, .int .u16 b2])).run Tryz.prog v = .ok (.bool true) v := fun v => tup_neq p x d ka b p2 x2 d2 ka2 b2 v HNE.out
 refine anyR_valG Later.pre 19 rfl (by kernel_rfl) (by kernel_rfl) (by kernel_rfl) (fun _ _ _ _ h => h) (by rfl) ⟨.bool true, fun v1 hv1 => by first | (simp only [execOp, Act.eval, Array.getD_eq_getD_getElem?, List.getElem?_toArray, List.getElem?_cons_zero, List.getElem?_cons_succ, Option.getD_some, Sem.run_bind, q5, Result.andThen]; rfl) | (have hn := HNE.out; clear q5; go_simp; by_cases g1 : p = p2 <;> by_cases g2 : x = x2 <;> by_cases g3 : d = d2 <;> by_cases g4 : ka = ka2 <;> by_cases g5 : b = b2 <;> simp_all), ?_⟩
 simp only [Act.put, sA, sB, sC]
 refine rV Later.pre 20 rfl rfl ⟨_, fun v h => by (go_simp; rfl), ?_⟩; simp only [Act.put, sA, sB, sC]
 refine rV Later.pre 21 rfl rfl ⟨_, fun v h => by (go_simp; rfl), ?_⟩; simp only [Act.put, sA, sB, sC]
 refine anyR_done (by kernel_rfl) (fun V9 hV9 => ?_)
 go_wp2_with fail
 go_ret
 exact ⟨rfl, L3.trans (hV0.trans hV9)⟩
def Rf (n : Nat) (A B : World) : Prop := But (fun b => b = n) A B ∧ ∀ j, j ≠ 12 → j ≠ 13 → B.cell? ⟨n, j, none⟩ = A.cell? ⟨n, j, none⟩
theorem Rf.pre (n : Nat) : Pre (Rf n) := ⟨fun A => ⟨But.refl _ _, fun _ _ _ => rfl⟩, fun A B C h k => ⟨h.1.trans k.1, fun j h1 h2 => (k.2 j h1 h2).trans (h.2 j h1 h2)⟩⟩
def Fl.at (f : Fl) (st till : Int) : Fl := { f with st := st, till := till }
def withF (s : Gf) (f : Fl) : Gf := { s with fs := s.fs.map (fun x => if x.blk = f.blk then f else x) }
theorem GF.flow {base g : Nat} {W W' : World} {s : Gf} (h : GF base W g s) (f f2 : Fl) (hf : f ∈ s.fs) (hu : ∀ x ∈ s.fs, x.blk = f.blk → x = f) (hb : But (fun x => x = f.blk) W W') (e1 : f2.blk = f.blk) (e2 : f2.id = f.id) (h2 : W'.heap[f.blk]? = some (.cells (flc f2).toArray 93 (0, 0))) : GF base W' g (withF s f2) := by
 have hF := h.fb f hf
 have hE := TE.one hF.2
 obtain ⟨k1, k2, k3, k4, k5, k6⟩ := h.keep hE hb (by decide)
 refine ⟨h.bs, k1, k2, k3, k4, k5, k6, h.ne, h.bf, ?_, h.pm, fun x hx => ?_, fun p hp => ⟨(h.pb p hp).1, (h.pb p hp).2.1, hE.keep hb (h.pb p hp).2.2 (isT_no (by decide) _ _)⟩⟩
 ·show s.fe.toList.map (fun e => (e.key, e.val)) = (s.fs.map _).map flE
  rw [h.fm]
  rw [List.map_map]
  apply List.map_congr_left
  intro x hx
  show flE x = flE (if x.blk = f2.blk then f2 else x)
  split
  ·rename_i e
   have := hu x hx (e.trans e1)
   subst this
   unfold flE
   rw [e1, e2]
  ·rfl
 ·obtain ⟨y, hy, rfl⟩ := List.mem_map.1 hx
  split
  ·rw [e1]
   exact ⟨hF.1, h2⟩
  ·rename_i e
   exact ⟨(h.fb y hy).1, (hb.block y.blk (Array.getElem?_eq_some_iff.1 (h.fb y hy).2).1 (fun e' => e (by have e2 : y.blk = f.blk := e'; rw [e2, e1]))).trans (h.fb y hy).2⟩
theorem mem_withF {s : Gf} {f f2 : Fl} (hf : f ∈ s.fs) (e : f2.blk = f.blk) : f2 ∈ (withF s f2).fs := List.mem_map.2 ⟨f, hf, by rw [if_pos e.symm]⟩
theorem GF.moved {base g : Nat} {W W' : World} {s : Gf} (h : GF base W g s) (hk : KT W W') (hb : KM W W') {trn : Int} {rw : Nat → List Rw} (ht : TB base W' s.gt 128 s.cnt trn rw) : GF base W' g { s with trn := trn, rw := rw } := by
 have ho : ∀ {e : TypeId} {size : Nat} {v : Value} {n : Nat} {xs : List Value}, e ≠ 142 → e ≠ 177 → W.ownsRow base e size v n xs → W'.ownsRow base e size v n xs := fun h1 h2 q => by
  obtain ⟨q1, q2 | ⟨b, cap, cur', e', hb', hh, r⟩⟩ := q
  ·exact ⟨q1, .inl q2⟩
  ·exact ⟨q1, .inr ⟨b, cap, cur', e', hb', hk _ _ _ _ hh h1 h2, r⟩⟩
 exact ⟨h.bs, hk _ _ _ _ h.gc (by decide) (by decide), ⟨h.rl.1, hk _ _ _ _ h.rl.2.1 (by decide) (by decide), ho (by decide) (by decide) h.rl.2.2⟩, ht, ⟨h.bl.1, hk _ _ _ _ h.bl.2.1 (by decide) (by decide), ho (by decide) (by decide) h.bl.2.2⟩, hb.map h.fl, hb.map h.pl, h.ne, h.bf, h.fm, h.pm, fun f hf => ⟨(h.fb f hf).1, hk _ _ _ _ (h.fb f hf).2 (by decide) (by decide)⟩, fun p hp => ⟨(h.pb p hp).1, (h.pb p hp).2.1, hk _ _ _ _ (h.pb p hp).2.2 (by decide) (by decide)⟩⟩
def gK (o : Obj) : Prop := match o with
 | .cells _ t _ => gTs.contains t = true
 | .map _ _ => True
 | _ => False
structure KG (base : Nat) (w w' : World) : Prop where
 os : w'.os = w.os
 tape : w'.tape = w.tape
 output : w'.output = w.output
 size : w.heap.size ≤ w'.heap.size
 block : ∀ (k : Nat) (o : Obj), w.heap[k]? = some o → (k < base ∨ ¬ gK o) → w'.heap[k]? = some o
theorem KG.refl (base : Nat) (w : World) : KG base w w := ⟨rfl, rfl, rfl, Nat.le_refl _, fun _ _ h _ => h⟩
theorem KG.trans {base : Nat} {a b c : World} (h : KG base a b) (k : KG base b c) : KG base a c := ⟨k.os.trans h.os, k.tape.trans h.tape, k.output.trans h.output, Nat.le_trans h.size k.size, fun i o h1 h2 => k.block i o (h.block i o h1 h2) h2⟩
theorem KG.of_later {base : Nat} {a b : World} (h : Later a b) : KG base a b := ⟨h.os, h.tape, h.output, h.size, fun _ _ h1 _ => later_keep h h1⟩
theorem KG.of_but {base : Nat} {E : Nat → Prop} {a b : World} (h : But E a b) (hE : ∀ k, E k → base ≤ k ∧ ∀ o, a.heap[k]? = some o → gK o) : KG base a b := ⟨h.os, h.tape, h.output, h.size, fun k o h1 h2 => (h.block k (bl9 h1) (fun e => by
 obtain ⟨q1, q2⟩ := hE k e
 rcases h2 with h2 | h2
 ·omega
 ·exact h2 (q2 o h1))).trans h1⟩
theorem KG.below {base : Nat} {a b : World} (h : KG base a b) (hb : base ≤ a.heap.size) : Below base a b := ⟨h.os, h.tape, h.output, h.size, fun i hi => by
 have hi' : i < a.heap.size := Nat.lt_of_lt_of_le hi hb
 obtain ⟨o, ho⟩ : ∃ o, a.heap[i]? = some o := ⟨_, Array.getElem?_eq_getElem hi'⟩
 rw [ho]
 exact h.block i o ho (.inl hi)⟩
theorem KG.cells {base : Nat} {a b : World} (h : KG base a b) {k : Nat} {cur : Array Value} {t : TypeId} {f : Nat × Nat} (hk : a.heap[k]? = some (.cells cur t f)) (ht : gTs.contains t = false) : b.heap[k]? = some (.cells cur t f) := h.block k _ hk (.inr (by show ¬ (gTs.contains t = true); rw [ht]; simp))
def KX (w w' : World) : Prop := KT w w'
theorem KX.pre : Pre KX := ⟨fun a k cur t f h _ _ => h, fun a b c h k i cur t f q h1 h2 => k i cur t f (h i cur t f q h1 h2) h1 h2⟩
theorem KX.of {w w' : World} (h : KT w w') : KX w w' := h
def TuB (t : Tu) : Prop := (0 ≤ t.src ∧ t.src ≤ 4294967295) ∧ (0 ≤ t.dst ∧ t.dst ≤ 4294967295) ∧ (0 ≤ t.sp ∧ t.sp ≤ 65535) ∧ (0 ≤ t.dp ∧ t.dp ≤ 65535)
def kxT (t : Tu) (ls : Nat → List Rw) : Option Nat := kx t.pr t.src t.dst t.sp t.dp ls
def bkT (t : Tu) : Nat := bki t.pr t.src t.dst t.sp t.dp
def mvT (t : Tu) (till : Int) (q : Int × (Nat → List Rw)) : Int × (Nat → List Rw) := match (if mayb till = false then none else kxT t q.2) with
 | none => q
 | some k => (q.1 + 1, mvL q.2 (bkT t) k till (q.1 + 1))
theorem mvT_fst (t : Tu) (till : Int) (q : Int × (Nat → List Rw)) : q.1 ≤ (mvT t till q).1 ∧ (mvT t till q).1 ≤ q.1 + 1 := by
 unfold mvT
 split
 ·omega
 ·exact ⟨by show q.1 ≤ q.1 + 1; omega, Int.le_refl _⟩
theorem moveF (base gt : Nat) (cnt trn : Int) (rw : Nat → List Rw) (t : Tu) (till : Int) (w : World) (hT : TB base w gt 128 cnt trn rw) (hB : TuB t) (hbs : base ≤ w.heap.size) (htr : 0 ≤ trn ∧ trn ≤ 1000000) :
  Calls Tryz.prog 196 #[.pointer (some ⟨gt, 0, none⟩), .agg #[.int .u8 t.pr, .int .u32 t.src, .int .u32 t.dst, .int .u16 t.sp, .int .u16 t.dp], .int .i64 till] w fun e w' => ∃ ev : Int, e = .returned (.int .i64 ev) ∧ TB base w' gt 128 cnt (mvT t till (trn, rw)).1 (mvT t till (trn, rw)).2 ∧ KT w w' ∧ KM w w' ∧ KG base w w' := by
 refine (move_any base gt 128 cnt trn rw t.pr t.src t.dst t.sp t.dp till w hT hB.1 hB.2.1 hB.2.2.1 hB.2.2.2 hbs htr).mono ?_
 rintro e w' ⟨he, ⟨h0, h1, h2⟩ | ⟨h0, k, gg, hk, hbg, h1, h2, h3, h4⟩⟩
 ·refine ⟨_, he, ?_, KT.of_later h2, KM.of_later h2, KG.of_later h2⟩
  have e1 : (if mayb till = false then none else kxT t rw) = none := by
   unfold move at h0
   split
   ·rfl
   ·rename_i hm
    rw [if_neg hm] at h0
    by_cases e : kx t.pr t.src t.dst t.sp t.dp rw = none
    ·exact e
    ·rw [if_neg e] at h0; exact absurd rfl h0
  have e2 : mvT t till (trn, rw) = (trn, rw) := by unfold mvT; rw [e1]
  rw [e2]
  exact h1
 ·refine ⟨_, he, ?_, h3, h4, h2.os, h2.tape, h2.output, h2.size, fun i o q1 q2 => ?_⟩
  ·have e1 : (if mayb till = false then none else kxT t rw) = some k := by
    unfold move at h0
    split
    ·rename_i hm
     rw [if_pos hm] at h0; exact absurd h0 (by decide)
    ·exact hk
   have e2 : mvT t till (trn, rw) = (trn + 1, mvL rw (bkT t) k till (trn + 1)) := by unfold mvT; rw [e1]
   rw [e2]
   exact h1
  ·rcases q2 with q2 | q2
   ·obtain ⟨vs, hTv⟩ := hT
    refine (h2.block i (bl9 q1) (fun e => ?_)).trans q1
    have := hTv.2.1
    rcases e with e | e <;> omega
   ·refine h4 i o q1 (fun cur ty fz e => ⟨fun e2 => q2 ?_, fun e2 => q2 ?_⟩)
    ·subst e; subst e2; show gTs.contains _ = true; decide
    ·subst e; subst e2; show gTs.contains _ = true; decide
def bcM (s : Gf) (f : Fl) (tl : Int) : Int × (Nat → List Rw) := mvT f.r tl (mvT f.o tl (s.trn, s.rw))
def bcS (s : Gf) (f : Fl) (st : Int) : Gf := { withF s (f.at st (s.now + tm f.o.pr st)) with trn := (bcM s f (s.now + tm f.o.pr st)).1, rw := (bcM s f (s.now + tm f.o.pr st)).2 }
theorem tm_bd (p s : Int) : 0 ≤ tm p s ∧ tm p s ≤ 432000 := by
 unfold tm tmT tmO
 repeat' split
 all_goals omega
theorem wrap_now {a b : Int} (h1 : 0 ≤ a) (h2 : a ≤ 549755813888) (h3 : 0 ≤ b ∧ b ≤ 432000) : IntKind.i64.wrap (a + b) = a + b := by
 exact wrapi _ (by omega) (by omega)
theorem Rf.set {n : Nat} (w : World) {j : Nat} (v : Value) (hj : j = 12 ∨ j = 13) : Rf n w (w.setCell ⟨n, j, none⟩ v) := ⟨(But.refl (fun b => b = n) w).setCell (p := ⟨n, j, none⟩) (show _ = _ from rfl) v, fun i h1 h2 => by
 exact World.cell?_setCell_other _ _ _ _ (fun e => by injection e with e1 e2 e3; omega)⟩
theorem become_any (base g : Nat) (s : Gf) (f : Fl) (st : Int) (w : World) (h : GF base w g s) (hf : f ∈ s.fs) (hu : ∀ x ∈ s.fs, x.blk = f.blk → x = f) (hbs : base ≤ w.heap.size) (hBo : TuB f.o) (hBr : TuB f.r) (htr : 0 ≤ s.trn ∧ s.trn ≤ 999999) (hnw : 0 ≤ s.now ∧ s.now ≤ 549755813888) :
  Calls Tryz.prog 154 #[.pointer (some ⟨g, 0, none⟩), .pointer (some ⟨f.blk, 0, none⟩), .int .i64 st] w fun e w' => e = .returned (.tuple #[]) ∧ KG base w w' ∧ GF base w' g (bcS s f st) := by
 obtain ⟨tl, htl⟩ : ∃ tl, tl = s.now + tm f.o.pr st := ⟨_, rfl⟩
 have HTL := hide htl
 have hwr : IntKind.i64.wrap (s.now + tm f.o.pr st) = tl := by rw [htl]; exact wrap_now hnw.1 hnw.2 (tm_bd _ _)
 have HWR := hide hwr
 have hFB := h.fb f hf
 have HF := hide hFB
 have HG := hide h
 have hgf : g ≠ f.blk := fun e => by
  have h1 := h.gc
  rw [e, hFB.2] at h1
  injection h1 with h2
  injection h2 with h3 h4 h5
  exact absurd h4 (by decide)
 have HGF := hide hgf
 have hSf := fun W' (hb : But (fun x => x = f.blk) w W') (h2 : W'.heap[f.blk]? = some (.cells (flc (f.at st tl)).toArray 93 (0, 0))) => h.flow f (f.at st tl) hf hu hb rfl rfl h2
 have HSF := hide hSf
 clear h hFB hgf htl hwr hSf hnw
 go_enter Tryz.func154, Tryz.ntmps154
 go_upto_region 0 with fail
 refine anyT_begin (R := Rf f.blk) 24 rfl (by kernel_rfl) ?_
 have ld : Later w w.drew := Later.drew w
 generalize hwd : w.drew = wd at *
 clear hwd
 have k1 : ∀ v, Rf f.blk wd v → ∀ j, v.cell? ⟨g, j, none⟩ = (gfc s).toArray[j]? := fun v hv => block_cell ((hv.1.block g (Array.getElem?_eq_some_iff.1 (later_keep ld HG.out.gc)).1 (fun e => HGF.out e)).trans (later_keep ld HG.out.gc))
 have k2 : ∀ v, Rf f.blk wd v → v.cell? ⟨f.blk, 1, none⟩ = some (.int .u8 f.o.pr) := fun v hv => (hv.2 1 (by decide) (by decide)).trans (block_cell (later_keep ld HF.out.2) 1)
 unfold gfc at k1
 refine tV (Rf.pre f.blk) 0 rfl rfl ⟨_, fun v h => by (go_simp; rfl), ?_⟩; simp only [Act.put, sA, sB, sC]
 refine tV (Rf.pre f.blk) 1 rfl rfl ⟨_, fun v h => by (go_simp; rfl), ?_⟩; simp only [Act.put, sA, sB, sC]
 refine tV (Rf.pre f.blk) 2 rfl rfl ⟨_, fun v h => by (go_simp; rfl), ?_⟩; simp only [Act.put, sA, sB, sC]
 refine tV (Rf.pre f.blk) 3 rfl rfl ⟨_, fun v h => by (go_simp; rfl), ?_⟩; simp only [Act.put, sA, sB, sC]
 refine tV (Rf.pre f.blk) 4 rfl rfl ⟨_, fun v h => by (go_simp; rfl), ?_⟩; simp only [Act.put, sA, sB, sC]
 refine tV (Rf.pre f.blk) 5 rfl rfl ⟨_, fun v h => by (go_simp; rfl), ?_⟩; simp only [Act.put, sA, sB, sC]
 refine tV (Rf.pre f.blk) 6 rfl rfl ⟨_, fun v h => by (go_simp; rfl), ?_⟩; simp only [Act.put, sA, sB, sC]
 refine tV (Rf.pre f.blk) 7 rfl rfl ⟨_, fun v h => by (go_simp; rfl), ?_⟩; simp only [Act.put, sA, sB, sC]
 refine tV (Rf.pre f.blk) 8 rfl rfl ⟨_, fun v h => by (go_simp; rfl), ?_⟩; simp only [Act.put, sA, sB, sC]
 refine tV (Rf.pre f.blk) 9 rfl rfl ⟨_, fun v h => by (go_simp; rfl), ?_⟩; simp only [Act.put, sA, sB, sC]
 refine tV (Rf.pre f.blk) 10 rfl rfl ⟨_, fun v h => by (go_simp; rfl), ?_⟩; simp only [Act.put, sA, sB, sC]
 refine tV (Rf.pre f.blk) 11 rfl rfl ⟨_, fun v h => by (go_simp; rfl), ?_⟩; simp only [Act.put, sA, sB, sC]
 refine tV (Rf.pre f.blk) 12 rfl rfl ⟨_, fun v h => by (go_simp; rfl), ?_⟩; simp only [Act.put, sA, sB, sC]
 refine tV (Rf.pre f.blk) 13 rfl rfl ⟨_, fun v h => by (go_simp; rfl), ?_⟩; simp only [Act.put, sA, sB, sC]
 refine anyT_one 14 rfl (by kernel_rfl) rfl ?_
 refine wp_enter 195 #[.int .u8 f.o.pr, .int .i64 st] (by go_simp) ?_
 refine (time_any f.o.pr st wd).mono ?_
 rintro e w1 ⟨rfl, rfl⟩
 refine ⟨(Rf.pre f.blk).1 _, ?_⟩
 simp only [Act.put, sA, sB, sC]
 refine tV (Rf.pre f.blk) 15 rfl rfl ⟨.int .i64 tl, fun v1 hv1 => by (have hq := HWR.out; go_simp), ?_⟩
 simp only [Act.put, sA, sB, sC]
 refine tV (Rf.pre f.blk) 16 rfl rfl ⟨_, fun v h => by (go_simp; rfl), ?_⟩; simp only [Act.put, sA, sB, sC]
 refine tV (Rf.pre f.blk) 17 rfl rfl ⟨_, fun v h => by (go_simp; rfl), ?_⟩; simp only [Act.put, sA, sB, sC]
 refine tV (Rf.pre f.blk) 18 rfl rfl ⟨_, fun v h => by (go_simp; rfl), ?_⟩; simp only [Act.put, sA, sB, sC]
 clear k1 k2
 have kc := block_cell (later_keep ld HF.out.2)
 have fz := block_frozen (later_keep ld HF.out.2)
 unfold flc at kc
 refine anyT_one 19 rfl (by kernel_rfl) rfl ?_
 unfold Oper.wp
 go_simp
 refine ⟨Rf.set _ _ (.inl rfl), ?_⟩
 have c1 := heap_set1 (later_keep ld HF.out.2) 12 (.int .i64 st)
 have kc2 := block_cell c1
 have fz2 := block_frozen c1
 clear kc fz
 refine tV (Rf.pre f.blk) 20 rfl rfl ⟨_, fun v h => by (go_simp; rfl), ?_⟩; simp only [Act.put, sA, sB, sC]
 refine tV (Rf.pre f.blk) 21 rfl rfl ⟨_, fun v h => by (go_simp; rfl), ?_⟩; simp only [Act.put, sA, sB, sC]
 refine tV (Rf.pre f.blk) 22 rfl rfl ⟨_, fun v h => by (go_simp; rfl), ?_⟩; simp only [Act.put, sA, sB, sC]
 refine anyT_one 23 rfl (by kernel_rfl) rfl ?_
 unfold Oper.wp
 go_simp
 refine ⟨Rf.set _ _ (.inr rfl), ?_⟩
 refine anyT_done (by kernel_rfl) ?_
 have c2 := heap_set1 c1 13 (.int .i64 tl)
 have hbb : But (fun x => x = f.blk) w ((w1.setCell ⟨f.blk, 12, none⟩ (.int .i64 st)).setCell ⟨f.blk, 13, none⟩ (.int .i64 tl)) := ((But.of (E := fun x => x = f.blk) ld).setCell (p := ⟨f.blk, 12, none⟩) (show _ = _ from rfl) (.int .i64 st)).setCell (p := ⟨f.blk, 13, none⟩) (show _ = _ from rfl) (.int .i64 tl)
 clear kc2 fz2 c1
 generalize (w1.setCell ⟨f.blk, 12, none⟩ (.int .i64 st)).setCell ⟨f.blk, 13, none⟩ (.int .i64 tl) = w2 at *
 have H1 := hide (HSF.out w2 hbb c2)
 have M1 : Hid (KG base w w2) := KG.of_but hbb (fun k e => by
  have e' : k = f.blk := e
  refine ⟨by rw [e']; exact HF.out.1, fun o ho => ?_⟩
  rw [e', HF.out.2] at ho
  cases ho
  show gTs.contains _ = true
  decide)
 clear HSF HGF HG HF hbb c2 ld hu HWR
 go_upto_region 1 with fail
 refine anyT_begin (R := KX) 15 rfl (by kernel_rfl) ?_
 have ld : Later w2 w2.drew := Later.drew w2
 generalize w2.drew = w2d at *
 have HD1 := hide (H1.out.later ld)
 have MD1 := hide (M1.out.trans (KG.of_later ld))
 clear H1 M1 ld
 have hbd : base ≤ w2d.heap.size := Nat.le_trans hbs MD1.out.size
 have k1 : ∀ v, KX w2d v → ∀ j, v.cell? ⟨g, j, none⟩ = (gfc s).toArray[j]? := fun v hv => block_cell (hv g _ _ _ HD1.out.gc (by decide) (by decide))
 have k2 : ∀ v, KX w2d v → ∀ j, v.cell? ⟨f.blk, j, none⟩ = (flc (f.at st tl)).toArray[j]? := fun v hv => block_cell (hv f.blk _ _ _ (HD1.out.fb (f.at st tl) (mem_withF hf rfl)).2 (by decide) (by decide))
 unfold gfc at k1
 unfold flc Fl.at at k2
 refine tV KX.pre 0 rfl rfl ⟨_, fun v h => by (go_simp; rfl), ?_⟩; simp only [Act.put, sA, sB, sC]
 refine tV KX.pre 1 rfl rfl ⟨_, fun v h => by (go_simp; rfl), ?_⟩; simp only [Act.put, sA, sB, sC]
 refine tV KX.pre 2 rfl rfl ⟨_, fun v h => by (go_simp; rfl), ?_⟩; simp only [Act.put, sA, sB, sC]
 refine tV KX.pre 3 rfl rfl ⟨_, fun v h => by (go_simp; rfl), ?_⟩; simp only [Act.put, sA, sB, sC]
 refine tV KX.pre 4 rfl rfl ⟨_, fun v h => by (go_simp; rfl), ?_⟩; simp only [Act.put, sA, sB, sC]
 refine tV KX.pre 5 rfl rfl ⟨_, fun v h => by (go_simp; rfl), ?_⟩; simp only [Act.put, sA, sB, sC]
 refine tV KX.pre 6 rfl rfl ⟨_, fun v h => by (go_simp; rfl), ?_⟩; simp only [Act.put, sA, sB, sC]
 refine tV KX.pre 7 rfl rfl ⟨_, fun v h => by (go_simp; rfl), ?_⟩; simp only [Act.put, sA, sB, sC]
 refine tV KX.pre 8 rfl rfl ⟨_, fun v h => by (go_simp; rfl), ?_⟩; simp only [Act.put, sA, sB, sC]
 refine tV KX.pre 9 rfl rfl ⟨_, fun v h => by (go_simp; rfl), ?_⟩; simp only [Act.put, sA, sB, sC]
 refine tV KX.pre 10 rfl rfl ⟨_, fun v h => by (go_simp; rfl), ?_⟩; simp only [Act.put, sA, sB, sC]
 refine tV KX.pre 11 rfl rfl ⟨_, fun v h => by (go_simp; rfl), ?_⟩; simp only [Act.put, sA, sB, sC]
 refine tV KX.pre 12 rfl rfl ⟨_, fun v h => by (go_simp; rfl), ?_⟩; simp only [Act.put, sA, sB, sC]
 refine tV KX.pre 13 rfl rfl ⟨_, fun v h => by (go_simp; rfl), ?_⟩; simp only [Act.put, sA, sB, sC]
 clear k1 k2
 refine anyT_one 14 rfl (by kernel_rfl) rfl ?_
 refine wp_enter 196 #[.pointer (some ⟨s.gt, 0, none⟩), .agg #[.int .u8 f.o.pr, .int .u32 f.o.src, .int .u32 f.o.dst, .int .u16 f.o.sp, .int .u16 f.o.dp], .int .i64 tl] (by go_simp) ?_
 refine (moveF base s.gt s.cnt (s.trn, s.rw).1 (s.trn, s.rw).2 f.o tl w2d HD1.out.tb hBo hbd (by exact ⟨htr.1, by show s.trn ≤ 1000000; omega⟩)).mono ?_
 rintro e w3 ⟨ev, rfl, hT, hk, hm, hg⟩
 refine ⟨KX.of hk, ?_⟩
 simp only [Act.put, sA, sB, sC]
 refine anyT_done (by kernel_rfl) ?_
 have H2 := hide (HD1.out.moved hk hm hT)
 have M2 := hide (MD1.out.trans hg)
 clear HD1 MD1 hT hk hm hg hbd
 go_upto_region 2 with fail
 refine anyT_begin (R := KX) 15 rfl (by kernel_rfl) ?_
 have ld : Later w3 w3.drew := Later.drew w3
 generalize w3.drew = w3d at *
 have HD2 := hide (H2.out.later ld)
 have MD2 := hide (M2.out.trans (KG.of_later ld))
 clear H2 M2 ld
 have hbd : base ≤ w3d.heap.size := Nat.le_trans hbs MD2.out.size
 have k1 : ∀ v, KX w3d v → ∀ j, v.cell? ⟨g, j, none⟩ = (gfc s).toArray[j]? := fun v hv => block_cell (hv g _ _ _ HD2.out.gc (by decide) (by decide))
 have k2 : ∀ v, KX w3d v → ∀ j, v.cell? ⟨f.blk, j, none⟩ = (flc (f.at st tl)).toArray[j]? := fun v hv => block_cell (hv f.blk _ _ _ (HD2.out.fb (f.at st tl) (mem_withF hf rfl)).2 (by decide) (by decide))
 unfold gfc at k1
 unfold flc Fl.at at k2
 refine tV KX.pre 0 rfl rfl ⟨_, fun v h => by (go_simp; rfl), ?_⟩; simp only [Act.put, sA, sB, sC]
 refine tV KX.pre 1 rfl rfl ⟨_, fun v h => by (go_simp; rfl), ?_⟩; simp only [Act.put, sA, sB, sC]
 refine tV KX.pre 2 rfl rfl ⟨_, fun v h => by (go_simp; rfl), ?_⟩; simp only [Act.put, sA, sB, sC]
 refine tV KX.pre 3 rfl rfl ⟨_, fun v h => by (go_simp; rfl), ?_⟩; simp only [Act.put, sA, sB, sC]
 refine tV KX.pre 4 rfl rfl ⟨_, fun v h => by (go_simp; rfl), ?_⟩; simp only [Act.put, sA, sB, sC]
 refine tV KX.pre 5 rfl rfl ⟨_, fun v h => by (go_simp; rfl), ?_⟩; simp only [Act.put, sA, sB, sC]
 refine tV KX.pre 6 rfl rfl ⟨_, fun v h => by (go_simp; rfl), ?_⟩; simp only [Act.put, sA, sB, sC]
 refine tV KX.pre 7 rfl rfl ⟨_, fun v h => by (go_simp; rfl), ?_⟩; simp only [Act.put, sA, sB, sC]
 refine tV KX.pre 8 rfl rfl ⟨_, fun v h => by (go_simp; rfl), ?_⟩; simp only [Act.put, sA, sB, sC]
 refine tV KX.pre 9 rfl rfl ⟨_, fun v h => by (go_simp; rfl), ?_⟩; simp only [Act.put, sA, sB, sC]
 refine tV KX.pre 10 rfl rfl ⟨_, fun v h => by (go_simp; rfl), ?_⟩; simp only [Act.put, sA, sB, sC]
 refine tV KX.pre 11 rfl rfl ⟨_, fun v h => by (go_simp; rfl), ?_⟩; simp only [Act.put, sA, sB, sC]
 refine tV KX.pre 12 rfl rfl ⟨_, fun v h => by (go_simp; rfl), ?_⟩; simp only [Act.put, sA, sB, sC]
 refine tV KX.pre 13 rfl rfl ⟨_, fun v h => by (go_simp; rfl), ?_⟩; simp only [Act.put, sA, sB, sC]
 clear k1 k2
 refine anyT_one 14 rfl (by kernel_rfl) rfl ?_
 refine wp_enter 196 #[.pointer (some ⟨s.gt, 0, none⟩), .agg #[.int .u8 f.r.pr, .int .u32 f.r.src, .int .u32 f.r.dst, .int .u16 f.r.sp, .int .u16 f.r.dp], .int .i64 tl] (by go_simp) ?_
 refine (moveF base s.gt s.cnt (mvT f.o tl (s.trn, s.rw)).1 (mvT f.o tl (s.trn, s.rw)).2 f.r tl w3d HD2.out.tb hBr hbd (by have := mvT_fst f.o tl (s.trn, s.rw); simp only at this; omega)).mono ?_
 rintro e w4 ⟨ev, rfl, hT, hk, hm, hg⟩
 refine ⟨KX.of hk, ?_⟩
 simp only [Act.put, sA, sB, sC]
 refine anyT_done (by kernel_rfl) ?_
 have H3 := hide (HD2.out.moved hk hm hT)
 have M3 := hide (MD2.out.trans hg)
 clear HD2 MD2 hT hk hm hg hbd
 go_wp2_with fail
 go_end0
 refine ⟨rfl, M3.out, ?_⟩
 have h3 := H3.out
 rw [HTL.out] at h3
 exact h3
def noh : Value := .iface 383 (.agg #[])
theorem helper_udp (o r : Tu) (i sd st0 tl0 ms : Int) (w : World) (hp : o.pr = 17) (h1 : (r.sp == 5060) = false) (h2 : (o.sp == 5060) = false) :
  Calls Tryz.prog 261 #[.agg #[.int .i64 i, .int .u8 o.pr, .int .u32 o.src, .int .u32 o.dst, .int .u16 o.sp, .int .u16 o.dp, .int .u8 r.pr, .int .u32 r.src, .int .u32 r.dst, .int .u16 r.sp, .int .u16 r.dp, .int .i64 sd, .int .i64 st0, .int .i64 tl0, .int .i64 ms]] w fun e w' => e = .returned noh ∧ Later w w' := by
 have l0 := later_allocG w (.cells #[.int .i64 i, .int .u8 o.pr, .int .u32 o.src, .int .u32 o.dst, .int .u16 o.sp, .int .u16 o.dp, .int .u8 r.pr, .int .u32 r.src, .int .u32 r.dst, .int .u16 r.sp, .int .u16 r.dp, .int .i64 sd, .int .i64 st0, .int .i64 tl0, .int .i64 ms] 88)
 have C0 := hide (heap_alloc_new w (.cells #[.int .i64 i, .int .u8 o.pr, .int .u32 o.src, .int .u32 o.dst, .int .u16 o.sp, .int .u16 o.dp, .int .u8 r.pr, .int .u32 r.src, .int .u32 r.dst, .int .u16 r.sp, .int .u16 r.dp, .int .i64 sd, .int .i64 st0, .int .i64 tl0, .int .i64 ms] 88))
 have HP := hide hp
 clear hp
 go_enter Tryz.func261, Tryz.ntmps261
 go_upto_region 1 with fail
 generalize w.alloc _ = w1 at *
 generalize w.heap.size = gx at *
 have k0 := block_cell C0.out
 rw [HP.out] at k0
 go_wp2_with fail
 go_ret
 exact ⟨rfl, l0⟩
theorem first_st (p : Int) (w : World) (hp : (p == 6) = false) : Calls Tryz.prog 263 #[.int .u8 p] w fun e w' => e = .returned (.int .i64 8) ∧ w' = w := by
 go_enter Tryz.func263, Tryz.ntmps263
 go_wp2_with fail
 go_ret
 exact ⟨rfl, rfl⟩
def ptT (t : Tu) (id till : Int) (q : Int × Int × (Nat → List Rw)) : Int × Int × (Nat → List Rw) := if pute 128 q.1 q.2.2 t.pr t.src t.dst t.sp t.dp till = 0 then (q.1 + 1, q.2.1 + 1, addL q.2.2 (bkT t) ⟨t.pr, t.src, t.dst, kyp t.pr t.sp, t.dp, id, till, q.2.1 + 1⟩) else q
theorem ptT_bd (t : Tu) (id till : Int) (q : Int × Int × (Nat → List Rw)) : q.1 ≤ (ptT t id till q).1 ∧ (ptT t id till q).1 ≤ q.1 + 1 ∧ q.2.1 ≤ (ptT t id till q).2.1 ∧ (ptT t id till q).2.1 ≤ q.2.1 + 1 ∧ ∀ i, ((ptT t id till q).2.2 i).length ≤ (q.2.2 i).length + 1 := by
 unfold ptT
 split
 ·refine ⟨by show q.1 ≤ q.1 + 1; omega, Int.le_refl _, by show q.2.1 ≤ q.2.1 + 1; omega, Int.le_refl _, fun i => ?_⟩
  show (addL q.2.2 _ _ i).length ≤ _
  unfold addL
  split
  ·rename_i e; simp [e]
  ·omega
 ·exact ⟨by omega, by omega, by omega, by omega, fun i => by omega⟩
theorem putF (base gt : Nat) (cnt trn : Int) (rw : Nat → List Rw) (t : Tu) (id till : Int) (w : World) (hT : TB base w gt 128 cnt trn rw) (hB : TuB t) (hbs : base ≤ w.heap.size) (htr : 0 ≤ trn ∧ trn ≤ 1000000) (hcn : 0 ≤ cnt ∧ cnt ≤ 4096) (hln : ∀ i, (rw i).length ≤ 5000) :
  Calls Tryz.prog 262 #[.pointer (some ⟨gt, 0, none⟩), .agg #[.int .u8 t.pr, .int .u32 t.src, .int .u32 t.dst, .int .u16 t.sp, .int .u16 t.dp], .int .i64 id, .int .i64 till] w fun e w' => ∃ ev : Int, e = .returned (.int .i64 ev) ∧ TB base w' gt 128 (ptT t id till (cnt, trn, rw)).1 (ptT t id till (cnt, trn, rw)).2.1 (ptT t id till (cnt, trn, rw)).2.2 ∧ KT w w' ∧ KM w w' ∧ KG base w w' := by
 obtain ⟨vs, hTv⟩ := hT
 refine (tput_any base gt 128 cnt trn vs rw t.pr t.src t.dst t.sp t.dp id till w hTv hB.1 hB.2.1 hB.2.2.1 hB.2.2.2 hbs htr hcn (by omega) (hln _)).mono ?_
 rintro e w' ⟨he, ⟨h0, h1, h2⟩ | ⟨h0, h1, h2⟩⟩
 ·refine ⟨_, he, ?_, KT.of_later h2, KM.of_later h2, KG.of_later h2⟩
  have e2 : ptT t id till (cnt, trn, rw) = (cnt, trn, rw) := by unfold ptT; rw [if_neg h0]
  rw [e2]
  exact ⟨vs, h1⟩
 ·have ty := hTv.typed (bki t.pr t.src t.dst t.sp t.dp) (bki_lt _ _ _ _ _)
  refine ⟨_, he, ?_, KT.of_but h2 ty, KM.of_but h2 ty, KG.of_but h2 (fun k e => ?_)⟩
  ·have e2 : ptT t id till (cnt, trn, rw) = (cnt + 1, trn + 1, addL rw (bkT t) ⟨t.pr, t.src, t.dst, kyp t.pr t.sp, t.dp, id, till, trn + 1⟩) := by unfold ptT; rw [if_pos h0]
   rw [e2]
   exact h1
  ·refine ⟨?_, fun ob ho => ?_⟩
   ·rcases e with e | e
    ·rw [e]; exact hTv.2.1
    ·rcases (hTv.2.2.2.1 _ (bki_lt t.pr t.src t.dst t.sp t.dp)).2 with ⟨e2, _⟩ | ⟨g', cp, cur, e2, hb', _⟩
     ·rw [e2] at e; cases e
     ·rw [e2] at e; cases e; exact hb'
   ·obtain ⟨cur, tt, fz, hh, ht⟩ := ty k e
    rw [hh] at ho
    cases ho
    show gTs.contains _ = true
    rcases ht with ht | ht <;> (rw [ht]; decide)
theorem GF.tabled {base g : Nat} {W W' : World} {s : Gf} (h : GF base W g s) (hk : KT W W') (hb : KM W W') {cnt trn : Int} {rw : Nat → List Rw} (ht : TB base W' s.gt 128 cnt trn rw) : GF base W' g { s with cnt := cnt, trn := trn, rw := rw } := by
 have ho : ∀ {e : TypeId} {size : Nat} {v : Value} {n : Nat} {xs : List Value}, e ≠ 142 → e ≠ 177 → W.ownsRow base e size v n xs → W'.ownsRow base e size v n xs := fun h1 h2 q => by
  obtain ⟨q1, q2 | ⟨b, cap, cur', e', hb', hh, r⟩⟩ := q
  ·exact ⟨q1, .inl q2⟩
  ·exact ⟨q1, .inr ⟨b, cap, cur', e', hb', hk _ _ _ _ hh h1 h2, r⟩⟩
 exact ⟨h.bs, hk _ _ _ _ h.gc (by decide) (by decide), ⟨h.rl.1, hk _ _ _ _ h.rl.2.1 (by decide) (by decide), ho (by decide) (by decide) h.rl.2.2⟩, ht, ⟨h.bl.1, hk _ _ _ _ h.bl.2.1 (by decide) (by decide), ho (by decide) (by decide) h.bl.2.2⟩, hb.map h.fl, hb.map h.pl, h.ne, h.bf, h.fm, h.pm, fun f hf => ⟨(h.fb f hf).1, hk _ _ _ _ (h.fb f hf).2 (by decide) (by decide)⟩, fun p hp => ⟨(h.pb p hp).1, (h.pb p hp).2.1, hk _ _ _ _ (h.pb p hp).2.2 (by decide) (by decide)⟩⟩
def Gf.begun (s : Gf) (f : Fl) : Gf := { s with bg := s.bg + 1, fs := s.fs ++ [f], fe := s.fe.push ⟨.int .i64 f.id, .pointer (some ⟨f.blk, 0, none⟩), s.cf⟩, cf := s.cf + 1 }
def opM (s : Gf) (f : Fl) : Int × Int × (Nat → List Rw) := ptT f.r f.id s.now (ptT f.o f.id s.now (s.cnt, s.trn, s.rw))
def opS (s : Gf) (f : Fl) : Gf := { s.begun f with cnt := (opM s f).1, trn := (opM s f).2.1, rw := (opM s f).2.2 }
theorem GF.count {base g : Nat} {W : World} {s : Gf} (h : GF base W g s) (n : Int) : GF base (W.setCell ⟨g, 3, none⟩ (.int .i64 n)) g { s with bg := n } := by
 have hb : But (fun b => b = g) W (W.setCell ⟨g, 3, none⟩ (.int .i64 n)) := (But.refl (fun b => b = g) _).setCell (show _ = _ from rfl) _
 have hE := TE.one h.gc
 exact ⟨h.bs, heap_set1 h.gc 3 (.int .i64 n), ⟨h.rl.1, hE.keep hb h.rl.2.1 (isT_no (by decide) _ _), hE.own hb h.rl.2.2 (isT_no (by decide))⟩, hE.table hb h.tb (isT_no (by decide)) (isT_no (by decide)), ⟨h.bl.1, hE.keep hb h.bl.2.1 (isT_no (by decide) _ _), hE.own hb h.bl.2.2 (isT_no (by decide))⟩, hE.keep hb h.fl (isT_map _ _), hE.keep hb h.pl (isT_map _ _), h.ne, h.bf, h.fm, h.pm, fun f hf => ⟨(h.fb f hf).1, hE.keep hb (h.fb f hf).2 (isT_no (by decide) _ _)⟩, fun p hp => ⟨(h.pb p hp).1, (h.pb p hp).2.1, hE.keep hb (h.pb p hp).2.2 (isT_no (by decide) _ _)⟩⟩
theorem findG_no (z : Int) : ∀ (l : List MapEntry) (i : Nat), (∀ e ∈ l, ∃ k : Int, e.key = .int .i64 k ∧ k ≠ z) → Instr.findNow (.int .i64) (.int .i64 z) l i = some none
 | [], _, _ => rfl
 | e :: l, i, h => by
  obtain ⟨k, hk, hne⟩ := h e (by simp)
  have h1 : Instr.sameNow (.int .i64) (.int .i64 z) e.key = some false := by rw [hk]; simp [Instr.sameNow, hne, Ne.symm hne]
  unfold Instr.findNow
  rw [h1]
  exact findG_no z l (i + 1) (fun e' he' => h e' (by simp [he']))
theorem fe_keys {base g : Nat} {W : World} {s : Gf} (h : GF base W g s) (z : Int) (hz : ∀ x ∈ s.fs, x.id ≠ z) : ∀ e ∈ s.fe.toList, ∃ k : Int, e.key = .int .i64 k ∧ k ≠ z := fun e he => by
 have h1 : (e.key, e.val) ∈ s.fe.toList.map (fun e => (e.key, e.val)) := List.mem_map.2 ⟨e, he, rfl⟩
 rw [h.fm] at h1
 obtain ⟨x, hx, e2⟩ := List.mem_map.1 h1
 have e3 : (Value.int .i64 x.id) = e.key := congrArg Prod.fst e2
 exact ⟨x.id, e3.symm, hz x hx⟩
theorem GF.written {base g : Nat} {W W' : World} {s : Gf} (h : GF base W g s) (f : Fl) (hid : f.id = s.bg - 1) (hb : But (fun b => b = s.gf) W W') (hm : W'.heap[s.gf]? = some (.map (s.fe.push ⟨.int .i64 f.id, .pointer (some ⟨f.blk, 0, none⟩), s.cf⟩) (s.cf + 1))) (hf : base ≤ f.blk ∧ W.heap[f.blk]? = some (.cells (flc f).toArray 93 (0, 0))) : GF base W' g { s with fs := s.fs ++ [f], fe := s.fe.push ⟨.int .i64 f.id, .pointer (some ⟨f.blk, 0, none⟩), s.cf⟩, cf := s.cf + 1 } := by
 have hk : ∀ (b : Nat) (cur : Array Value) (t : TypeId) (fz : Nat × Nat), W.heap[b]? = some (.cells cur t fz) → W'.heap[b]? = some (.cells cur t fz) := fun b cur t fz hh => (hb.block b (bl9 hh) (fun e => by have e' : b = s.gf := e; have h2 := h.fl; rw [← e', hh] at h2; cases h2)).trans hh
 have ho : ∀ {bs : Nat} {e : TypeId} {size : Nat} {v : Value} {n : Nat} {xs : List Value}, W.ownsRow bs e size v n xs → W'.ownsRow bs e size v n xs := fun h => by
  obtain ⟨q1, q2 | ⟨b, cap, cur', e', hb', hh, r⟩⟩ := h
  ·exact ⟨q1, .inl q2⟩
  ·exact ⟨q1, .inr ⟨b, cap, cur', e', hb', hk _ _ _ _ hh, r⟩⟩
 obtain ⟨vs, t1, t2, t3, t4, t5⟩ := h.tb
 refine ⟨h.bs, hk _ _ _ _ h.gc, ⟨h.rl.1, hk _ _ _ _ h.rl.2.1, ho h.rl.2.2⟩, ⟨vs, t1, t2, hk _ _ _ _ t3, fun i hi => ho (t4 i hi), t5⟩, ⟨h.bl.1, hk _ _ _ _ h.bl.2.1, ho h.bl.2.2⟩, hm, ?_, h.ne, h.bf, ?_, h.pm, fun x hx => ?_, fun p hp => ⟨(h.pb p hp).1, (h.pb p hp).2.1, hk _ _ _ _ (h.pb p hp).2.2⟩⟩
 ·exact (hb.block s.gp (bl9 h.pl) (fun e => h.ne e.symm)).trans h.pl
 ·show (s.fe.push _).toList.map (fun e => (e.key, e.val)) = (s.fs ++ [f]).map flE
  rw [Array.toList_push, List.map_append, List.map_append, h.fm]
  rfl
 ·rcases List.mem_append.1 hx with hx | hx
  ·exact ⟨(h.fb x hx).1, hk _ _ _ _ (h.fb x hx).2⟩
  ·have e : x = f := by simpa using hx
   subst e
   exact ⟨hf.1, hk _ _ _ _ hf.2⟩
def newF (s : Gf) (b : Nat) (o r : Tu) (sd st0 tl0 ms : Int) (hv : Value) : Fl := ⟨b, s.bg, o, r, sd, st0, tl0, ms, hv, noh⟩
theorem ins_flow {w : World} {b c : Nat} {es : Array MapEntry} (hb : w.heap[b]? = some (.map es c)) (z : Int) (v : Value) (hf : Instr.findNow (.int .i64) (.int .i64 z) es.toList 0 = some none) :
  ∃ w', (Instr.mapUpdate 74 (.map (some b)) (.int .i64 z) v).run Tryz.prog w = .ok () w' ∧ w'.heap[b]? = some (.map (es.push ⟨.int .i64 z, v, c⟩) (c + 1)) ∧ But (fun g => g = b) w w' := by
 have hc : (Instr.checkKey false 10000 3 (.int .i64 z)).run Tryz.prog w = .ok () w := MapKept.run_checkKey (k := .int .i64 z) Tryz.underlying3 (by simp [MapKept.IsKey]) false 9999
 have hlt := (bl9 hb)
 refine ⟨{ w with heap := w.heap.setIfInBounds b (.map (es.push ⟨.int .i64 z, v, c⟩) (c + 1)) }, ?_, ?_, rfl, rfl, rfl, by simp, fun i hi he => ?_⟩
 ·simp [Instr.mapUpdate, run_underlying Tryz.underlying74, MapKept.run_getObj_map hb, hc, MapKept.run_findKey Tryz.underlying3 hf, MapKept.run_setObj_map _ hb, Result.andThen]
 ·simp [hlt]
 ·have he' : i ≠ b := he
  rw [Array.getElem?_setIfInBounds_ne (by omega)]
def OpQ (base : Nat) (w w' : World) (g : Nat) (s : Gf) (o r : Tu) (sd st0 tl0 ms : Int) (hv : Value) (e : Ending) : Prop := ∃ f : Fl, w.heap.size ≤ f.blk ∧ e = .returned (.pointer (some ⟨f.blk, 0, none⟩)) ∧ KG base w w' ∧ f.id = s.bg ∧ f.o = o ∧ f.r = r ∧ f.side = sd ∧ f.ms = ms ∧ f.hv = hv ∧ f.hp = noh ∧ GF base w' g (bcS (opS s f) f 8)
theorem open_udp (base g : Nat) (s : Gf) (o r : Tu) (i0 sd st0 tl0 ms : Int) (ha : Option Addr) (hn hc : Nat) (w : World) (h : GF base w g s) (hp : o.pr = 17) (h1 : (r.sp == 5060) = false) (h2 : (o.sp == 5060) = false) (hbs : base ≤ w.heap.size) (hBo : TuB o) (hBr : TuB r) (htr : 0 ≤ s.trn ∧ s.trn ≤ 900000) (hnw : 0 ≤ s.now ∧ s.now ≤ 549755813888) (hbg : 0 ≤ s.bg ∧ s.bg ≤ 1000000) (hid : ∀ x ∈ s.fs, x.id ≠ s.bg) (hcn : 0 ≤ s.cnt ∧ s.cnt ≤ 1000) (hln : ∀ i, (s.rw i).length ≤ 4000) :
  Calls Tryz.prog 231 #[.pointer (some ⟨g, 0, none⟩), .agg #[.int .i64 i0, .int .u8 o.pr, .int .u32 o.src, .int .u32 o.dst, .int .u16 o.sp, .int .u16 o.dp, .int .u8 r.pr, .int .u32 r.src, .int .u32 r.dst, .int .u16 r.sp, .int .u16 r.dp, .int .i64 sd, .int .i64 st0, .int .i64 tl0, .int .i64 ms], .slice ha hn hc] w fun e w' => OpQ base w w' g s o r sd st0 tl0 ms (.slice ha hn hc) e := by
 have l0 := later_allocG w (.cells #[.int .i64 i0, .int .u8 o.pr, .int .u32 o.src, .int .u32 o.dst, .int .u16 o.sp, .int .u16 o.dp, .int .u8 r.pr, .int .u32 r.src, .int .u32 r.dst, .int .u16 r.sp, .int .u16 r.dp, .int .i64 sd, .int .i64 st0, .int .i64 tl0, .int .i64 ms] 88)
 have C0 := hide (heap_alloc_new w (.cells #[.int .i64 i0, .int .u8 o.pr, .int .u32 o.src, .int .u32 o.dst, .int .u16 o.sp, .int .u16 o.dp, .int .u8 r.pr, .int .u32 r.src, .int .u32 r.dst, .int .u16 r.sp, .int .u16 r.dp, .int .i64 sd, .int .i64 st0, .int .i64 tl0, .int .i64 ms] 88))
 have HG := hide (h.later l0)
 have HID := hide (fe_keys h s.bg hid)
 have HBF := hide (fun x (hx : x ∈ s.fs) => (Array.getElem?_eq_some_iff.1 (h.fb x hx).2).1)
 have hP6 : (o.pr == 6) = false := by rw [hp]; decide
 have HHP := hide (fun W => helper_udp o r s.bg sd st0 tl0 ms W hp h1 h2)
 have HFS := hide (fun W => first_st o.pr W hP6)
 have hwr : IntKind.i64.wrap (s.bg + 1) = s.bg + 1 := wrapi _ (by omega) (by omega)
 have HWR := hide hwr
 clear h hp h1 h2 hP6 hwr hid
 go_enter Tryz.func231, Tryz.ntmps231
 go_upto_region 1 with fail
 generalize w.alloc _ = w1 at *
 generalize hgx : w.heap.size = gx at C0 ⊢
 have kg := block_cell HG.out.gc
 have fg := block_frozen HG.out.gc
 unfold gfc at kg
 have kx0 := block_cell C0.out
 have fx0 := block_frozen C0.out
 go_upto_region 3 with fail
 have c1 := heap_set1 C0.out 0 (.int .i64 s.bg)
 have hgg : g ≠ gx := fun e => by
  have q1 := HG.out.gc
  have q2 := C0.out
  rw [← e, q1] at q2
  injection q2 with q3
  injection q3 with q4 q5 q6
  exact absurd q5 (by decide)
 have hA := HG.out.other (TE.one C0.out) ((But.refl (fun b => b = gx) w1).setCell (p := ⟨gx, 0, none⟩) (show _ = _ from rfl) (.int .i64 s.bg)) (by decide)
 have hB1 := hA.count (s.bg + 1)
 have c2 : ((w1.setCell ⟨gx, 0, none⟩ (.int .i64 s.bg)).setCell ⟨g, 3, none⟩ (.int .i64 (s.bg + 1))).heap[gx]? = some (.cells #[.int .i64 s.bg, .int .u8 o.pr, .int .u32 o.src, .int .u32 o.dst, .int .u16 o.sp, .int .u16 o.dp, .int .u8 r.pr, .int .u32 r.src, .int .u32 r.dst, .int .u16 r.sp, .int .u16 r.dp, .int .i64 sd, .int .i64 st0, .int .i64 tl0, .int .i64 ms] 88) := (((But.refl (fun b => b = g) (w1.setCell ⟨gx, 0, none⟩ (.int .i64 s.bg))).setCell (p := ⟨g, 3, none⟩) (show _ = _ from rfl) (.int .i64 (s.bg + 1))).block gx (bl9 c1) (fun e => hgg e.symm)).trans c1
 have hbb : But (fun b => b = g ∨ b = gx) w ((w1.setCell ⟨gx, 0, none⟩ (.int .i64 s.bg)).setCell ⟨g, 3, none⟩ (.int .i64 (s.bg + 1))) := ((But.of (E := fun b => b = g ∨ b = gx) l0).setCell (p := ⟨gx, 0, none⟩) (.inr rfl) (.int .i64 s.bg)).setCell (p := ⟨g, 3, none⟩) (.inl rfl) (.int .i64 (s.bg + 1))
 have M2 : Hid (KG base w ((w1.setCell ⟨gx, 0, none⟩ (.int .i64 s.bg)).setCell ⟨g, 3, none⟩ (.int .i64 (s.bg + 1)))) := KG.of_but hbb (fun k e => by
  rcases e with e | e
  ·rw [e]
   refine ⟨HG.out.bs, fun ob ho => ?_⟩
   have q := later_keep l0 ho
   rw [HG.out.gc] at q
   cases q
   show gTs.contains _ = true
   decide
  ·rw [e]
   refine ⟨by omega, fun ob ho => ?_⟩
   have := (bl9 ho)
   omega)
 have H2 := hide hB1
 have C2 := hide c2
 clear hbb hB1 c2 hA c1 kg fg kx0 fx0 C0 HG l0
 generalize ((w1.setCell ⟨gx, 0, none⟩ (.int .i64 s.bg)).setCell ⟨g, 3, none⟩ (.int .i64 (s.bg + 1))) = w2 at *
 refine anyT_begin (R := Later) 7 rfl (by kernel_rfl) ?_
 have ld : Later w2 w2.drew := Later.drew w2
 generalize w2.drew = w2d at *
 have k2 : ∀ v, Later w2d v → ∀ j, v.cell? ⟨gx, j, none⟩ = #[.int .i64 s.bg, .int .u8 o.pr, .int .u32 o.src, .int .u32 o.dst, .int .u16 o.sp, .int .u16 o.dp, .int .u8 r.pr, .int .u32 r.src, .int .u32 r.dst, .int .u16 r.sp, .int .u16 r.dp, .int .i64 sd, .int .i64 st0, .int .i64 tl0, .int .i64 ms][j]? := fun v hv => block_cell (later_keep hv (later_keep ld C2.out))
 refine tV Later.pre 0 rfl rfl ⟨_, fun v h => by (go_simp; rfl), ?_⟩; simp only [Act.put, sA, sB, sC]
 refine tV Later.pre 1 rfl rfl ⟨_, fun v h => by (go_simp; rfl), ?_⟩; simp only [Act.put, sA, sB, sC]
 refine tV Later.pre 2 rfl rfl ⟨_, fun v h => by (go_simp; rfl), ?_⟩; simp only [Act.put, sA, sB, sC]
 clear k2
 refine anyT_one 3 rfl (by kernel_rfl) rfl ?_
 refine wp_enter 261 #[.agg #[.int .i64 s.bg, .int .u8 o.pr, .int .u32 o.src, .int .u32 o.dst, .int .u16 o.sp, .int .u16 o.dp, .int .u8 r.pr, .int .u32 r.src, .int .u32 r.dst, .int .u16 r.sp, .int .u16 r.dp, .int .i64 sd, .int .i64 st0, .int .i64 tl0, .int .i64 ms]] (by go_simp) ?_
 refine (HHP.out w2d).mono ?_
 rintro e w3 ⟨rfl, l3⟩
 refine ⟨l3, ?_⟩
 simp only [Act.put, sA, sB, sC]
 unfold noh
 refine tV Later.pre 4 rfl rfl ⟨_, fun v h => by (go_simp; rfl), ?_⟩; simp only [Act.put, sA, sB, sC]
 have la := later_allocG w3 (.cells #[.int .i64 s.bg, .int .u8 o.pr, .int .u32 o.src, .int .u32 o.dst, .int .u16 o.sp, .int .u16 o.dp, .int .u8 r.pr, .int .u32 r.src, .int .u32 r.dst, .int .u16 r.sp, .int .u16 r.dp, .int .i64 sd, .int .i64 st0, .int .i64 tl0, .int .i64 ms, .slice ha hn hc, noh] 93)
 have ca := heap_alloc_new w3 (.cells #[.int .i64 s.bg, .int .u8 o.pr, .int .u32 o.src, .int .u32 o.dst, .int .u16 o.sp, .int .u16 o.dp, .int .u8 r.pr, .int .u32 r.src, .int .u32 r.dst, .int .u16 r.sp, .int .u16 r.dp, .int .i64 sd, .int .i64 st0, .int .i64 tl0, .int .i64 ms, .slice ha hn hc, noh] 93)
 unfold noh at la ca
 have LA := hide la
 have CA := hide ca
 clear la ca
 refine anyT_one 5 rfl (by kernel_rfl) rfl ?_
 unfold Oper.wp
 go_simp
 refine ⟨LA.out, ?_⟩
 generalize w3.alloc _ = w4 at *
 have la := LA.out
 have ca := CA.out
 clear LA CA
 refine tV Later.pre 6 rfl rfl ⟨_, fun v h => by (go_simp; rfl), ?_⟩; simp only [Act.put, sA, sB, sC]
 refine anyT_done (by kernel_rfl) ?_
 have hgn : w.heap.size ≤ w3.heap.size := Nat.le_trans M2.out.size (Nat.le_trans ld.size l3.size)
 generalize hgnn : w3.heap.size = gn at *
 have L4 : Later w2 w4 := ld.trans (l3.trans la)
 have H4 := hide (H2.out.later L4)
 have M4 := hide (M2.out.trans (KG.of_later L4))
 have C4 := hide (later_keep L4 C2.out)
 have D4 := hide ca
 clear H2 M2 C2 ld l3 la ca L4 hgnn
 go_upto_region 4 with fail
 refine anyT_begin (R := But (fun b => b = s.gf)) 8 rfl (by kernel_rfl) ?_
 have ld : Later w4 w4.drew := Later.drew w4
 generalize w4.drew = w5 at *
 have H4d := hide (H4.out.later ld)
 have M4d := hide (M4.out.trans (KG.of_later ld))
 have C4d := hide (later_keep ld C4.out)
 have D4d := hide (later_keep ld D4.out)
 clear H4 M4 C4 D4 ld
 have hnm : ∀ (b : Nat) (cur : Array Value) (t : TypeId) (f : Nat × Nat), w5.heap[b]? = some (.cells cur t f) → ∀ v, But (fun b => b = s.gf) w5 v → v.heap[b]? = some (.cells cur t f) := fun b cur t f hb v hv => (hv.block b (bl9 hb) (fun e => by have e' : b = s.gf := e; have hh := H4d.out.fl; simp only at hh; rw [← e', hb] at hh; cases hh)).trans hb
 have k1 : ∀ v, But (fun b => b = s.gf) w5 v → ∀ j, v.cell? ⟨g, j, none⟩ = (gfc { s with bg := s.bg + 1 }).toArray[j]? := fun v hv => block_cell (hnm _ _ _ _ H4d.out.gc v hv)
 have k2 : ∀ v, But (fun b => b = s.gf) w5 v → ∀ j, v.cell? ⟨gx, j, none⟩ = #[.int .i64 s.bg, .int .u8 o.pr, .int .u32 o.src, .int .u32 o.dst, .int .u16 o.sp, .int .u16 o.dp, .int .u8 r.pr, .int .u32 r.src, .int .u32 r.dst, .int .u16 r.sp, .int .u16 r.dp, .int .i64 sd, .int .i64 st0, .int .i64 tl0, .int .i64 ms][j]? := fun v hv => block_cell (hnm _ _ _ _ C4d.out v hv)
 unfold gfc at k1
 simp only at k1
 refine tV (But.pre (fun b => b = s.gf)) 0 rfl rfl ⟨_, fun v h => by (go_simp; rfl), ?_⟩; simp only [Act.put, sA, sB, sC]
 refine tV (But.pre (fun b => b = s.gf)) 1 rfl rfl ⟨_, fun v h => by (go_simp; rfl), ?_⟩; simp only [Act.put, sA, sB, sC]
 refine tV (But.pre (fun b => b = s.gf)) 2 rfl rfl ⟨_, fun v h => by (go_simp; rfl), ?_⟩; simp only [Act.put, sA, sB, sC]
 refine tV (But.pre (fun b => b = s.gf)) 3 rfl rfl ⟨_, fun v h => by (go_simp; rfl), ?_⟩; simp only [Act.put, sA, sB, sC]
 refine tV (But.pre (fun b => b = s.gf)) 4 rfl rfl ⟨_, fun v h => by (go_simp; rfl), ?_⟩; simp only [Act.put, sA, sB, sC]
 refine tV (But.pre (fun b => b = s.gf)) 5 rfl rfl ⟨_, fun v h => by (go_simp; rfl), ?_⟩; simp only [Act.put, sA, sB, sC]
 refine tV (But.pre (fun b => b = s.gf)) 6 rfl rfl ⟨_, fun v h => by (go_simp; rfl), ?_⟩; simp only [Act.put, sA, sB, sC]
 clear k1 k2
 obtain ⟨w6, hrun, hm6, hb6⟩ := ins_flow (w := w5) (b := s.gf) (c := s.cf) (es := s.fe) H4d.out.fl s.bg (.pointer (some ⟨gn, 0, none⟩)) (findG_no _ _ 0 HID.out)
 refine anyT_one 7 rfl (by kernel_rfl) rfl ?_
 have HB6 := hide hb6
 have HM6 := hide hm6
 clear hb6 hm6
 unfold Oper.wp
 go_simp
 refine ⟨HB6.out, ?_⟩
 refine anyT_done (by kernel_rfl) ?_
 clear hrun
 have hD : base ≤ ((newF s gn o r sd st0 tl0 ms (.slice ha hn hc))).blk ∧ w5.heap[((newF s gn o r sd st0 tl0 ms (.slice ha hn hc))).blk]? = some (.cells (flc (newF s gn o r sd st0 tl0 ms (.slice ha hn hc))).toArray 93 (0, 0)) := ⟨Nat.le_trans hbs hgn, D4d.out⟩
 have H5 : Hid (GF base w6 g (s.begun (newF s gn o r sd st0 tl0 ms (.slice ha hn hc)))) := H4d.out.written (newF s gn o r sd st0 tl0 ms (.slice ha hn hc)) (by show s.bg = s.bg + 1 - 1; omega) HB6.out HM6.out hD
 have M5 : Hid (KG base w w6) := M4d.out.trans (KG.of_but HB6.out (fun k e => by
  have e' : k = s.gf := e
  rw [e']
  refine ⟨H4d.out.bf.1, fun ob ho => ?_⟩
  have hh := H4d.out.fl
  simp only at hh
  rw [hh] at ho
  cases ho
  exact trivial))
 have C5 := hide (hnm _ _ _ _ C4d.out w6 HB6.out)
 clear H4d M4d C4d D4d HB6 HM6 hnm hD
 go_upto_region 5 with fail
 refine anyT_begin (R := KX) 13 rfl (by kernel_rfl) ?_
 have ld : Later w6 w6.drew := Later.drew w6
 generalize w6.drew = w6d at *
 have HD := hide (H5.out.later ld)
 have MD := hide (M5.out.trans (KG.of_later ld))
 have CD := hide (later_keep ld C5.out)
 clear H5 M5 C5 ld
 have hbd : base ≤ w6d.heap.size := Nat.le_trans hbs MD.out.size
 have k1 : ∀ v, KX w6d v → ∀ j, v.cell? ⟨g, j, none⟩ = (gfc (s.begun (newF s gn o r sd st0 tl0 ms (.slice ha hn hc)))).toArray[j]? := fun v hv => block_cell (hv g _ _ _ HD.out.gc (by decide) (by decide))
 have k2 : ∀ v, KX w6d v → ∀ j, v.cell? ⟨gx, j, none⟩ = #[.int .i64 s.bg, .int .u8 o.pr, .int .u32 o.src, .int .u32 o.dst, .int .u16 o.sp, .int .u16 o.dp, .int .u8 r.pr, .int .u32 r.src, .int .u32 r.dst, .int .u16 r.sp, .int .u16 r.dp, .int .i64 sd, .int .i64 st0, .int .i64 tl0, .int .i64 ms][j]? := fun v hv => block_cell (hv gx _ _ _ CD.out (by decide) (by decide))
 unfold gfc Gf.begun at k1
 simp only at k1
 refine tV KX.pre 0 rfl rfl ⟨_, fun v h => by (go_simp; rfl), ?_⟩; simp only [Act.put, sA, sB, sC]
 refine tV KX.pre 1 rfl rfl ⟨_, fun v h => by (go_simp; rfl), ?_⟩; simp only [Act.put, sA, sB, sC]
 refine tV KX.pre 2 rfl rfl ⟨_, fun v h => by (go_simp; rfl), ?_⟩; simp only [Act.put, sA, sB, sC]
 refine tV KX.pre 3 rfl rfl ⟨_, fun v h => by (go_simp; rfl), ?_⟩; simp only [Act.put, sA, sB, sC]
 refine tV KX.pre 4 rfl rfl ⟨_, fun v h => by (go_simp; rfl), ?_⟩; simp only [Act.put, sA, sB, sC]
 refine tV KX.pre 5 rfl rfl ⟨_, fun v h => by (go_simp; rfl), ?_⟩; simp only [Act.put, sA, sB, sC]
 refine tV KX.pre 6 rfl rfl ⟨_, fun v h => by (go_simp; rfl), ?_⟩; simp only [Act.put, sA, sB, sC]
 refine tV KX.pre 7 rfl rfl ⟨_, fun v h => by (go_simp; rfl), ?_⟩; simp only [Act.put, sA, sB, sC]
 refine tV KX.pre 8 rfl rfl ⟨_, fun v h => by (go_simp; rfl), ?_⟩; simp only [Act.put, sA, sB, sC]
 refine tV KX.pre 9 rfl rfl ⟨_, fun v h => by (go_simp; rfl), ?_⟩; simp only [Act.put, sA, sB, sC]
 refine tV KX.pre 10 rfl rfl ⟨_, fun v h => by (go_simp; rfl), ?_⟩; simp only [Act.put, sA, sB, sC]
 refine tV KX.pre 11 rfl rfl ⟨_, fun v h => by (go_simp; rfl), ?_⟩; simp only [Act.put, sA, sB, sC]
 clear k1 k2
 refine anyT_one 12 rfl (by kernel_rfl) rfl ?_
 refine wp_enter 262 #[.pointer (some ⟨s.gt, 0, none⟩), .agg #[.int .u8 o.pr, .int .u32 o.src, .int .u32 o.dst, .int .u16 o.sp, .int .u16 o.dp], .int .i64 s.bg, .int .i64 s.now] (by go_simp) ?_
 refine (putF base s.gt (s.cnt, s.trn, s.rw).1 (s.cnt, s.trn, s.rw).2.1 (s.cnt, s.trn, s.rw).2.2 o s.bg s.now w6d HD.out.tb hBo hbd (by simp only; omega) (by simp only; omega) (fun i => by have := hln i; simp only; omega)).mono ?_
 rintro e w7 ⟨ev, rfl, hT, hk, hm, hg⟩
 refine ⟨KX.of hk, ?_⟩
 simp only [Act.put, sA, sB, sC]
 refine anyT_done (by kernel_rfl) ?_
 have H6 := hide (HD.out.tabled hk hm hT)
 have M6 := hide (MD.out.trans hg)
 have C6 := hide (hk gx _ _ _ CD.out (by decide) (by decide))
 clear HD MD CD hT hk hm hg hbd
 go_upto_region 6 with fail
 refine anyT_begin (R := KX) 13 rfl (by kernel_rfl) ?_
 have ld : Later w7 w7.drew := Later.drew w7
 generalize w7.drew = w7d at *
 have HD := hide (H6.out.later ld)
 have MD := hide (M6.out.trans (KG.of_later ld))
 have CD := hide (later_keep ld C6.out)
 clear H6 M6 C6 ld
 have hbd : base ≤ w7d.heap.size := Nat.le_trans hbs MD.out.size
 have k1 : ∀ v, KX w7d v → ∀ j, v.cell? ⟨g, j, none⟩ = (gfc (s.begun (newF s gn o r sd st0 tl0 ms (.slice ha hn hc)))).toArray[j]? := fun v hv => block_cell (hv g _ _ _ HD.out.gc (by decide) (by decide))
 have k2 : ∀ v, KX w7d v → ∀ j, v.cell? ⟨gx, j, none⟩ = #[.int .i64 s.bg, .int .u8 o.pr, .int .u32 o.src, .int .u32 o.dst, .int .u16 o.sp, .int .u16 o.dp, .int .u8 r.pr, .int .u32 r.src, .int .u32 r.dst, .int .u16 r.sp, .int .u16 r.dp, .int .i64 sd, .int .i64 st0, .int .i64 tl0, .int .i64 ms][j]? := fun v hv => block_cell (hv gx _ _ _ CD.out (by decide) (by decide))
 unfold gfc Gf.begun at k1
 simp only at k1
 refine tV KX.pre 0 rfl rfl ⟨_, fun v h => by (go_simp; rfl), ?_⟩; simp only [Act.put, sA, sB, sC]
 refine tV KX.pre 1 rfl rfl ⟨_, fun v h => by (go_simp; rfl), ?_⟩; simp only [Act.put, sA, sB, sC]
 refine tV KX.pre 2 rfl rfl ⟨_, fun v h => by (go_simp; rfl), ?_⟩; simp only [Act.put, sA, sB, sC]
 refine tV KX.pre 3 rfl rfl ⟨_, fun v h => by (go_simp; rfl), ?_⟩; simp only [Act.put, sA, sB, sC]
 refine tV KX.pre 4 rfl rfl ⟨_, fun v h => by (go_simp; rfl), ?_⟩; simp only [Act.put, sA, sB, sC]
 refine tV KX.pre 5 rfl rfl ⟨_, fun v h => by (go_simp; rfl), ?_⟩; simp only [Act.put, sA, sB, sC]
 refine tV KX.pre 6 rfl rfl ⟨_, fun v h => by (go_simp; rfl), ?_⟩; simp only [Act.put, sA, sB, sC]
 refine tV KX.pre 7 rfl rfl ⟨_, fun v h => by (go_simp; rfl), ?_⟩; simp only [Act.put, sA, sB, sC]
 refine tV KX.pre 8 rfl rfl ⟨_, fun v h => by (go_simp; rfl), ?_⟩; simp only [Act.put, sA, sB, sC]
 refine tV KX.pre 9 rfl rfl ⟨_, fun v h => by (go_simp; rfl), ?_⟩; simp only [Act.put, sA, sB, sC]
 refine tV KX.pre 10 rfl rfl ⟨_, fun v h => by (go_simp; rfl), ?_⟩; simp only [Act.put, sA, sB, sC]
 refine tV KX.pre 11 rfl rfl ⟨_, fun v h => by (go_simp; rfl), ?_⟩; simp only [Act.put, sA, sB, sC]
 clear k1 k2
 refine anyT_one 12 rfl (by kernel_rfl) rfl ?_
 refine wp_enter 262 #[.pointer (some ⟨s.gt, 0, none⟩), .agg #[.int .u8 r.pr, .int .u32 r.src, .int .u32 r.dst, .int .u16 r.sp, .int .u16 r.dp], .int .i64 s.bg, .int .i64 s.now] (by go_simp) ?_
 refine (putF base s.gt (ptT o s.bg s.now (s.cnt, s.trn, s.rw)).1 (ptT o s.bg s.now (s.cnt, s.trn, s.rw)).2.1 (ptT o s.bg s.now (s.cnt, s.trn, s.rw)).2.2 r s.bg s.now w7d HD.out.tb hBr hbd (by have := ptT_bd o s.bg s.now (s.cnt, s.trn, s.rw); simp only at this; omega) (by have := ptT_bd o s.bg s.now (s.cnt, s.trn, s.rw); simp only at this; omega) (fun i => by have h1 := hln i; have h2 := (ptT_bd o s.bg s.now (s.cnt, s.trn, s.rw)).2.2.2.2 i; simp only at h2; omega)).mono ?_
 rintro e w8 ⟨ev, rfl, hT, hk, hm, hg⟩
 refine ⟨KX.of hk, ?_⟩
 simp only [Act.put, sA, sB, sC]
 refine anyT_done (by kernel_rfl) ?_
 have H7 := hide (HD.out.tabled hk hm hT)
 have M7 := hide (MD.out.trans hg)
 have C7 := hide (hk gx _ _ _ CD.out (by decide) (by decide))
 clear HD MD CD hT hk hm hg hbd
 go_upto_region 7 with fail
 have k2 := block_cell C7.out
 have hin : (newF s gn o r sd st0 tl0 ms (.slice ha hn hc)) ∈ (opS s (newF s gn o r sd st0 tl0 ms (.slice ha hn hc))).fs := by show _ ∈ s.fs ++ [_]; simp
 have huq : ∀ x ∈ (opS s (newF s gn o r sd st0 tl0 ms (.slice ha hn hc))).fs, x.blk = ((newF s gn o r sd st0 tl0 ms (.slice ha hn hc))).blk → x = (newF s gn o r sd st0 tl0 ms (.slice ha hn hc)) := fun x hx e => by
  have hx' : x ∈ s.fs ++ [(newF s gn o r sd st0 tl0 ms (.slice ha hn hc))] := hx
  rcases List.mem_append.1 hx' with hx' | hx'
  ·have q1 := HBF.out x hx'
   have q2 : x.blk = gn := e
   omega
  ·simpa using hx'
 have htr2 : 0 ≤ (opS s (newF s gn o r sd st0 tl0 ms (.slice ha hn hc))).trn ∧ (opS s (newF s gn o r sd st0 tl0 ms (.slice ha hn hc))).trn ≤ 999999 := by
  have q1 := ptT_bd o s.bg s.now (s.cnt, s.trn, s.rw)
  have q2 := ptT_bd r s.bg s.now (ptT o s.bg s.now (s.cnt, s.trn, s.rw))
  show 0 ≤ (ptT r s.bg s.now (ptT o s.bg s.now (s.cnt, s.trn, s.rw))).2.1 ∧ (ptT r s.bg s.now (ptT o s.bg s.now (s.cnt, s.trn, s.rw))).2.1 ≤ 999999
  simp only at q1 q2
  omega
 have HBC := hide (become_any base g (opS s (newF s gn o r sd st0 tl0 ms (.slice ha hn hc))) (newF s gn o r sd st0 tl0 ms (.slice ha hn hc)) 8 w8 H7.out hin huq (Nat.le_trans hbs M7.out.size) hBo hBr htr2 hnw)
 clear hin huq htr2 H7
 go_wp2_with fail
 refine (HFS.out w8).mono ?_
 rintro e w9 ⟨rfl, rfl⟩
 go_wp2_with fail
 refine HBC.out.mono ?_
 rintro e w10 ⟨rfl, mk, hG⟩
 clear k2
 go_wp2_with fail
 go_ret
 exact ⟨(newF s gn o r sd st0 tl0 ms (.slice ha hn hc)), hgn, rfl, M7.out.trans mk, rfl, rfl, rfl, rfl, rfl, rfl, rfl, hG⟩
theorem masq_some (base gr : Nat) (vr : Value) (ls : List Ru) (x : Int) (W : World) (mr : Ru) (h : RL 136 base W gr vr ls) (hok : okL ls) (hx : 0 ≤ x ∧ x ≤ 4294967295) (hn : ls.find? (mqB x) = some mr) :
  Calls Tryz.prog 228 #[.pointer (some ⟨gr, 0, none⟩), .int .u32 x] W fun e w' => e = .returned (.tuple #[.agg #[.int .i64 mr.kind, .int .u8 mr.proto, .int .u32 mr.net, .int .i64 mr.bits, .int .u32 mr.tt, .int .u16 mr.port, .int .u32 mr.host, .int .u16 mr.hp], .bool true]) ∧ Later W w' := by
 have := masq_any base (some ⟨gr, 0, none⟩) ls x W (.inr ⟨gr, vr, rfl, h⟩) hok hx
 have e1 : fnd (mqB x) ls = mr := by unfold fnd; rw [hn]; rfl
 have e2 : fdb (mqB x) ls = true := by unfold fdb; rw [hn]; rfl
 rw [e1, e2] at this
 exact this
def MqC (v : Value) (n : Nat) (wx : World) (mr : Ru) : Prop := ∃ gn, v = .pointer (some ⟨gn, 0, none⟩) ∧ n ≤ gn ∧ wx.heap[gn]? = some (.cells #[.int .i64 mr.kind, .int .u8 mr.proto, .int .u32 mr.net, .int .i64 mr.bits, .int .u32 mr.tt, .int .u16 mr.port, .int .u32 mr.host, .int .u16 mr.hp] 35 (0, 0))
def BgQ (base : Nat) (w w' : World) (g : Nat) (s : Gf) (o : Tu) (mr : Ru) (e : Ending) : Prop := ∃ (f : Fl) (pb : Nat), w.heap.size ≤ f.blk ∧ e = .returned (.pointer (some ⟨f.blk, 0, none⟩)) ∧ KG base w w' ∧ f.id = s.bg ∧ f.o = o ∧ f.r = ⟨17, o.dst, mr.tt, o.dp, (tkn s.lo s.hi o.sp.toNat : Int)⟩ ∧ f.side = 0 ∧ f.ms = -1 ∧ f.hp = noh ∧ GF base w' g (bcS (opS (withP s 17 mr.tt pb (wsR (wsOf (nums s.lo s.hi)) (tkn s.lo s.hi o.sp.toNat))) f) f 8)
theorem beginInside_yes (base g : Nat) (s : Gf) (tos id ttl pr src dst : Int) (keep : Bool) (so sd : Value) (side : Int) (x d : Int) (a : Nat) (b : Int) (mr : Ru) (w : World) (h : GF base w g s) (hps : s.ps = []) (hok : okL s.ls) (hmr : s.ls.find? (mqB x) = some mr) (hbs : base ≤ w.heap.size) (hx : 0 ≤ x ∧ x ≤ 4294967295) (hd : 0 ≤ d ∧ d ≤ 4294967295) (ha : a ≤ 65535) (hb : 0 ≤ b ∧ b ≤ 65535) (htt : 0 ≤ mr.tt ∧ mr.tt ≤ 4294967295)
  (h1 : 1 ≤ s.lo) (h2 : s.lo ≤ s.hi) (h3 : s.hi < 65536) (hz : ∀ W, KG base w W → Dz W) (hgz : 1 ≤ w.heap.size) (hs1 : (b == 5060) = false) (hs2 : ((a : Int) == 5060) = false)
  (hk1 : kx 17 x d (a : Int) b s.rw = none) (hk2 : ∀ n : Nat, kx 17 d mr.tt b (n : Int) s.rw = none) (hfs : s.fs.length < 64) (hne : ¬ (x = d ∧ d = mr.tt)) (htr : 0 ≤ s.trn ∧ s.trn ≤ 900000) (hnw : 0 ≤ s.now ∧ s.now ≤ 549755813888) (hbg : 0 ≤ s.bg ∧ s.bg ≤ 1000000) (hid : ∀ y ∈ s.fs, y.id ≠ s.bg) (hcn : 0 ≤ s.cnt ∧ s.cnt ≤ 1000) (hln : ∀ i, (s.rw i).length ≤ 4000) :
  Calls Tryz.prog 193 #[.agg #[.pointer (some ⟨g, 0, none⟩), .int .u8 tos, .int .u16 id, .bool keep, .int .u8 ttl, .int .u8 pr, .int .u32 src, .int .u32 dst, so, sd, .int .i64 side], .agg #[.int .u8 17, .int .u32 x, .int .u32 d, .int .u16 (a : Int), .int .u16 b]] w fun e w' => BgQ base w w' g s ⟨17, x, d, (a : Int), b⟩ mr e := by
 obtain ⟨l0, c0, c1⟩ := alloc2 w (.cells #[.pointer (some ⟨g, 0, none⟩), .int .u8 tos, .int .u16 id, .bool keep, .int .u8 ttl, .int .u8 pr, .int .u32 src, .int .u32 dst, so, sd, .int .i64 side] 149) (.cells #[.int .u8 17, .int .u32 x, .int .u32 d, .int .u16 (a : Int), .int .u16 b] 68)
 have C0 := hide c0
 have C1 := hide c1
 have CG := hide (later_keep l0 h.gc)
 have HG := hide (h.later l0)
 have HMQ := hide (fun W (l : Later w W) => masq_some base s.gr s.vr s.ls x W mr (h.rl.later l) hok hx hmr)
 have HTK := hide (fun W (hh : GF base W g s) (hb' : base ≤ W.heap.size) (k : KG base w W) => gtake_new base g s 17 mr.tt a W hh hps h1 h2 h3 (by omega) hb' (fun V hV => hz V (k.trans (KG.of_but hV (fun q e => by have e' : q = s.gp := e; rw [e']; exact ⟨hh.bf.2, fun ob ho => by have hp := hh.pl; rw [hp] at ho; cases ho; exact trivial⟩)))) (Nat.le_trans hgz k.size))
 obtain ⟨n, hn⟩ : ∃ n, n = tkn s.lo s.hi a := ⟨_, rfl⟩
 have hnr := tkn_rng (wish := a) h2
 have HN := hide hn
 have HNR := hide hnr
 have HPS := hide hps
 have HGL := hide (bl9 h.pl)
 clear c0 c1 h hok hmr hps hz hgz hn hnr
 go_enter Tryz.func193, Tryz.ntmps193
 go_upto_region 1 with fail
 generalize (w.alloc (.cells #[.pointer (some ⟨g, 0, none⟩), .int .u8 tos, .int .u16 id, .bool keep, .int .u8 ttl, .int .u8 pr, .int .u32 src, .int .u32 dst, so, sd, .int .i64 side] 149)).alloc (.cells #[.int .u8 17, .int .u32 x, .int .u32 d, .int .u16 (a : Int), .int .u16 b] 68) = w1 at *
 generalize hgx : w.heap.size = gx at C0 C1 ⊢
 have LW0 : Later w w1 := l0
 go_cut [5, 6] (fun v c wx => MqC v w1.heap.size wx mr ∧ c = .bool true ∧ Hid (Later w1 wx))
 case first =>
  refine wp_calmG ?_
  refine anyU_begin (R1 := Later) (R2 := fun _ _ => True) (D := [12]) 14 rfl (by kernel_rfl) ?_
  have ld : Later w1 w1.drew := Later.drew w1
  generalize w1.drew = Wd at *
  have LWd : Later w Wd := LW0.trans ld
  have q0 : ∀ v1, Later Wd v1 → ∀ j, v1.cell? ⟨gx, j, none⟩ = #[.pointer (some ⟨g, 0, none⟩), .int .u8 tos, .int .u16 id, .bool keep, .int .u8 ttl, .int .u8 pr, .int .u32 src, .int .u32 dst, so, sd, .int .i64 side][j]? := fun v1 hv => block_cell (later_keep (ld.trans hv) C0.out)
  have q1 : ∀ v1, Later Wd v1 → ∀ j, v1.cell? ⟨gx + 1, j, none⟩ = #[.int .u8 17, .int .u32 x, .int .u32 d, .int .u16 (a : Int), .int .u16 b][j]? := fun v1 hv => block_cell (later_keep (ld.trans hv) C1.out)
  have q2 : ∀ v1, Later Wd v1 → ∀ j, v1.cell? ⟨g, j, none⟩ = (gfc s).toArray[j]? := fun v1 hv => block_cell (later_keep (ld.trans hv) CG.out)
  unfold gfc at q2
  refine uV Later.pre 0 [1, 2, 3, 4, 7, 8, 9, 10, 12, 13] rfl (by rfl) (by rfl) (by rfl) ⟨_, fun v h => by (go_simp; rfl), ?_⟩; simp only [Act.put, sA, sB, sC]
  refine uV Later.pre 1 [2, 3, 4, 7, 8, 9, 10, 12, 13] rfl (by rfl) (by rfl) (by rfl) ⟨_, fun v h => by (go_simp; rfl), ?_⟩; simp only [Act.put, sA, sB, sC]
  refine uV Later.pre 2 [3, 4, 7, 8, 9, 10, 12, 13] rfl (by rfl) (by rfl) (by rfl) ⟨_, fun v h => by (go_simp; rfl), ?_⟩; simp only [Act.put, sA, sB, sC]
  refine uV Later.pre 3 [4, 7, 8, 9, 10, 12, 13] rfl (by rfl) (by rfl) (by rfl) ⟨_, fun v h => by (go_simp; rfl), ?_⟩; simp only [Act.put, sA, sB, sC]
  refine uV Later.pre 4 [7, 8, 9, 10, 12, 13] rfl (by rfl) (by rfl) (by rfl) ⟨_, fun v h => by (go_simp; rfl), ?_⟩; simp only [Act.put, sA, sB, sC]
  refine uV Later.pre 5 [6, 7, 8, 9, 10, 12, 13] rfl (by rfl) (by rfl) (by rfl) ⟨_, fun v h => by (go_simp; rfl), ?_⟩; simp only [Act.put, sA, sB, sC]
  refine uV Later.pre 6 [7, 8, 9, 10, 12, 13] rfl (by rfl) (by rfl) (by rfl) ⟨_, fun v h => by (go_simp; rfl), ?_⟩; simp only [Act.put, sA, sB, sC]
  clear q0 q1 q2
  refine anyU_two 7 11 rfl rfl (by kernel_rfl) (by rfl) (by rfl) ?ca ?al
  case ca =>
   refine wp_enter 228 #[.pointer (some ⟨s.gr, 0, none⟩), .int .u32 x] (by go_simp) ?_
   refine (HMQ.out Wd LWd).mono ?_
   rintro e W1 ⟨rfl, l1⟩
   refine ⟨Rj_out (by rfl) l1, ?_⟩
   simp only [Act.put, sA, sB, sC]
   refine uV Later.pre 8 [9, 10, 12, 13] rfl (by rfl) (by rfl) (by rfl) ⟨_, fun v h => by (go_simp; rfl), ?_⟩; simp only [Act.put, sA, sB, sC]
   refine uV Later.pre 9 [12, 13] rfl (by rfl) (by rfl) (by rfl) ⟨_, fun v h => by (go_simp; rfl), ?_⟩; simp only [Act.put, sA, sB, sC]
   have HSZ := (ld.trans l1).size
   refine anyU_two 10 11 rfl rfl (by kernel_rfl) (by rfl) (by rfl) ?xt1011 ?yt1011
   case xt1011 =>
    refine wp_value (w' := W1) (.bool true) (by go_simp) ?_
    refine ⟨Rj_out (by rfl) (Later.refl _), ?_⟩
    simp only [Act.put, sA, sB, sC]
    refine anyU_one 11 rfl (by kernel_rfl) (by rfl) ?_
    have la := later_allocG W1 (.cells #[.int .i64 0, .int .u8 0, .int .u32 0, .int .i64 0, .int .u32 0, .int .u16 0, .int .u32 0, .int .u16 0] 35)
    have HA0 := heap_alloc_new W1 (.cells #[.int .i64 0, .int .u8 0, .int .u32 0, .int .i64 0, .int .u32 0, .int .u16 0, .int .u32 0, .int .u16 0] 35)
    unfold Oper.wp
    go_simp
    refine ⟨Rj_out (by rfl) la, ?_⟩
    change wpAnyU _ _ _ _ _ _ _ _ _ _ (W1.alloc (.cells #[.int .i64 0, .int .u8 0, .int .u32 0, .int .i64 0, .int .u32 0, .int .u16 0, .int .u32 0, .int .u16 0] 35))
    have hgn : w1.heap.size ≤ W1.heap.size := HSZ
    generalize W1.alloc (.cells #[.int .i64 0, .int .u8 0, .int .u32 0, .int .i64 0, .int .u32 0, .int .u16 0, .int .u32 0, .int .u16 0] 35) = W5 at *
    generalize W1.heap.size = gn at *
    have HA := HA0
    have LL := ld.trans (l1.trans la)
    refine anyU_one 12 rfl (by kernel_rfl) (by rfl) ?_
    have kA := block_cell HA
    have fA := block_frozen HA
    unfold Oper.wp
    go_simp
    refine ⟨Rj_in (by rfl) trivial, ?_⟩
    clear kA fA
    generalize hV : World.setCell _ ⟨gn, 7, none⟩ _ = V8
    have hV9 : V8 = putRow W5 gn 0 [.int .i64 mr.kind, .int .u8 mr.proto, .int .u32 mr.net, .int .i64 mr.bits, .int .u32 mr.tt, .int .u16 mr.port, .int .u32 mr.host, .int .u16 mr.hp] := hV.symm
    have hb8 : But (fun b => b = gn) W5 V8 := by rw [hV9]; exact putRow_but (E := fun b => b = gn) (n := gn) rfl _ _ _ _ (But.refl _ _)
    have p8 := putRow_all [.int .i64 mr.kind, .int .u8 mr.proto, .int .u32 mr.net, .int .i64 mr.bits, .int .u32 mr.tt, .int .u16 mr.port, .int .u32 mr.host, .int .u16 mr.hp] HA rfl
    rw [← hV9] at p8
    have PP := hide p8
    clear hV hV9 p8
    have BB := hide (Below.trans LL (hb8.below LL.size (fun k h e => by omega)))
    refine anyU_one 13 rfl (by kernel_rfl) (by rfl) ?_
    refine wp_value (w' := V8) (.bool true) (by go_simp) ?_
    refine ⟨Rj_out (by rfl) (Later.refl _), ?_⟩
    simp only [Act.put, sA, sB, sC]
    refine anyU_done (by kernel_rfl) ?_
    refine ⟨rfl, ?_⟩
    go_wp2_with fail
    go_meet
    case rel => exact ⟨⟨gn, rfl, hgn, PP.out⟩, rfl, BB⟩
   case yt1011 =>
    have la := later_allocG W1 (.cells #[.int .i64 0, .int .u8 0, .int .u32 0, .int .i64 0, .int .u32 0, .int .u16 0, .int .u32 0, .int .u16 0] 35)
    have HA0 := heap_alloc_new W1 (.cells #[.int .i64 0, .int .u8 0, .int .u32 0, .int .i64 0, .int .u32 0, .int .u16 0, .int .u32 0, .int .u16 0] 35)
    unfold Oper.wp
    go_simp
    refine ⟨Rj_out (by rfl) la, ?_⟩
    change wpAnyU _ _ _ _ _ _ _ _ _ _ (W1.alloc (.cells #[.int .i64 0, .int .u8 0, .int .u32 0, .int .i64 0, .int .u32 0, .int .u16 0, .int .u32 0, .int .u16 0] 35))
    have hgn : w1.heap.size ≤ W1.heap.size := HSZ
    generalize W1.alloc (.cells #[.int .i64 0, .int .u8 0, .int .u32 0, .int .i64 0, .int .u32 0, .int .u16 0, .int .u32 0, .int .u16 0] 35) = W5 at *
    generalize W1.heap.size = gn at *
    have HA := HA0
    have LL := ld.trans (l1.trans la)
    refine anyU_two 10 12 rfl rfl (by kernel_rfl) (by rfl) (by rfl) ?xt1012 ?yt1012
    case xt1012 =>
     refine wp_value (w' := W5) (.bool true) (by go_simp) ?_
     refine ⟨Rj_out (by rfl) (Later.refl _), ?_⟩
     simp only [Act.put, sA, sB, sC]
     refine anyU_one 12 rfl (by kernel_rfl) (by rfl) ?_
     have kA := block_cell HA
     have fA := block_frozen HA
     unfold Oper.wp
     go_simp
     refine ⟨Rj_in (by rfl) trivial, ?_⟩
     clear kA fA
     generalize hV : World.setCell _ ⟨gn, 7, none⟩ _ = V8
     have hV9 : V8 = putRow W5 gn 0 [.int .i64 mr.kind, .int .u8 mr.proto, .int .u32 mr.net, .int .i64 mr.bits, .int .u32 mr.tt, .int .u16 mr.port, .int .u32 mr.host, .int .u16 mr.hp] := hV.symm
     have hb8 : But (fun b => b = gn) W5 V8 := by rw [hV9]; exact putRow_but (E := fun b => b = gn) (n := gn) rfl _ _ _ _ (But.refl _ _)
     have p8 := putRow_all [.int .i64 mr.kind, .int .u8 mr.proto, .int .u32 mr.net, .int .i64 mr.bits, .int .u32 mr.tt, .int .u16 mr.port, .int .u32 mr.host, .int .u16 mr.hp] HA rfl
     rw [← hV9] at p8
     have PP := hide p8
     clear hV hV9 p8
     have BB := hide (Below.trans LL (hb8.below LL.size (fun k h e => by omega)))
     refine anyU_one 13 rfl (by kernel_rfl) (by rfl) ?_
     refine wp_value (w' := V8) (.bool true) (by go_simp) ?_
     refine ⟨Rj_out (by rfl) (Later.refl _), ?_⟩
     simp only [Act.put, sA, sB, sC]
     refine anyU_done (by kernel_rfl) ?_
     refine ⟨rfl, ?_⟩
     go_wp2_with fail
     go_meet
     case rel => exact ⟨⟨gn, rfl, hgn, PP.out⟩, rfl, BB⟩
    case yt1012 =>
     have kA := block_cell HA
     have fA := block_frozen HA
     unfold Oper.wp
     go_simp
     refine ⟨Rj_in (by rfl) trivial, ?_⟩
     clear kA fA
     generalize hV : World.setCell _ ⟨gn, 7, none⟩ _ = V8
     have hV9 : V8 = putRow W5 gn 0 [.int .i64 mr.kind, .int .u8 mr.proto, .int .u32 mr.net, .int .i64 mr.bits, .int .u32 mr.tt, .int .u16 mr.port, .int .u32 mr.host, .int .u16 mr.hp] := hV.symm
     have hb8 : But (fun b => b = gn) W5 V8 := by rw [hV9]; exact putRow_but (E := fun b => b = gn) (n := gn) rfl _ _ _ _ (But.refl _ _)
     have p8 := putRow_all [.int .i64 mr.kind, .int .u8 mr.proto, .int .u32 mr.net, .int .i64 mr.bits, .int .u32 mr.tt, .int .u16 mr.port, .int .u32 mr.host, .int .u16 mr.hp] HA rfl
     rw [← hV9] at p8
     have PP := hide p8
     clear hV hV9 p8
     have BB := hide (Below.trans LL (hb8.below LL.size (fun k h e => by omega)))
     refine anyU_one 10 rfl (by kernel_rfl) (by rfl) ?_
     refine wp_value (w' := V8) (.bool true) (by go_simp) ?_
     refine ⟨Rj_out (by rfl) (Later.refl _), ?_⟩
     simp only [Act.put, sA, sB, sC]
     refine anyU_one 13 rfl (by kernel_rfl) (by rfl) ?_
     refine wp_value (w' := V8) (.bool true) (by go_simp) ?_
     refine ⟨Rj_out (by rfl) (Later.refl _), ?_⟩
     simp only [Act.put, sA, sB, sC]
     refine anyU_done (by kernel_rfl) ?_
     refine ⟨rfl, ?_⟩
     go_wp2_with fail
     go_meet
     case rel => exact ⟨⟨gn, rfl, hgn, PP.out⟩, rfl, BB⟩
  case al =>
   have HSZ := ld.size
   have la := later_allocG Wd (.cells #[.int .i64 0, .int .u8 0, .int .u32 0, .int .i64 0, .int .u32 0, .int .u16 0, .int .u32 0, .int .u16 0] 35)
   have HA0 := heap_alloc_new Wd (.cells #[.int .i64 0, .int .u8 0, .int .u32 0, .int .i64 0, .int .u32 0, .int .u16 0, .int .u32 0, .int .u16 0] 35)
   unfold Oper.wp
   go_simp
   refine ⟨Rj_out (by rfl) la, ?_⟩
   change wpAnyU _ _ _ _ _ _ _ _ _ _ (Wd.alloc (.cells #[.int .i64 0, .int .u8 0, .int .u32 0, .int .i64 0, .int .u32 0, .int .u16 0, .int .u32 0, .int .u16 0] 35))
   have hgn : w1.heap.size ≤ Wd.heap.size := HSZ
   generalize Wd.alloc (.cells #[.int .i64 0, .int .u8 0, .int .u32 0, .int .i64 0, .int .u32 0, .int .u16 0, .int .u32 0, .int .u16 0] 35) = W3 at *
   generalize Wd.heap.size = gn at *
   refine anyU_one 7 rfl (by kernel_rfl) (by rfl) ?_
   refine wp_enter 228 #[.pointer (some ⟨s.gr, 0, none⟩), .int .u32 x] (by go_simp) ?_
   refine (HMQ.out W3 (LWd.trans la)).mono ?_
   rintro e W5 ⟨rfl, l1⟩
   refine ⟨Rj_out (by rfl) l1, ?_⟩
   simp only [Act.put, sA, sB, sC]
   refine uV Later.pre 8 [9, 10, 12, 13] rfl (by rfl) (by rfl) (by rfl) ⟨_, fun v h => by (go_simp; rfl), ?_⟩; simp only [Act.put, sA, sB, sC]
   refine uV Later.pre 9 [12, 13] rfl (by rfl) (by rfl) (by rfl) ⟨_, fun v h => by (go_simp; rfl), ?_⟩; simp only [Act.put, sA, sB, sC]
   have HA := later_keep l1 HA0
   have LL := ld.trans (la.trans l1)
   refine anyU_two 10 12 rfl rfl (by kernel_rfl) (by rfl) (by rfl) ?xt1012 ?yt1012
   case xt1012 =>
    refine wp_value (w' := W5) (.bool true) (by go_simp) ?_
    refine ⟨Rj_out (by rfl) (Later.refl _), ?_⟩
    simp only [Act.put, sA, sB, sC]
    refine anyU_one 12 rfl (by kernel_rfl) (by rfl) ?_
    have kA := block_cell HA
    have fA := block_frozen HA
    unfold Oper.wp
    go_simp
    refine ⟨Rj_in (by rfl) trivial, ?_⟩
    clear kA fA
    generalize hV : World.setCell _ ⟨gn, 7, none⟩ _ = V8
    have hV9 : V8 = putRow W5 gn 0 [.int .i64 mr.kind, .int .u8 mr.proto, .int .u32 mr.net, .int .i64 mr.bits, .int .u32 mr.tt, .int .u16 mr.port, .int .u32 mr.host, .int .u16 mr.hp] := hV.symm
    have hb8 : But (fun b => b = gn) W5 V8 := by rw [hV9]; exact putRow_but (E := fun b => b = gn) (n := gn) rfl _ _ _ _ (But.refl _ _)
    have p8 := putRow_all [.int .i64 mr.kind, .int .u8 mr.proto, .int .u32 mr.net, .int .i64 mr.bits, .int .u32 mr.tt, .int .u16 mr.port, .int .u32 mr.host, .int .u16 mr.hp] HA rfl
    rw [← hV9] at p8
    have PP := hide p8
    clear hV hV9 p8
    have BB := hide (Below.trans LL (hb8.below LL.size (fun k h e => by omega)))
    refine anyU_one 13 rfl (by kernel_rfl) (by rfl) ?_
    refine wp_value (w' := V8) (.bool true) (by go_simp) ?_
    refine ⟨Rj_out (by rfl) (Later.refl _), ?_⟩
    simp only [Act.put, sA, sB, sC]
    refine anyU_done (by kernel_rfl) ?_
    refine ⟨rfl, ?_⟩
    go_wp2_with fail
    go_meet
    case rel => exact ⟨⟨gn, rfl, hgn, PP.out⟩, rfl, BB⟩
   case yt1012 =>
    have kA := block_cell HA
    have fA := block_frozen HA
    unfold Oper.wp
    go_simp
    refine ⟨Rj_in (by rfl) trivial, ?_⟩
    clear kA fA
    generalize hV : World.setCell _ ⟨gn, 7, none⟩ _ = V8
    have hV9 : V8 = putRow W5 gn 0 [.int .i64 mr.kind, .int .u8 mr.proto, .int .u32 mr.net, .int .i64 mr.bits, .int .u32 mr.tt, .int .u16 mr.port, .int .u32 mr.host, .int .u16 mr.hp] := hV.symm
    have hb8 : But (fun b => b = gn) W5 V8 := by rw [hV9]; exact putRow_but (E := fun b => b = gn) (n := gn) rfl _ _ _ _ (But.refl _ _)
    have p8 := putRow_all [.int .i64 mr.kind, .int .u8 mr.proto, .int .u32 mr.net, .int .i64 mr.bits, .int .u32 mr.tt, .int .u16 mr.port, .int .u32 mr.host, .int .u16 mr.hp] HA rfl
    rw [← hV9] at p8
    have PP := hide p8
    clear hV hV9 p8
    have BB := hide (Below.trans LL (hb8.below LL.size (fun k h e => by omega)))
    refine anyU_one 10 rfl (by kernel_rfl) (by rfl) ?_
    refine wp_value (w' := V8) (.bool true) (by go_simp) ?_
    refine ⟨Rj_out (by rfl) (Later.refl _), ?_⟩
    simp only [Act.put, sA, sB, sC]
    refine anyU_one 13 rfl (by kernel_rfl) (by rfl) ?_
    refine wp_value (w' := V8) (.bool true) (by go_simp) ?_
    refine ⟨Rj_out (by rfl) (Later.refl _), ?_⟩
    simp only [Act.put, sA, sB, sC]
    refine anyU_done (by kernel_rfl) ?_
    refine ⟨rfl, ?_⟩
    go_wp2_with fail
    go_meet
    case rel => exact ⟨⟨gn, rfl, hgn, PP.out⟩, rfl, BB⟩
 case rest =>
 obtain ⟨⟨gn, rfl, hgn, hC⟩, rfl, hL⟩ := hcut
 obtain ⟨w2, hw2⟩ : ∃ w2, w2 = wc := ⟨_, rfl⟩
 subst hw2
 have H2 := hide (HG.out.later hL.out)
 have K2 : Hid (KG base w w2) := KG.of_later (LW0.trans hL.out)
 have D0 := hide (later_keep hL.out C0.out)
 have D1 := hide (later_keep hL.out C1.out)
 have D2 := hide hC
 have hgn2 : gx + 1 < gn := Nat.lt_of_lt_of_le (bl9 C1.out) hgn
 have hb2 : base ≤ w2.heap.size := Nat.le_trans hbs K2.out.size
 clear C0 C1 CG HG HMQ hL hC hgn LW0 l0
 have k0 := block_cell D0.out
 have k1 := block_cell D1.out
 have k2 := block_cell D2.out
 go_wp2_with fail
 refine (grefuse_no 2 w2).mono ?_
 rintro e w2' ⟨rfl, rfl⟩
 go_wp2_with fail
 refine (HTK.out w2 H2.out hb2 K2.out).mono ?_
 rintro e w3 ⟨pb, he, M3, hpb, h3'⟩
 rw [← HN.out] at he h3'
 subst he
 have hnm : ∀ (b : Nat) (cur : Array Value) (t : TypeId) (f : Nat × Nat), w2.heap[b]? = some (.cells cur t f) → w3.heap[b]? = some (.cells cur t f) := fun b cur t f hb => (M3.block b (bl9 hb) (fun e => by have e' : b = s.gp := e; have hh := H2.out.pl; rw [← e', hb] at hh; cases hh)).trans hb
 have K3 : Hid (KG base w w3) := K2.out.trans (KG.of_but M3 (fun q e => by have e' : q = s.gp := e; rw [e']; exact ⟨H2.out.bf.2, fun ob ho => by have hp := H2.out.pl; rw [hp] at ho; cases ho; exact trivial⟩))
 have E0 := hide (hnm _ _ _ _ D0.out)
 have E1 := hide (hnm _ _ _ _ D1.out)
 have E2 := hide (hnm _ _ _ _ D2.out)
 have H3 := hide h3'
 clear k0 k1 k2 D0 D1 D2 HTK M3 hnm H2 K2 h3' hb2
 have k0 := block_cell E0.out
 have k1 := block_cell E1.out
 have k2 := block_cell E2.out
 go_wp2_with fail
 have la := later_allocG w3 (.cells #[.int .u8 17, .int .u32 mr.tt, .int .u16 (n : Int)] 189)
 have ca := heap_alloc_new w3 (.cells #[.int .u8 17, .int .u32 mr.tt, .int .u16 (n : Int)] 189)
 refine (grefuse_no 4 _).mono ?_
 rintro e w4 ⟨rfl, hw4⟩
 rw [hw4] at la ca
 clear hw4
 have H4 := hide (H3.out.later la)
 have K4 : Hid (KG base w w4) := K3.out.trans (KG.of_later la)
 have F0 := hide (later_keep la E0.out)
 have F1 := hide (later_keep la E1.out)
 have F2 := hide (later_keep la E2.out)
 have F3 := hide ca
 generalize hg3 : w3.heap.size = gm at *
 clear k0 k1 k2 E0 E1 E2 la ca H3 K3
 have k0 := block_cell F0.out
 have k1 := block_cell F1.out
 have k2 := block_cell F2.out
 have k3 := block_cell F3.out
 have la := later_allocG w4 (.cells #[.int .u8 17, .int .u32 d, .int .u32 mr.tt, .int .u16 b, .int .u16 (n : Int)] 68)
 have ca := heap_alloc_new w4 (.cells #[.int .u8 17, .int .u32 d, .int .u32 mr.tt, .int .u16 b, .int .u16 (n : Int)] 68)
 have LA := hide la
 have CA := hide ca
 clear la ca
 go_upto_region 6 with fail
 generalize hw5 : w4.alloc _ = w5 at *
 clear hw5
 generalize hg4 : w4.heap.size = gr at *
 have H5 := hide (H4.out.later LA.out)
 have K5 : Hid (KG base w w5) := K4.out.trans (KG.of_later LA.out)
 have G0 := hide (later_keep LA.out F0.out)
 have G1 := hide (later_keep LA.out F1.out)
 have G3 := hide (later_keep LA.out F3.out)
 have G4 := hide CA.out
 clear k0 k1 k2 k3 F0 F1 F2 F3 H4 K4 LA CA
 have k0 := block_cell G0.out
 have k1 := block_cell G1.out
 have k3 := block_cell G3.out
 have k4 := block_cell G4.out
 go_wp2_with fail
 refine (roomFor_yes base g _ 17 x d (a : Int) b 17 d mr.tt b (n : Int) w5 H5.out hk1 (hk2 n) hx hd ⟨by omega, by omega⟩ hb hd htt hb ⟨by omega, by have := HNR.out; rw [← HN.out] at this; omega⟩ hfs (fun e => hne ⟨e.2.1, e.2.2.1⟩)).mono ?_
 rintro e w6 ⟨rfl, l6⟩
 have H6 := hide (H5.out.later l6)
 have K6 : Hid (KG base w w6) := K5.out.trans (KG.of_later l6)
 have J0 := hide (later_keep l6 G0.out)
 have J1 := hide (later_keep l6 G1.out)
 have J3 := hide (later_keep l6 G3.out)
 have J4 := hide (later_keep l6 G4.out)
 clear k0 k1 k3 k4 G0 G1 G3 G4 H5 K5 l6
 have k0 := block_cell J0.out
 have k1 := block_cell J1.out
 have k3 := block_cell J3.out
 have k4 := block_cell J4.out
 have hbg' : gx ≤ w6.heap.size := by rw [← hgx]; exact K6.out.size
 have la := later_allocG w6 (.cells #[.int .u8 17, .int .u32 mr.tt, .int .u16 (n : Int)] 189)
 have HOP := hide (open_udp base g _ ⟨17, x, d, (a : Int), b⟩ ⟨17, d, mr.tt, b, (n : Int)⟩ 0 0 0 0 (-1) (some ⟨w6.heap.size, 0, none⟩) 1 1 (w6.alloc (.cells #[.int .u8 17, .int .u32 mr.tt, .int .u16 (n : Int)] 189)) (H6.out.later la) rfl hs1 hs2 (Nat.le_trans hbs (Nat.le_trans K6.out.size la.size)) ⟨hx, hd, ⟨by show (0:Int) ≤ (a : Int); omega, by show (a : Int) ≤ 65535; omega⟩, hb⟩ ⟨hd, htt, hb, ⟨by show (0:Int) ≤ (n : Int); omega, by have := HNR.out; rw [← HN.out] at this; show (n : Int) ≤ 65535; omega⟩⟩ htr hnw hbg hid hcn hln)
 have K7 : Hid (KG base w (w6.alloc (.cells #[.int .u8 17, .int .u32 mr.tt, .int .u16 (n : Int)] 189))) := K6.out.trans (KG.of_later la)
 clear la
 go_wp2_with fail
 refine HOP.out.mono ?_
 rintro e w8 ⟨f, hfb, rfl, hk, e1, e2, e3, e4, e5, e6, e7, hG⟩
 clear k0 k1 k3 k4
 go_wp2_with fail
 go_ret
 refine ⟨f, pb, ?_, rfl, K7.out.trans hk, e1, e2, ?_, e4, e5, e7, ?_⟩
 ·exact Nat.le_trans K7.out.size hfb
 ·rw [e3]
  show _ = Tu.mk 17 d mr.tt b ((tkn s.lo s.hi ((a : Int).toNat) : Nat) : Int)
  rw [show ((a : Int).toNat) = a from rfl, ← HN.out]
 ·show GF base w8 g (bcS (opS (withP s 17 mr.tt pb (wsR (wsOf (nums s.lo s.hi)) (tkn s.lo s.hi ((a : Int).toNat)))) f) f 8)
  rw [show ((a : Int).toNat) = a from rfl, ← HN.out]
  exact hG
structure Rdy (s : Gf) (x d : Int) (a : Nat) (b : Int) (mr : Ru) : Prop where
 ps : s.ps = []
 ok : okL s.ls
 fd : s.ls.find? (mqB x) = some mr
 hx : 0 ≤ x ∧ x ≤ 4294967295
 hd : 0 ≤ d ∧ d ≤ 4294967295
 ha : a ≤ 65535
 hb : 0 ≤ b ∧ b ≤ 65535
 tt : 0 ≤ mr.tt ∧ mr.tt ≤ 4294967295
 h1 : 1 ≤ s.lo
 h2 : s.lo ≤ s.hi
 h3 : s.hi < 65536
 s1 : (b == 5060) = false
 s2 : ((a : Int) == 5060) = false
 k1 : kx 17 x d (a : Int) b s.rw = none
 k2 : ∀ n : Nat, kx 17 d mr.tt b (n : Int) s.rw = none
 fs : s.fs.length < 64
 ne : ¬ (x = d ∧ d = mr.tt)
 tr : 0 ≤ s.trn ∧ s.trn ≤ 900000
 nw : 0 ≤ s.now ∧ s.now ≤ 549755813888
 bg : 0 ≤ s.bg ∧ s.bg ≤ 1000000
 id : ∀ y ∈ s.fs, y.id ≠ s.bg
 cn : 0 ≤ s.cnt ∧ s.cnt ≤ 1000
 ln : ∀ i, (s.rw i).length ≤ 4000
theorem BgQ.of {base g : Nat} {w w1 w' : World} {s : Gf} {o : Tu} {mr : Ru} {e : Ending} (k : KG base w w1) (h : BgQ base w1 w' g s o mr e) : BgQ base w w' g s o mr e := by
 obtain ⟨f, pb, q1, q2, q3, q⟩ := h
 exact ⟨f, pb, Nat.le_trans k.size q1, q2, k.trans q3, q⟩
theorem begin_yes (base g : Nat) (s : Gf) (tos id ttl pr src dst : Int) (keep : Bool) (so sd : Value) (x d : Int) (a : Nat) (b : Int) (mr : Ru) (w : World) (h : GF base w g s) (hR : Rdy s x d a b mr) (hbs : base ≤ w.heap.size) (hz : ∀ W, KG base w W → Dz W) (hgz : 1 ≤ w.heap.size) :
  Calls Tryz.prog 153 #[.agg #[.pointer (some ⟨g, 0, none⟩), .int .u8 tos, .int .u16 id, .bool keep, .int .u8 ttl, .int .u8 pr, .int .u32 src, .int .u32 dst, so, sd, .int .i64 0], .agg #[.int .u8 17, .int .u32 x, .int .u32 d, .int .u16 (a : Int), .int .u16 b]] w fun e w' => BgQ base w w' g s ⟨17, x, d, (a : Int), b⟩ mr e := by
 obtain ⟨l0, c0, c1⟩ := alloc2 w (.cells #[.pointer (some ⟨g, 0, none⟩), .int .u8 tos, .int .u16 id, .bool keep, .int .u8 ttl, .int .u8 pr, .int .u32 src, .int .u32 dst, so, sd, .int .i64 0] 149) (.cells #[.int .u8 17, .int .u32 x, .int .u32 d, .int .u16 (a : Int), .int .u16 b] 68)
 have C0 := hide c0
 have C1 := hide c1
 have HB := hide (beginInside_yes base g s tos id ttl pr src dst keep so sd 0 x d a b mr _ (h.later l0) hR.ps hR.ok hR.fd (Nat.le_trans hbs l0.size) hR.hx hR.hd hR.ha hR.hb hR.tt hR.h1 hR.h2 hR.h3 (fun W k => hz W ((KG.of_later l0).trans k)) (Nat.le_trans hgz l0.size) hR.s1 hR.s2 hR.k1 hR.k2 hR.fs hR.ne hR.tr hR.nw hR.bg hR.id hR.cn hR.ln)
 clear c0 c1 h hR hz hgz
 go_enter Tryz.func153, Tryz.ntmps153
 go_upto_region 1 with fail
 generalize (w.alloc (.cells #[.pointer (some ⟨g, 0, none⟩), .int .u8 tos, .int .u16 id, .bool keep, .int .u8 ttl, .int .u8 pr, .int .u32 src, .int .u32 dst, so, sd, .int .i64 0] 149)).alloc (.cells #[.int .u8 17, .int .u32 x, .int .u32 d, .int .u16 (a : Int), .int .u16 b] 68) = w1 at *
 generalize hgx : w.heap.size = gx at C0 C1 ⊢
 have k0 := block_cell C0.out
 have k1 := block_cell C1.out
 go_wp2_with fail
 refine (grefuse_no 5 w1).mono ?_
 rintro e w2 ⟨rfl, rfl⟩
 go_wp2_with fail
 refine (grefuse_no 5 w1).mono ?_
 rintro e w2 ⟨rfl, rfl⟩
 go_wp2_with fail
 refine (grefuse_no 3 w1).mono ?_
 rintro e w2 ⟨rfl, rfl⟩
 go_wp2_with fail
 refine HB.out.mono ?_
 rintro e w2 hq
 obtain ⟨f, pb, q1, rfl, q⟩ := hq
 clear k0 k1
 go_wp2_with fail
 go_ret
 exact BgQ.of (KG.of_later l0) ⟨f, pb, q1, rfl, q⟩
def OwQ (base : Nat) (w w' : World) (g : Nat) (s : Gf) (o : Tu) (mr : Ru) (e : Ending) : Prop := ∃ (f : Fl) (pb : Nat), w.heap.size ≤ f.blk ∧ e = .returned (.tuple #[.pointer (some ⟨f.blk, 0, none⟩), .bool false]) ∧ KG base w w' ∧ f.id = s.bg ∧ f.o = o ∧ f.r = ⟨17, o.dst, mr.tt, o.dp, (tkn s.lo s.hi o.sp.toNat : Int)⟩ ∧ f.side = 0 ∧ f.ms = -1 ∧ f.hp = noh ∧ GF base w' g (bcS (opS (withP s 17 mr.tt pb (wsR (wsOf (nums s.lo s.hi)) (tkn s.lo s.hi o.sp.toNat))) f) f 8)
theorem owner_yes (base g : Nat) (s : Gf) (tos id ttl pr src dst : Int) (keep : Bool) (so sd : Value) (x d : Int) (a : Nat) (b : Int) (mr : Ru) (w : World) (h : GF base w g s) (hR : Rdy s x d a b mr) (hbs : base ≤ w.heap.size) (hz : ∀ W, KG base w W → Dz W) (hgz : 1 ≤ w.heap.size) :
  Calls Tryz.prog 108 #[.agg #[.pointer (some ⟨g, 0, none⟩), .int .u8 tos, .int .u16 id, .bool keep, .int .u8 ttl, .int .u8 pr, .int .u32 src, .int .u32 dst, so, sd, .int .i64 0], .agg #[.int .u8 17, .int .u32 x, .int .u32 d, .int .u16 (a : Int), .int .u16 b]] w fun e w' => OwQ base w w' g s ⟨17, x, d, (a : Int), b⟩ mr e := by
 obtain ⟨l0, c0, c1⟩ := alloc2 w (.cells #[.pointer (some ⟨g, 0, none⟩), .int .u8 tos, .int .u16 id, .bool keep, .int .u8 ttl, .int .u8 pr, .int .u32 src, .int .u32 dst, so, sd, .int .i64 0] 149) (.cells #[.int .u8 17, .int .u32 x, .int .u32 d, .int .u16 (a : Int), .int .u16 b] 68)
 have C0 := hide c0
 have C1 := hide c1
 have HL := hide (lookUpF_none base g s 17 x d (a : Int) b _ (h.later l0) hR.k1 hR.hx hR.hd ⟨by omega, by have := hR.ha; omega⟩ hR.hb)
 have HB := hide (fun W (l : Later w W) => begin_yes base g s tos id ttl pr src dst keep so sd x d a b mr W (h.later l) hR (Nat.le_trans hbs l.size) (fun V k => hz V ((KG.of_later l).trans k)) (Nat.le_trans hgz l.size))
 clear c0 c1 h hR hz hgz
 go_enter Tryz.func108, Tryz.ntmps108
 go_upto_region 1 with fail
 generalize (w.alloc (.cells #[.pointer (some ⟨g, 0, none⟩), .int .u8 tos, .int .u16 id, .bool keep, .int .u8 ttl, .int .u8 pr, .int .u32 src, .int .u32 dst, so, sd, .int .i64 0] 149)).alloc (.cells #[.int .u8 17, .int .u32 x, .int .u32 d, .int .u16 (a : Int), .int .u16 b] 68) = w1 at *
 generalize hgx : w.heap.size = gx at C0 C1 ⊢
 have k0 := block_cell C0.out
 have k1 := block_cell C1.out
 go_wp2_with fail
 refine HL.out.mono ?_
 rintro e w2 ⟨rfl, l2⟩
 clear k0 k1 HL
 have L2 : Later w w2 := l0.trans l2
 have k0 := block_cell (later_keep l2 C0.out)
 have k1 := block_cell (later_keep l2 C1.out)
 have HB2 := hide (HB.out w2 L2)
 clear HB
 go_wp2_with fail
 refine HB2.out.mono ?_
 rintro e w3 hq
 obtain ⟨f, pb, q1, rfl, q3, q⟩ := hq
 clear k0 k1
 go_wp2_with fail
 exact bodyPost_ret (v := .tuple #[.pointer (some ⟨f.blk, 0, none⟩), .bool false]) (by simp [results, Tryz.results108, go_sem]) rfl ⟨f, pb, Nat.le_trans L2.size q1, rfl, (KG.of_later L2).trans q3, q⟩
theorem Ow.kg {base n0 : Nat} {W W' : World} {v : Value} {zs : List Int} (h : Ow n0 W v zs) (k : KG base W W') : Ow n0 W' v zs := by
 rcases h with h | ⟨g, cap, cur, q1, q2, q3, q4, q5, q6, q7⟩
 ·exact .inl h
 ·exact .inr ⟨g, cap, cur, q1, q2, q3, q4, q5, k.cells q6 (by decide), q7⟩
theorem KG.own {base k : Nat} {a b c : World} (h : KG base a b) (hb : But (fun q => q = k) b c) (hk : a.heap.size ≤ k) : KG base a c := ⟨hb.os.trans h.os, hb.tape.trans h.tape, hb.output.trans h.output, Nat.le_trans h.size hb.size, fun i o h1 h2 => by
 have hi := (bl9 h1)
 exact (hb.block i (Nat.lt_of_lt_of_le hi h.size) (fun e => by have e' : i = k := e; omega)).trans (h.block i o h1 h2)⟩
theorem other_no (f : Fl) (w : World) (h : w.heap[f.blk]? = some (.cells (flc f).toArray 93 (0, 0))) :
  Calls Tryz.prog 110 #[.pointer (some ⟨f.blk, 0, none⟩), .bool false] w fun e w' => e = .returned (.agg #[.int .u8 f.r.pr, .int .u32 f.r.src, .int .u32 f.r.dst, .int .u16 f.r.sp, .int .u16 f.r.dp]) ∧ Later w w' := by
 have la := later_allocG w (.cells #[.int .u8 0, .int .u32 0, .int .u32 0, .int .u16 0, .int .u16 0] 68)
 have C0 := hide (heap_alloc_new w (.cells #[.int .u8 0, .int .u32 0, .int .u32 0, .int .u16 0, .int .u16 0] 68))
 have C1 := hide (later_keep la h)
 clear h
 go_enter Tryz.func110, Tryz.ntmps110
 go_upto_region 3 with fail
 generalize w.alloc _ = w1 at *
 generalize hgx : w.heap.size = gx at C0 ⊢
 have k0 := block_cell C0.out
 have f0 := block_frozen C0.out
 have k1 := block_cell C1.out
 unfold flc at k1
 go_wp2_with fail
 generalize hV : World.setCell _ ⟨gx, 4, none⟩ _ = V8
 have hV9 : V8 = putRow w1 gx 0 [.int .u8 f.r.pr, .int .u32 f.r.src, .int .u32 f.r.dst, .int .u16 f.r.sp, .int .u16 f.r.dp] := hV.symm
 have hb8 : But (fun b => b = gx) w1 V8 := by rw [hV9]; exact putRow_but (E := fun b => b = gx) (n := gx) rfl _ _ _ _ (But.refl _ _)
 have p8 := putRow_all [.int .u8 f.r.pr, .int .u32 f.r.src, .int .u32 f.r.dst, .int .u16 f.r.sp, .int .u16 f.r.dp] C0.out rfl
 rw [← hV9] at p8
 clear hV hV9
 have P8 := block_cell p8
 exact bodyPost_ret (v := .agg #[.int .u8 f.r.pr, .int .u32 f.r.src, .int .u32 f.r.dst, .int .u16 f.r.sp, .int .u16 f.r.dp]) (by simp [results, Tryz.results110, go_sem, P8]) rfl ⟨rfl, Below.trans la (hb8.below la.size (fun k hk e => by have e' : k = gx := e; omega))⟩
theorem nohelp_any (x : Array Value) (w : World) (tos id ttl pr src dst : Int) (keep : Bool) (ao ad : Option Addr) (lo co ld cd : Nat) :
  Calls Tryz.prog 503 #[.agg #[], .agg x, .agg #[.int .u8 tos, .int .u16 id, .bool keep, .int .u8 ttl, .int .u8 pr, .int .u32 src, .int .u32 dst, .slice ao lo co, .slice ad ld cd]] w fun e w' => e = .returned (.agg #[.int .u8 tos, .int .u16 id, .bool keep, .int .u8 ttl, .int .u8 pr, .int .u32 src, .int .u32 dst, .slice ao lo co, .slice ad ld cd]) ∧ Later w w' := by
 have la := later_allocG w (.cells #[] 383)
 have lb := later_allocG (w.alloc (.cells #[] 383)) (.cells x 222)
 have lc := later_allocG ((w.alloc (.cells #[] 383)).alloc (.cells x 222)) (.cells #[.int .u8 tos, .int .u16 id, .bool keep, .int .u8 ttl, .int .u8 pr, .int .u32 src, .int .u32 dst, .slice ao lo co, .slice ad ld cd] 56)
 have c0 := heap_alloc_new ((w.alloc (.cells #[] 383)).alloc (.cells x 222)) (.cells #[.int .u8 tos, .int .u16 id, .bool keep, .int .u8 ttl, .int .u8 pr, .int .u32 src, .int .u32 dst, .slice ao lo co, .slice ad ld cd] 56)
 have hsz : ((w.alloc (.cells #[] 383)).alloc (.cells x 222)).heap.size = w.heap.size + 1 + 1 := by simp
 rw [hsz] at c0
 have L2 := la.trans (lb.trans lc)
 have ld' := later_allocG (((w.alloc (.cells #[] 383)).alloc (.cells x 222)).alloc (.cells #[.int .u8 tos, .int .u16 id, .bool keep, .int .u8 ttl, .int .u8 pr, .int .u32 src, .int .u32 dst, .slice ao lo co, .slice ad ld cd] 56)) (.cells #[.int .u8 0, .int .u16 0, .bool false, .int .u8 0, .int .u8 0, .int .u32 0, .int .u32 0, .slice none 0 0, .slice none 0 0] 56)
 have c1 := heap_alloc_new (((w.alloc (.cells #[] 383)).alloc (.cells x 222)).alloc (.cells #[.int .u8 tos, .int .u16 id, .bool keep, .int .u8 ttl, .int .u8 pr, .int .u32 src, .int .u32 dst, .slice ao lo co, .slice ad ld cd] 56)) (.cells #[.int .u8 0, .int .u16 0, .bool false, .int .u8 0, .int .u8 0, .int .u32 0, .int .u32 0, .slice none 0 0, .slice none 0 0] 56)
 have hsz2 : (((w.alloc (.cells #[] 383)).alloc (.cells x 222)).alloc (.cells #[.int .u8 tos, .int .u16 id, .bool keep, .int .u8 ttl, .int .u8 pr, .int .u32 src, .int .u32 dst, .slice ao lo co, .slice ad ld cd] 56)).heap.size = w.heap.size + 1 + 1 + 1 := by simp
 rw [hsz2] at c1
 have C0 := hide (later_keep ld' c0)
 have C1 := hide c1
 have LL := hide (L2.trans ld')
 clear la lb lc ld' c0 c1 hsz hsz2 L2
 go_enter Tryz.func503, Tryz.ntmps503
 go_upto_region 1 with fail
 generalize hw1 : World.alloc _ _ = w1 at *
 clear hw1
 generalize hgx : w.heap.size = g0 at C0 C1 ⊢
 have k0 := block_cell C0.out
 have k1 := block_cell C1.out
 have f1 := block_frozen C1.out
 go_wp2_with fail
 generalize hV : World.setCell _ ⟨_, 8, none⟩ _ = V8
 have hV9 : V8 = putRow w1 (g0 + 1 + 1 + 1) 0 [.int .u8 tos, .int .u16 id, .bool keep, .int .u8 ttl, .int .u8 pr, .int .u32 src, .int .u32 dst, .slice ao lo co, .slice ad ld cd] := hV.symm
 have hb8 : But (fun b => b = g0 + 1 + 1 + 1) w1 V8 := by rw [hV9]; exact putRow_but (E := fun b => b = g0 + 1 + 1 + 1) (n := g0 + 1 + 1 + 1) rfl _ _ _ _ (But.refl _ _)
 have p8 := putRow_all [.int .u8 tos, .int .u16 id, .bool keep, .int .u8 ttl, .int .u8 pr, .int .u32 src, .int .u32 dst, .slice ao lo co, .slice ad ld cd] C1.out rfl
 rw [← hV9] at p8
 clear hV hV9
 have P8 := block_cell p8
 exact bodyPost_ret (v := .agg #[.int .u8 tos, .int .u16 id, .bool keep, .int .u8 ttl, .int .u8 pr, .int .u32 src, .int .u32 dst, .slice ao lo co, .slice ad ld cd]) (by simp [results, Tryz.results503, go_sem, P8]) rfl ⟨rfl, Below.trans LL.out (hb8.below LL.out.size (fun k hk e => by have e' : k = g0 + 1 + 1 + 1 := e; omega))⟩
theorem meth_noh (k : Nat) (W : World) : Sem.run Tryz.prog (Go.method (k + 1) 383 (.agg #[]) "lychgate/gate.change") W = .ok (503, .agg #[]) W := by kernel_rfl
def ChQ (base : Nat) (w w' : World) (g : Nat) (s : Gf) (tos id ttl src dst : Int) (keep : Bool) (zo zd : List Int) (a : Nat) (b : Int) (mr : Ru) (e : Ending) : Prop := ∃ (f : Fl) (pb : Nat) (ao : Option Addr) (co : Nat) (ad : Option Addr) (cd : Nat), w.heap.size ≤ f.blk ∧ e = .returned (.agg #[.int .u8 tos, .int .u16 id, .bool keep, .int .u8 ttl, .int .u8 17, .int .u32 mr.tt, .int .u32 dst, .slice ao zo.length co, .slice ad zd.length cd]) ∧ KG base w w' ∧ (f.id = s.bg ∧ f.o = ⟨17, src, dst, (a : Int), b⟩ ∧ f.r = ⟨17, dst, mr.tt, b, (tkn s.lo s.hi a : Int)⟩ ∧ f.side = 0 ∧ f.ms = -1 ∧ f.hp = noh) ∧ GF base w' g (bcS (opS (withP s 17 mr.tt pb (wsR (wsOf (nums s.lo s.hi)) (tkn s.lo s.hi a))) f) f 8) ∧ Ow w.heap.size w' (.slice ao zo.length co) zo ∧ Ow w.heap.size w' (.slice ad zd.length cd) (rwD 17 mr.tt dst (tkn s.lo s.hi a : Int) b zd)
theorem changed_yes (base g : Nat) (s : Gf) (tos id ttl src dst : Int) (keep : Bool) (so sd : Value) (zo zd : List Int) (a : Nat) (b : Int) (mr : Ru) (n0 : Nat) (w : World) (h : GF base w g s) (hR : Rdy s src dst a b mr) (he : ofe 17 src dst zd = 0) (hea : ofa 17 zd = (a : Int)) (heb : ofb 17 zd = b) (hfl : flt zo.length zd.length = 0) (hBo : Mt.By zo) (hBd : Mt.By zd) (hOo : Ow n0 w so zo) (hOd : Ow n0 w sd zd) (hlo : zo.length ≤ 60000) (hld : zd.length ≤ 70000) (ht : 0 ≤ tos ∧ tos ≤ 255) (hid : 0 ≤ id ∧ id ≤ 65535) (htl : 0 ≤ ttl ∧ ttl ≤ 255) (hbs : base ≤ w.heap.size) (hz : ∀ W, KG base w W → Tb W ∧ Dz W) (hgz : 1 ≤ w.heap.size) :
  Calls Tryz.prog 57 #[.agg #[.pointer (some ⟨g, 0, none⟩), .int .u8 tos, .int .u16 id, .bool keep, .int .u8 ttl, .int .u8 17, .int .u32 src, .int .u32 dst, so, sd, .int .i64 0]] w fun e w' => ChQ base w w' g s tos id ttl src dst keep zo zd a b mr e := by
 obtain ⟨l0, c0, c1⟩ := alloc2 w (.cells #[.pointer (some ⟨g, 0, none⟩), .int .u8 tos, .int .u16 id, .bool keep, .int .u8 ttl, .int .u8 17, .int .u32 src, .int .u32 dst, so, sd, .int .i64 0] 149) (.cells #[.int .u8 0, .int .u16 0, .bool false, .int .u8 0, .int .u8 0, .int .u32 0, .int .u32 0, .slice none 0 0, .slice none 0 0] 56)
 have C0 := hide c0
 have C1 := hide c1
 clear c0 c1
 have HQ := hide (fun W (l : Later w W) => of_any tos id ttl 17 src dst keep so sd zd W (hz W (KG.of_later l)).1 hBd ((hOd.kg (KG.of_later (base := base) l)).rd) (by omega) hR.hx hR.hd)
 rw [he, hea, heb] at HQ
 have hv : otv 0 17 src dst (a : Int) b = .agg #[.int .u8 17, .int .u32 src, .int .u32 dst, .int .u16 (a : Int), .int .u16 b] := by unfold otv; rw [if_pos rfl]
 rw [hv] at HQ
 obtain ⟨n, hn⟩ : ∃ n, n = tkn s.lo s.hi a := ⟨_, rfl⟩
 have hnr := tkn_rng (wish := a) hR.h2
 have h3 := hR.h3
 have HOW := hide (fun W (k : KG base w W) (hh : GF base W g s) => owner_yes base g s tos id ttl 17 src dst keep so sd src dst a b mr W hh hR (Nat.le_trans hbs k.size) (fun V k2 => (hz V (k.trans k2)).2) (Nat.le_trans hgz k.size))
 have HRW := hide (fun W (k : KG base w W) => rewrite_any tos id ttl 17 src dst keep so sd zo zd 17 mr.tt dst (n : Int) b W (hz W k).1 hBo hBd ((hOo.kg k).rd) ((hOd.kg k).rd) (by omega) (by omega) ht hid htl (by decide) hR.hx hR.hd hR.tt hR.hd ⟨by omega, by omega⟩ hR.hb)
 have hrw : rwe 17 17 src dst zo.length zd = 0 := by unfold rwe; simp [he, hfl]
 rw [hrw] at HRW
 obtain ⟨sox, soc, rfl, _, _⟩ := hOo.slice
 obtain ⟨sdx, sdc, rfl, _, _⟩ := hOd.slice
 have HG := hide (h.later l0)
 have HN := hide hn
 clear hv h hR he hea heb hfl hBo hBd hOo hOd hz hgz hrw hn hnr h3
 go_enter Tryz.func57, Tryz.ntmps57
 go_upto_region 1 with fail
 generalize (w.alloc (.cells _ 149)).alloc (.cells _ 56) = w1 at *
 generalize hgx : w.heap.size = gx at C0 C1 ⊢
 have k0 := block_cell C0.out
 go_wp2_with fail
 refine (HQ.out w1 l0).mono ?_
 rintro e w2 ⟨l2, rfl⟩
 have l2' : Later w1 w2 := l2
 clear k0 HQ l2
 go_upto_region 2 with fail
 have la := later_allocG w2 (.cells #[.int .u8 17, .int .u32 src, .int .u32 dst, .int .u16 (a : Int), .int .u16 b] 68)
 have C3 := hide (heap_alloc_new w2 (.cells #[.int .u8 17, .int .u32 src, .int .u32 dst, .int .u16 (a : Int), .int .u16 b] 68))
 have D0 := hide (later_keep (l2'.trans la) C0.out)
 have D1 := hide (later_keep (l2'.trans la) C1.out)
 have H3 := hide (HG.out.later (l2'.trans la))
 have L3 : Later w (w2.alloc (.cells #[.int .u8 17, .int .u32 src, .int .u32 dst, .int .u16 (a : Int), .int .u16 b] 68)) := l0.trans (l2'.trans la)
 change Code.wp _ _ _ _ (w2.alloc (.cells #[.int .u8 17, .int .u32 src, .int .u32 dst, .int .u16 (a : Int), .int .u16 b] 68))
 generalize w2.alloc (.cells #[.int .u8 17, .int .u32 src, .int .u32 dst, .int .u16 (a : Int), .int .u16 b] 68) = w3 at *
 generalize hg3 : w2.heap.size = g3 at *
 have hg3x : gx + 1 < g3 := by rw [← hg3]; exact Nat.lt_of_lt_of_le (bl9 C1.out) l2'.size
 clear C0 C1 HG l2' la hg3
 have k0 := block_cell D0.out
 have k3 := block_cell C3.out
 go_wp2_with fail
 refine (grefuse_no 1 _).mono ?_
 rintro e w4 ⟨rfl, hw4⟩
 subst hw4
 go_wp2_with fail
 refine (HOW.out w3 (KG.of_later L3) H3.out).mono ?_
 rintro e w4 ⟨f, pb, hfb, rfl, kg4, hid', ho, hr, hsd, hms, hhp, hG4⟩
 clear k0 k3 HOW H3
 have K4 : Hid (KG base w w4) := (KG.of_later L3).trans kg4
 have E0 := hide (kg4.cells D0.out (by decide))
 have E1 := hide (kg4.cells D1.out (by decide))
 have E3 := hide (kg4.cells C3.out (by decide))
 have hfx : g3 < f.blk := Nat.lt_of_lt_of_le (bl9 C3.out) hfb
 have G4 := hide hG4
 obtain ⟨TL, hF⟩ : ∃ TL, w4.heap[f.blk]? = some (.cells (flc (f.at 8 TL)).toArray 93 (0, 0)) := ⟨_, (hG4.fb (f.at 8 _) (mem_withF (f := f) (by show f ∈ _ ++ [f]; simp) rfl)).2⟩
 have hr2 : (f.at 8 TL).r = ⟨17, dst, mr.tt, b, (n : Int)⟩ := by
  show f.r = _
  rw [hr, HN.out]
  rfl
 have HOT := hide (other_no (f.at 8 TL) w4 hF)
 rw [hr2] at HOT
 have HFF := hide hF
 clear hG4 hF hr2 kg4
 go_wp2_with fail
 refine HOT.out.mono ?_
 rintro e w5 ⟨rfl, l5⟩
 go_wp2_with fail
 refine (reverse_any 17 dst mr.tt b (n : Int) w5).mono ?_
 rintro e w6 ⟨rfl, l6⟩
 have l6' : Later w5 w6 := l6
 clear l6 HOT
 have la := later_allocG w6 (.cells #[.int .u8 17, .int .u32 mr.tt, .int .u32 dst, .int .u16 (n : Int), .int .u16 b] 68)
 have CI := hide (heap_alloc_new w6 (.cells #[.int .u8 17, .int .u32 mr.tt, .int .u32 dst, .int .u16 (n : Int), .int .u16 b] 68))
 have LA := hide la
 clear la
 go_upto_region 7 with fail
 generalize w6.alloc _ = w7 at *
 generalize hg7 : w6.heap.size = g7 at *
 have L47 : Later w4 w7 := l5.trans (l6'.trans LA.out)
 have hg7x : g3 < g7 := by
  have q1 := (bl9 E3.out)
  have q2 := l5.size
  have q3 := l6'.size
  omega
 have J0 := hide (later_keep L47 E0.out)
 have J1 := hide (later_keep L47 E1.out)
 have J3 := hide (later_keep L47 E3.out)
 have JF := hide (later_keep L47 HFF.out)
 have K7 : Hid (KG base w w7) := K4.out.trans (KG.of_later L47)
 have G7 := hide (G4.out.later L47)
 clear E0 E1 E3 HFF K4 G4 l5 l6' LA hg7 L47
 have k0 := block_cell J0.out
 have kI := block_cell CI.out
 go_wp2_with fail
 refine (HRW.out w7 K7.out).mono ?_
 rintro e w8 ⟨l8, ⟨h0, _⟩ | ⟨_, ao, co, ad, cd, rfl, ho8, hd8⟩⟩
 ·exact absurd rfl h0
 have l8' : Later w7 w8 := l8
 clear k0 kI l8 HRW
 have la := later_allocG w8 (.cells #[.int .u8 tos, .int .u16 id, .bool keep, .int .u8 ttl, .int .u8 17, .int .u32 mr.tt, .int .u32 dst, .slice ao zo.length co, .slice ad zd.length cd] 56)
 have CP := hide (heap_alloc_new w8 (.cells #[.int .u8 tos, .int .u16 id, .bool keep, .int .u8 ttl, .int .u8 17, .int .u32 mr.tt, .int .u32 dst, .slice ao zo.length co, .slice ad zd.length cd] 56))
 have LA := hide la
 have hs78 : w7.heap.size ≤ w8.heap.size := l8'.size
 clear la
 go_upto_region 8 with fail
 generalize w8.alloc _ = w9 at *
 generalize hg9 : w8.heap.size = g9 at *
 have L79 : Later w7 w9 := l8'.trans LA.out
 have hg9x : g7 < g9 := by
  have q1 := (bl9 CI.out)
  omega
 have N0 := hide (later_keep L79 J0.out)
 have N1 := hide (later_keep L79 J1.out)
 have N3 := hide (later_keep L79 J3.out)
 have NF := hide (later_keep L79 JF.out)
 have NI := hide (later_keep L79 CI.out)
 have K9 : Hid (KG base w w9) := K7.out.trans (KG.of_later L79)
 have G9 := hide (G7.out.later L79)
 have O9 := hide ((ho8.mono K7.out.size).kg (KG.of_later (base := base) LA.out))
 have Q9 := hide ((hd8.mono K7.out.size).kg (KG.of_later (base := base) LA.out))
 clear J0 J1 J3 JF CI K7 G7 l8' LA hg9 L79 ho8 hd8 hs78
 refine anyT_begin (R := But (fun q => q = gx + 1)) 13 rfl (by kernel_rfl) ?_
 have ld : Later w9 w9.drew := Later.drew w9
 generalize w9.drew = wd at *
 have hnb : ∀ (k : Nat) (cur : Array Value) (t : TypeId) (fz : Nat × Nat), k ≠ gx + 1 → w9.heap[k]? = some (.cells cur t fz) → ∀ v, But (fun q => q = gx + 1) wd v → v.heap[k]? = some (.cells cur t fz) := fun k cur t fz hk hh v hv => (hv.block k (Array.getElem?_eq_some_iff.1 (later_keep ld hh)).1 (fun e => hk e)).trans (later_keep ld hh)
 have k0 : ∀ v, But (fun q => q = gx + 1) wd v → ∀ j, v.cell? ⟨gx, j, none⟩ = _ := fun v hv => block_cell (hnb gx _ _ _ (by omega) N0.out v hv)
 have k3 : ∀ v, But (fun q => q = gx + 1) wd v → ∀ j, v.cell? ⟨g3, j, none⟩ = _ := fun v hv => block_cell (hnb g3 _ _ _ (by omega) N3.out v hv)
 have k7 : ∀ v, But (fun q => q = gx + 1) wd v → ∀ j, v.cell? ⟨g7, j, none⟩ = _ := fun v hv => block_cell (hnb g7 _ _ _ (by omega) NI.out v hv)
 have k9 : ∀ v, But (fun q => q = gx + 1) wd v → ∀ j, v.cell? ⟨g9, j, none⟩ = _ := fun v hv => block_cell (hnb g9 _ _ _ (by omega) CP.out v hv)
 have kF : ∀ v, But (fun q => q = gx + 1) wd v → ∀ j, v.cell? ⟨f.blk, j, none⟩ = (flc (f.at 8 TL)).toArray[j]? := fun v hv => block_cell (hnb f.blk _ _ _ (by omega) NF.out v hv)
 unfold flc Fl.at at kF
 rw [hhp] at kF
 unfold noh at kF
 refine tV (But.pre (fun q => q = gx + 1)) 0 rfl rfl ⟨_, fun v h => by (go_simp; rfl), ?_⟩; simp only [Act.put, sA, sB, sC]
 refine tV (But.pre (fun q => q = gx + 1)) 1 rfl rfl ⟨_, fun v h => by (go_simp; rfl), ?_⟩; simp only [Act.put, sA, sB, sC]
 refine tV (But.pre (fun q => q = gx + 1)) 2 rfl rfl ⟨_, fun v h => by (go_simp; rfl), ?_⟩; simp only [Act.put, sA, sB, sC]
 refine tV (But.pre (fun q => q = gx + 1)) 3 rfl rfl ⟨_, fun v h => by (go_simp; rfl), ?_⟩; simp only [Act.put, sA, sB, sC]
 refine tV (But.pre (fun q => q = gx + 1)) 4 rfl rfl ⟨_, fun v h => by (go_simp; rfl), ?_⟩; simp only [Act.put, sA, sB, sC]
 refine tV (But.pre (fun q => q = gx + 1)) 5 rfl rfl ⟨_, fun v h => by (go_simp; rfl), ?_⟩; simp only [Act.put, sA, sB, sC]
 refine tV (But.pre (fun q => q = gx + 1)) 6 rfl rfl ⟨_, fun v h => by (go_simp; rfl), ?_⟩; simp only [Act.put, sA, sB, sC]
 refine tV (But.pre (fun q => q = gx + 1)) 7 rfl rfl ⟨_, fun v h => by (go_simp; rfl), ?_⟩; simp only [Act.put, sA, sB, sC]
 refine tV (But.pre (fun q => q = gx + 1)) 8 rfl rfl ⟨_, fun v h => by (go_simp; rfl), ?_⟩; simp only [Act.put, sA, sB, sC]
 refine tV (But.pre (fun q => q = gx + 1)) 9 rfl rfl ⟨_, fun v h => by (go_simp; rfl), ?_⟩; simp only [Act.put, sA, sB, sC]
 refine tV (But.pre (fun q => q = gx + 1)) 10 rfl rfl ⟨_, fun v h => by (go_simp; rfl), ?_⟩; simp only [Act.put, sA, sB, sC]
 clear k0 k3 k7 k9 kF
 refine anyT_one 11 rfl (by kernel_rfl) rfl ?_
 refine wp_enter 503 #[.agg #[], .agg #[.pointer (some ⟨g, 0, none⟩), .int .u8 tos, .int .u16 id, .bool keep, .int .u8 ttl, .int .u8 17, .int .u32 src, .int .u32 dst, .slice sox zo.length soc, .slice sdx zd.length sdc, .int .i64 0, .pointer (some ⟨f.blk, 0, none⟩), .bool false, .int .u8 17, .int .u32 src, .int .u32 dst, .int .u16 (a : Int), .int .u16 b, .int .u8 17, .int .u32 mr.tt, .int .u32 dst, .int .u16 (n : Int), .int .u16 b], .agg #[.int .u8 tos, .int .u16 id, .bool keep, .int .u8 ttl, .int .u8 17, .int .u32 mr.tt, .int .u32 dst, .slice ao zo.length co, .slice ad zd.length cd]] (by have hmt := meth_noh; go_simp) ?_
 refine (nohelp_any _ wd tos id ttl 17 mr.tt dst keep ao ad zo.length co zd.length cd).mono ?_
 rintro e w10 ⟨rfl, l10⟩
 refine ⟨But.of l10, ?_⟩
 simp only [Act.put, sA, sB, sC]
 have N1d := hide (later_keep (ld.trans l10) N1.out)
 have kk := block_cell N1d.out
 have ff := block_frozen N1d.out
 refine anyT_one 12 rfl (by kernel_rfl) rfl ?_
 unfold Oper.wp
 go_simp
 generalize hV : World.setCell _ ⟨_, 8, none⟩ _ = V8
 have hV9 : V8 = putRow w10 (gx + 1) 0 [.int .u8 tos, .int .u16 id, .bool keep, .int .u8 ttl, .int .u8 17, .int .u32 mr.tt, .int .u32 dst, .slice ao zo.length co, .slice ad zd.length cd] := hV.symm
 have hb8 : But (fun b => b = gx + 1) w10 V8 := by rw [hV9]; exact putRow_but (E := fun b => b = gx + 1) (n := gx + 1) rfl _ _ _ _ (But.refl _ _)
 have p8 := putRow_all [.int .u8 tos, .int .u16 id, .bool keep, .int .u8 ttl, .int .u8 17, .int .u32 mr.tt, .int .u32 dst, .slice ao zo.length co, .slice ad zd.length cd] N1d.out rfl
 rw [← hV9] at p8
 clear hV hV9 kk ff
 have HB8 := hide hb8
 have HP8 := hide p8
 clear hb8 p8
 refine ⟨HB8.out, ?_⟩
 refine anyT_done (by kernel_rfl) ?_
 have K10 : KG base w w10 := K9.out.trans (KG.of_later (ld.trans l10))
 have k8 : KG base w V8 := K10.own HB8.out (by omega)
 have o8 := ((O9.out.kg (KG.of_later (base := base) (ld.trans l10))).aside N1d.out (by decide) HB8.out)
 have q8 := ((Q9.out.kg (KG.of_later (base := base) (ld.trans l10))).aside N1d.out (by decide) HB8.out)
 have P8 := block_cell HP8.out
 go_wp2_with fail
 exact bodyPost_ret (v := .agg #[.int .u8 tos, .int .u16 id, .bool keep, .int .u8 ttl, .int .u8 17, .int .u32 mr.tt, .int .u32 dst, .slice ao zo.length co, .slice ad zd.length cd]) (by simp [results, Tryz.results57, go_sem, P8]) rfl ⟨f, pb, ao, co, ad, cd, Nat.le_trans L3.size hfb, rfl, k8, ⟨hid', ho, by rw [hr]; rfl, hsd, hms, hhp⟩, ((G9.out.later (ld.trans l10)).other (TE.one N1d.out) HB8.out (by decide)), o8, by rw [← HN.out]; exact q8⟩
theorem opp_in (w : World) : Calls Tryz.prog 58 #[.int .i64 0] w fun e w' => e = .returned (.int .i64 1) ∧ w' = w := by
 go_enter Tryz.func58, Tryz.ntmps58
 go_wp2_with fail
 go_ret
 exact ⟨rfl, rfl⟩
def Bgn (s : Gf) (src dst : Int) (a : Nat) (b : Int) (mr : Ru) (f : Fl) : Prop := f.id = s.bg ∧ f.o = ⟨17, src, dst, (a : Int), b⟩ ∧ f.r = ⟨17, dst, mr.tt, b, (tkn s.lo s.hi a : Int)⟩ ∧ f.side = 0 ∧ f.ms = -1 ∧ f.hp = noh
def bgS (s : Gf) (a : Nat) (mr : Ru) (pb : Nat) (f : Fl) : Gf := bcS (opS (withP s 17 mr.tt pb (wsR (wsOf (nums s.lo s.hi)) (tkn s.lo s.hi a))) f) f 8
def psB (s : Gf) (tos id ttl dst : Int) (keep : Bool) (zo zd : List Int) (a : Nat) (b : Int) (mr : Ru) : List Int := hdr tos id keep (ttl - 1) 17 mr.tt dst zo (20 + zo.length + zd.length) ++ rwD 17 mr.tt dst (tkn s.lo s.hi a : Int) b zd
def HdQ (base : Nat) (w w' : World) (g : Nat) (s : Gf) (zs : List Int) (a : Nat) (b : Int) (mr : Ru) (e : Ending) : Prop := ∃ (f : Fl) (pb : Nat) (v : Value), w.heap.size ≤ f.blk ∧ e = .returned (.agg #[.int .i64 0, .int .i64 1, v]) ∧ KG base w w' ∧ Bgn s (wat4 zs 12) (wat4 zs 16) a b mr f ∧ GF base w' g (bgS s a mr pb f) ∧ Ow w.heap.size w' v (psB s (zs[1]?.getD 0) (wat zs 4) (zs[8]?.getD 0) (wat4 zs 16) (decide (16384 ≤ wat zs 6 % 32768)) ((zs.take (hl4 zs).toNat).drop 20) ((zs.take (ral false zs).toNat).drop (hl4 zs).toNat) a b mr)
theorem handle_yes (base g : Nat) (s : Gf) (sb : Value) (zs : List Int) (a : Nat) (b : Int) (mr : Ru) (w : World) (h : GF base w g s) (hB : Mt.By zs) (hI : Rd w.heap.size w sb zs) (hl : zs.length ≤ 60000)
  (hp : rde false zs = 0) (hpr : zs[9]?.getD 0 = 17) (htt : (2 : Int) ≤ zs[8]?.getD 0) (hR : Rdy s (wat4 zs 12) (wat4 zs 16) a b mr) (he : ofe 17 (wat4 zs 12) (wat4 zs 16) ((zs.take (ral false zs).toNat).drop (hl4 zs).toNat) = 0) (hea : ofa 17 ((zs.take (ral false zs).toNat).drop (hl4 zs).toNat) = (a : Int)) (heb : ofb 17 ((zs.take (ral false zs).toNat).drop (hl4 zs).toNat) = b) (hlo : ((zs.take (hl4 zs).toNat).drop 20).length ≤ 40) (hlm : ((zs.take (hl4 zs).toNat).drop 20).length % 4 = 0) (hall : 20 + ((zs.take (hl4 zs).toNat).drop 20).length + ((zs.take (ral false zs).toNat).drop (hl4 zs).toNat).length ≤ 65535)
  (hbs : base ≤ w.heap.size) (hz : ∀ W, KG base w W → Tb W ∧ Dz W) (hgz : 1 ≤ w.heap.size) :
  Calls Tryz.prog 25 #[.pointer (some ⟨g, 0, none⟩), .int .i64 0, sb] w fun e w' => HdQ base w w' g s zs a b mr e := by
 unfold HdQ
 have hmf : ∀ (fn : Fn) (first cap : Array Value) (w : World), (Instr.makeFunc fn first cap).run Tryz.prog w = .ok (.func fn first cap) w := fun _ _ _ _ => rfl
 obtain ⟨ia, icap, rfl, hl1, hm1⟩ := hI.slice
 have l0 := later_allocG w (.cells (oc 0).toArray 40)
 have C0 := hide (heap_alloc_new w (.cells (oc 0).toArray 40))
 have HP := hide (parse_any _ zs _ hB (by omega) (hI.later l0))
 have HG := hide h
 have bt := hB.at 1
 have bl := hB.at 8
 have bi : 0 ≤ wat zs 4 ∧ wat zs 4 ≤ 65535 := wat_bd hB 4
 have hBd : Mt.By ((zs.take (ral false zs).toNat).drop (hl4 zs).toNat) := (hB.take _).drop _
 have hBo : Mt.By ((zs.take (hl4 zs).toNat).drop 20) := (hB.take _).drop _
 clear h hI
 go_enter_defers Tryz.func25, Tryz.ntmps25
 go_wp2_with fail
 change Calls _ _ _ (w.alloc (.cells (oc 0).toArray 40)) _
 generalize hw1 : w.alloc (.cells (oc 0).toArray 40) = w1 at *
 clear hw1
 refine HP.out.mono ?_
 rintro e w2 ⟨l2, ⟨h1, rfl⟩ | ⟨h1, so, sd, rfl, hOo, hOd⟩⟩
 ·exact absurd hp h1
 clear h1 HP hp
 have l2' : Later w1 w2 := l2
 obtain ⟨oa, ocp, rfl, _, _⟩ := hOo.slice
 obtain ⟨da, dcp, rfl, _, _⟩ := hOd.slice
 have hld : ((zs.take (ral false zs).toNat).drop (hl4 zs).toNat).length ≤ 65535 := by omega
 generalize hzd : ((zs.take (ral false zs).toNat).drop (hl4 zs).toNat) = zd at *
 generalize hzo : ((zs.take (hl4 zs).toNat).drop 20) = zo at *
 unfold pkt
 rw [hpr]
 generalize htos : zs[1]?.getD 0 = tos at *
 generalize hidd : wat zs 4 = id at *
 generalize hkp : decide (16384 ≤ wat zs 6 % 32768) = keep at *
 generalize httl : zs[8]?.getD 0 = ttl at *
 clear hpr
 generalize hsrc : wat4 zs 12 = src at *
 generalize hdst : wat4 zs 16 = dst at *
 have EQS := hide (show (((zs[1]?.getD 0 = tos ∧ wat zs 4 = id) ∧ decide (16384 ≤ wat zs 6 % 32768) = keep) ∧ zs[8]?.getD 0 = ttl) ∧ (wat4 zs 12 = src ∧ wat4 zs 16 = dst) ∧ ((zs.take (ral false zs).toNat).drop (hl4 zs).toNat) = zd ∧ ((zs.take (hl4 zs).toNat).drop 20) = zo from ⟨⟨⟨⟨htos, hidd⟩, hkp⟩, httl⟩, ⟨hsrc, hdst⟩, hzd, hzo⟩)
 clear htos hidd hkp httl hsrc hdst hzd hzo
 have la := later_allocG w2 (.cells #[.int .u8 tos, .int .u16 id, .bool keep, .int .u8 ttl, .int .u8 17, .int .u32 src, .int .u32 dst, .slice oa zo.length ocp, .slice da zd.length dcp] 56)
 have CP := hide (heap_alloc_new w2 (.cells #[.int .u8 tos, .int .u16 id, .bool keep, .int .u8 ttl, .int .u8 17, .int .u32 src, .int .u32 dst, .slice oa zo.length ocp, .slice da zd.length dcp] 56))
 have D0 := hide (later_keep (l2'.trans la) C0.out)
 have L3 : Later w (w2.alloc (.cells #[.int .u8 tos, .int .u16 id, .bool keep, .int .u8 ttl, .int .u8 17, .int .u32 src, .int .u32 dst, .slice oa zo.length ocp, .slice da zd.length dcp] 56)) := l0.trans (l2'.trans la)
 have O3 := hide (hOo.kg (KG.of_later (base := base) la))
 have Q3 := hide (hOd.kg (KG.of_later (base := base) la))
 have hgp : w1.heap.size ≤ w2.heap.size := l2'.size
 have hg1 := (bl9 C0.out)
 clear hOo hOd la l2 l2'
 go_upto_region 3 with fail
 change Code.wp _ _ _ _ (w2.alloc (.cells #[.int .u8 tos, .int .u16 id, .bool keep, .int .u8 ttl, .int .u8 17, .int .u32 src, .int .u32 dst, .slice oa zo.length ocp, .slice da zd.length dcp] 56))
 generalize w2.alloc (.cells #[.int .u8 tos, .int .u16 id, .bool keep, .int .u8 ttl, .int .u8 17, .int .u32 src, .int .u32 dst, .slice oa zo.length ocp, .slice da zd.length dcp] 56) = w3 at *
 generalize w2.heap.size = gp at *
 have H3 := hide (HG.out.later L3)
 have hfl : flt zo.length zd.length = 0 := by unfold flt; rw [if_neg (by omega), if_neg (by omega)]
 have HCH := hide (changed_yes base g s tos id ttl src dst keep (.slice oa zo.length ocp) (.slice da zd.length dcp) zo zd a b mr w1.heap.size w3 H3.out hR he hea heb hfl hBo hBd O3.out Q3.out (by omega) (by omega) bt bi bl (Nat.le_trans hbs L3.size) (fun W k => hz W ((KG.of_later L3).trans k)) (Nat.le_trans hgz L3.size))
 have btt := hR.tt
 have bdd := hR.hd
 clear H3 he hea heb hfl hz hgz O3 Q3 HG hR C0
 have kp := block_cell CP.out
 have ht2 : ¬ ttl < 2 := by omega
 go_wp2_with fail
 refine (grefuse_no 1 _).mono ?_
 rintro e w4 ⟨rfl, hw4⟩
 subst hw4
 go_wp2_with fail
 refine HCH.out.mono ?_
 rintro e w4 ⟨f, pb, ao, co, ad, cd, hfb, rfl, k4, hbn, hG4, o4, q4⟩
 clear kp HCH
 have K4 : KG base w w4 := (KG.of_later L3).trans k4
 have E0 := hide (k4.cells D0.out (by decide))
 have EP := hide (k4.cells CP.out (by decide))
 have G4 := hide hG4
 have o4' := hide (o4.mono L3.size)
 have q4' := hide (q4.mono L3.size)
 have HBN := hide hbn
 clear D0 CP hG4 o4 q4 k4 hbn
 have kp := block_cell EP.out
 have fp := block_frozen EP.out
 go_upto_region 5 with fail
 generalize hV : World.setCell _ ⟨_, 8, none⟩ _ = w5
 have hV9 : w5 = putRow w4 gp 0 [.int .u8 tos, .int .u16 id, .bool keep, .int .u8 ttl, .int .u8 17, .int .u32 mr.tt, .int .u32 dst, .slice ao zo.length co, .slice ad zd.length cd] := hV.symm
 have hb5 : But (fun b => b = gp) w4 w5 := by rw [hV9]; exact putRow_but (E := fun b => b = gp) (n := gp) rfl _ _ _ _ (But.refl _ _)
 have p5 := putRow_all [.int .u8 tos, .int .u16 id, .bool keep, .int .u8 ttl, .int .u8 17, .int .u32 mr.tt, .int .u32 dst, .slice ao zo.length co, .slice ad zd.length cd] EP.out rfl
 rw [← hV9] at p5
 clear hV hV9 kp fp
 have G5 := hide (G4.out.other (TE.one EP.out) hb5 (by decide))
 have O5 := hide (o4'.out.aside EP.out (by decide) hb5)
 have Q5 := hide (q4'.out.aside EP.out (by decide) hb5)
 have K5 : Hid (KG base w w5) := K4.own hb5 (by omega)
 have F0 := hide ((hb5.block w.heap.size (bl9 E0.out) (fun e => by have e' : w.heap.size = gp := e; omega)).trans E0.out)
 have FP := hide p5
 clear G4 o4' q4' K4 E0 EP hb5 p5
 have kp := block_cell FP.out
 have fp := block_frozen FP.out
 have P6 := hide (heap_set1 FP.out 3 (.int .u8 (ttl - 1)))
 have hb6 : But (fun b => b = gp) w5 (w5.setCell ⟨gp, 3, none⟩ (.int .u8 (ttl - 1))) := (But.refl (fun b => b = gp) w5).setCell (p := ⟨gp, 3, none⟩) (show _ = _ from rfl) _
 have HB6 := hide hb6
 clear hb6
 go_upto_region 6 with fail
 have hQ6 : (w5.setCell ⟨gp, 3, none⟩ (.int .u8 (ttl - 1))).heap[gp]? = some (.cells #[.int .u8 tos, .int .u16 id, .bool keep, .int .u8 (ttl - 1), .int .u8 17, .int .u32 mr.tt, .int .u32 dst, .slice ao zo.length co, .slice ad zd.length cd] 56 (0, 0)) := P6.out
 have G6 := hide (G5.out.other (TE.one FP.out) HB6.out (by decide))
 have o6 := O5.out.aside FP.out (by decide) HB6.out
 have q6 := Q5.out.aside FP.out (by decide) HB6.out
 have O6 := hide o6
 have Q6 := hide q6
 have K6 := hide (K5.out.own HB6.out (by omega))
 have F6 := hide ((HB6.out.block w.heap.size (bl9 F0.out) (fun e => by have e' : w.heap.size = gp := e; omega)).trans F0.out)
 have FQ6 := hide hQ6
 have hrl : (rwD 17 mr.tt dst (tkn s.lo s.hi a : Int) b zd).length = zd.length := by
  obtain ⟨_, _, e, _, _⟩ := q6.slice
  injection e with e1 e2 e3
  exact e2.symm
 have HRL := hide hrl
 clear o6 q6 hQ6 hrl kp fp G5 O5 Q5 K5 F0 FP P6 HB6
 generalize w5.setCell ⟨gp, 3, none⟩ (.int .u8 (ttl - 1)) = w6 at *
 have HBU := hide (build_yes tos id (ttl - 1) 17 mr.tt dst keep (.slice ao zo.length co) (.slice ad zd.length cd) zo (rwD 17 mr.tt dst (tkn s.lo s.hi a : Int) b zd) w6 hBo O6.out.rd Q6.out.rd hlo hlm (by rw [HRL.out]; exact hall) bt bi (by omega) (by decide) btt bdd)
 rw [HRL.out] at HBU
 have k6 := block_cell FQ6.out
 clear hall hlm hlo
 go_wp2_with fail
 refine HBU.out.mono ?_
 rintro e w7 ⟨v, rfl, hO7, l7⟩
 have l7' : Later w6 w7 := l7
 obtain ⟨va, vc, rfl, _, _⟩ := hO7.slice
 have F7 := hide (later_keep l7' F6.out)
 have G7 := hide (G6.out.later l7')
 have K7 := hide (K6.out.trans (KG.of_later l7'))
 have O7 := hide (hO7.mono K6.out.size)
 clear k6 HBU l7 l7' hO7 F6 G6 K6 O6 Q6 FQ6
 generalize hob : hdr tos id keep (ttl - 1) 17 mr.tt dst zo (20 + zo.length + zd.length) ++ rwD 17 mr.tt dst (tkn s.lo s.hi a : Int) b zd = ob at *
 have HOB := hide hob
 clear hob
 go_wp2_with fail
 refine (opp_in w7).mono ?_
 rintro e w8 ⟨rfl, hw8⟩
 subst hw8
 have k0 := block_cell F7.out
 have f0 := block_frozen F7.out
 unfold oc at k0
 go_wp2_with fail
 generalize hV : World.setCell _ ⟨_, 2, none⟩ _ = V8
 have hV9 : V8 = putRow w8 w.heap.size 0 [.int .i64 0, .int .i64 1, .slice va ob.length vc] := hV.symm
 have hb8 : But (fun b => b = w.heap.size) w8 V8 := by rw [hV9]; exact putRow_but (E := fun b => b = w.heap.size) (n := w.heap.size) rfl _ _ _ _ (But.refl _ _)
 have p8 := putRow_all [.int .i64 0, .int .i64 1, .slice va ob.length vc] F7.out rfl
 rw [← hV9] at p8
 clear hV hV9 k0 f0
 have h8 := G7.out.other (TE.one F7.out) hb8 (by decide)
 have o8 := O7.out.aside F7.out (by decide) hb8
 have k8 := K7.out.own hb8 (Nat.le_refl _)
 exact gdoor_idle _ w.heap.size _ _ _ V8 p8 rfl ⟨f, pb, .slice va ob.length vc, Nat.le_trans L3.size hfb, rfl, k8, by obtain ⟨⟨⟨⟨q1, q2⟩, q3⟩, q4⟩, ⟨q5, q6⟩, q7, q8⟩ := EQS.out; unfold Bgn; rw [q5, q6]; exact HBN.out, h8, by obtain ⟨⟨⟨⟨q1, q2⟩, q3⟩, q4⟩, ⟨q5, q6⟩, q7, q8⟩ := EQS.out; unfold psB; rw [q1, q2, q3, q4, q6, q7, q8, HOB.out]; exact o8⟩
def gfS (lo hi : Nat) (s : Gs) : Gf := { lo := lo, hi := hi, now := s.now, bg := 0, ls := s.ls, gr := s.gr, gf := s.gf, gt := s.gt, gb := s.gb, gp := s.gp, vr := s.vr, ve := s.ve, ex := [], cnt := 0, trn := 0, rw := fun _ => [], fs := [], ps := [], fe := #[], pe := #[], cf := s.cf, cp := s.cp }
theorem GI.toF {base g : Nat} {W : World} {s : Gs} {lo hi : Nat} (h : GI base W g s) (hk : GsK base (lo : Int) (hi : Int) s) : GF base W g (gfS lo hi s) := by
 obtain ⟨e1, e2, e3, e4, e5, e6⟩ := hk
 refine ⟨h.bs, ?_, h.rl, h.tb, h.bl, h.fl, h.pl, e4, ⟨e5, e6⟩, rfl, rfl, (fun f hf => by cases hf), (fun p hp => by cases hp)⟩
 have q := h.gc
 unfold gtc at q
 rw [e1, e2] at q
 exact q
structure Rdx (lo hi : Nat) (ls : List Ru) (x d : Int) (a : Nat) (b : Int) (mr : Ru) : Prop where
 ok : okL ls
 fd : ls.find? (mqB x) = some mr
 hx : 0 ≤ x ∧ x ≤ 4294967295
 hd : 0 ≤ d ∧ d ≤ 4294967295
 ha : a ≤ 65535
 hb : 0 ≤ b ∧ b ≤ 65535
 tt : 0 ≤ mr.tt ∧ mr.tt ≤ 4294967295
 h1 : 1 ≤ lo
 h2 : lo ≤ hi
 h3 : hi < 65536
 s1 : (b == 5060) = false
 s2 : ((a : Int) == 5060) = false
 ne : ¬ (x = d ∧ d = mr.tt)
theorem kx_nil (p s d a b : Int) : kx p s d a b (fun _ => []) = none := by
 unfold kx kix
 simp
theorem Rdx.rdy {lo hi : Nat} {base : Nat} {s : Gs} {x d : Int} {a : Nat} {b : Int} {mr : Ru} (h : Rdx lo hi s.ls x d a b mr) (hk : GsK base (lo : Int) (hi : Int) s) : Rdy (gfS lo hi s) x d a b mr := by
 obtain ⟨e1, e2, e3, e4, e5, e6⟩ := hk
 exact ⟨rfl, h.ok, h.fd, h.hx, h.hd, h.ha, h.hb, h.tt, h.h1, h.h2, h.h3, h.s1, h.s2, kx_nil _ _ _ _ _, fun n => kx_nil _ _ _ _ _, by show (0 : Nat) < 64; decide, h.ne, by show (0 : Int) ≤ 0 ∧ (0 : Int) ≤ 900000; decide, e3, by show (0 : Int) ≤ 0 ∧ (0 : Int) ≤ 1000000; decide, (fun y hy => by cases hy), by show (0 : Int) ≤ 0 ∧ (0 : Int) ≤ 1000; decide, fun i => by show (0 : Nat) ≤ 4000; decide⟩
theorem TkG.kg {base g : Nat} {w w' : World} {s : Gs} (h : But (fun b => b = g ∨ b = s.gb) w w') (hg : GI base w g s) : KG base w w' := KG.of_but h (fun k e => by
 rcases e with e | e
 ·rw [e]
  refine ⟨hg.bs, fun ob ho => ?_⟩
  rw [hg.gc] at ho
  cases ho
  show gTs.contains _ = true
  decide
 ·rw [e]
  refine ⟨hg.bl.1, fun ob ho => ?_⟩
  rw [hg.bl.2.1] at ho
  cases ho
  show gTs.contains _ = true
  decide)
def PkQ (base : Nat) (w w' : World) (g : Nat) (lo hi : Nat) (ls : List Ru) (zs : List Int) (a : Nat) (b : Int) (mr : Ru) (e : Ending) : Prop := ∃ (s : Gs) (f : Fl) (pb : Nat) (v : Value), s.ls = ls ∧ GsK base (lo : Int) (hi : Int) s ∧ w.heap.size ≤ f.blk ∧ e = .returned (.agg #[.int .i64 0, .int .i64 1, v]) ∧ KG base w w' ∧ Bgn (gfS lo hi s) (wat4 zs 12) (wat4 zs 16) a b mr f ∧ GF base w' g (bgS (gfS lo hi s) a mr pb f) ∧ Ow w.heap.size w' v (psB (gfS lo hi s) (zs[1]?.getD 0) (wat zs 4) (zs[8]?.getD 0) (wat4 zs 16) (decide (16384 ≤ wat zs 6 % 32768)) ((zs.take (hl4 zs).toNat).drop 20) ((zs.take (ral false zs).toNat).drop (hl4 zs).toNat) a b mr)
theorem packet_yes (base g n0 : Nat) (s : Gs) (lo hi : Nat) (nw : Int) (sb : Value) (zs : List Int) (a : Nat) (b : Int) (mr : Ru) (w : World) (h : GI base w g s) (hk : GsK base (lo : Int) (hi : Int) s) (hbs : base ≤ w.heap.size) (hB : Mt.By zs) (hI : Ow n0 w sb zs) (hl : zs.length ≤ 60000)
  (hp : rde false zs = 0) (hpr : zs[9]?.getD 0 = 17) (htt : (2 : Int) ≤ zs[8]?.getD 0) (hR : Rdx lo hi s.ls (wat4 zs 12) (wat4 zs 16) a b mr) (he : ofe 17 (wat4 zs 12) (wat4 zs 16) ((zs.take (ral false zs).toNat).drop (hl4 zs).toNat) = 0) (hea : ofa 17 ((zs.take (ral false zs).toNat).drop (hl4 zs).toNat) = (a : Int)) (heb : ofb 17 ((zs.take (ral false zs).toNat).drop (hl4 zs).toNat) = b) (hlo : ((zs.take (hl4 zs).toNat).drop 20).length ≤ 40) (hlm : ((zs.take (hl4 zs).toNat).drop 20).length % 4 = 0) (hall : 20 + ((zs.take (hl4 zs).toNat).drop 20).length + ((zs.take (ral false zs).toNat).drop (hl4 zs).toNat).length ≤ 65535)
  (hz : ∀ W, KG base w W → Tb W ∧ Dz W) (hgz : 1 ≤ w.heap.size) :
  Calls Tryz.prog 8 #[.pointer (some ⟨g, 0, none⟩), .int .i64 nw, .int .i64 0, sb] w fun e w' => PkQ base w w' g lo hi s.ls zs a b mr e := by
 obtain ⟨sa, sc, rfl, _, _⟩ := hI.slice
 have l0 := later_allocG w (.cells (oc 0).toArray 40)
 have C0 := hide (heap_alloc_new w (.cells (oc 0).toArray 40))
 have h1 := h.later l0
 have HH := hide (fun (W : World) (s2 : Gs) (k : KG base w W) (e : s2.ls = s.ls) (hk2 : GsK base (lo : Int) (hi : Int) s2) (hg : GI base W g s2) => handle_yes base g (gfS lo hi s2) (.slice sa zs.length sc) zs a b mr W (hg.toF hk2) hB ((hI.kg k).rd) hl hp hpr htt (Rdx.rdy (by rw [e]; exact hR) hk2) he hea heb hlo hlm hall (Nat.le_trans hbs k.size) (fun V k2 => hz V (k.trans k2)) (Nat.le_trans hgz k.size))
 have HG := hide h
 have H1 := hide h1
 have HK := hide hk
 clear h h1 hk hB hI hl hp hpr htt hR he hea heb hlo hlm hall hz hgz
 go_enter Tryz.func8, Tryz.ntmps8
 go_upto_region 3 with fail
 change Code.wp _ _ _ _ (w.alloc (.cells (oc 0).toArray 40))
 generalize w.alloc (.cells (oc 0).toArray 40) = w1 at *
 generalize hgx : w.heap.size = gx at C0 ⊢
 have hs1 : base ≤ w1.heap.size := Nat.le_trans hbs l0.size
 go_wp2_with fail
 refine (tick_none base g s nw w1 H1.out hs1).mono ?_
 rintro e w2 ⟨rfl, M2, s2, hl2, hg2, h2⟩
 have K2 : KG base w w2 := (KG.of_later l0).trans (TkG.kg M2 H1.out)
 have hk2 := hg2.2 _ _ _ HK.out
 have D0 := hide ((TkG.kg M2 H1.out).cells C0.out (by decide))
 have HHN := hide (HH.out w2 s2 K2 hl2 hk2 h2)
 have HK2 := hide hk2
 have hgw : gx < w2.heap.size := (bl9 D0.out)
 clear M2 C0 H1 hs1 HH h2 hk2
 go_wp2_with fail
 refine HHN.out.mono ?_
 rintro e w3 ⟨f, pb, v, hfb, rfl, k3, hbn, hG3, hO3⟩
 have E0 := hide (k3.cells D0.out (by decide))
 have G3 := hide hG3
 have O3 := hide (hO3.mono K2.size)
 have K3 : Hid (KG base w w3) := K2.trans k3
 have hfb2 : w.heap.size ≤ f.blk := Nat.le_trans K2.size hfb
 obtain ⟨va, vc, eqv, _, _⟩ := hO3.slice
 obtain ⟨ln, rfl⟩ : ∃ ln, v = .slice va ln vc := ⟨_, eqv⟩
 clear eqv
 have k0 := block_cell E0.out
 have f0 := block_frozen E0.out
 clear HHN hG3 hO3 D0 k3
 go_wp2_with fail
 generalize hV : World.setCell _ ⟨gx, 2, none⟩ _ = V8
 have hV9 : V8 = putRow w3 gx 0 [.int .i64 0, .int .i64 1, .slice va ln vc] := hV.symm
 have hb8 : But (fun b => b = gx) w3 V8 := by rw [hV9]; exact putRow_but (E := fun b => b = gx) (n := gx) rfl _ _ _ _ (But.refl _ _)
 have p8 := putRow_all [.int .i64 0, .int .i64 1, .slice va ln vc] E0.out rfl
 rw [← hV9] at p8
 clear hV hV9 k0 f0
 have P8 := block_cell p8
 have h8 := G3.out.other (TE.one E0.out) hb8 (by decide)
 have o8 := O3.out.aside E0.out (by decide) hb8
 have k8 := K3.out.own hb8 (by omega)
 exact bodyPost_ret (v := .agg #[.int .i64 0, .int .i64 1, .slice va ln vc]) (by simp [results, Tryz.results8, go_sem, P8]) rfl ⟨s2, f, pb, .slice va ln vc, hl2, HK2.out, by omega, rfl, k8, hbn, h8, o8⟩
end Go.Proofs.YtofknbfbmaefoaaGreatDoor
