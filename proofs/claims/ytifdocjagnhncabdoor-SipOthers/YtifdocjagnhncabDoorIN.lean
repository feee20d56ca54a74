/- Package sip: a body, changed line by line. -/
import Derived.Test.YtifdocjagnhncabDoorIM
import Derived.Lib.AppendStr
namespace Go.Proofs.YtifdocjagnhncabDoor
open Go.RowKit Go.Shelf
set_option maxRecDepth 100000
attribute [local go_sem] Oper.semAt_some
set_option linter.unusedVariables false
set_option linter.unusedSimpArgs false

def CTs (A B : World) : Prop := A.heap.size ≤ B.heap.size ∧ ∀ (k : Nat) (o : Obj), A.heap[k]? = some o → o.isCells = true → B.heap[k]? = some o
theorem CTs.of {A B : World} (h : Later A B) : CTs A B := ⟨h.size, fun k o ho _ => later_keep h ho⟩
theorem CTs.row {A B : World} {row : Option Nat} (hg : A.grownBy B row) (hr : ∀ r, row = some r → ∃ o : Obj, A.heap[r]? = some o ∧ o.isCells = false) : CTs A B :=
  ⟨hg.size, fun k o ho hc => (hg.block k (Array.getElem?_eq_some_iff.1 ho).1 (fun e => by obtain ⟨o', h1, h2⟩ := hr k e.symm; rw [ho] at h1; cases h1; rw [hc] at h2; cases h2)).trans ho⟩
theorem CTs.put {A : World} {l : Nat} {o o' : Obj} (h : A.heap[l]? = some o) (hc : o.isCells = false) : CTs A (A.putObj l o') :=
  CTs.row (grownBy_putObj' A l o') (fun r e => by cases e; exact ⟨o, h, hc⟩)
theorem ownsS_ct {base : Nat} {e : TypeId} {size : Nat} {A B : World} {v : Value} {n : Nat} {xs : List Value} (h : A.ownsRow base e size v n xs) (c : CTs A B) : B.ownsRow base e size v n xs := by
  obtain ⟨h1, h2 | ⟨g, cap, cur, hv, hg, hh, r⟩⟩ := h
  · exact ⟨h1, .inl h2⟩
  · exact ⟨h1, .inr ⟨g, cap, cur, hv, hg, c.2 _ _ hh rfl, r⟩⟩

/-- Lines, changed, one behind the other. -/
def bdL (c : Cg) (ls : List (ByteArray × ByteArray)) : ByteArray := ls.foldl (fun b x => b ++ (lnB c x.1 ++ x.2)) ⟨#[]⟩
theorem bdL_snoc (c : Cg) (l : List (ByteArray × ByteArray)) (x : ByteArray × ByteArray) : bdL c (l ++ [x]) = bdL c l ++ (lnB c x.1 ++ x.2) := by unfold bdL; simp
def bdB (c : Cg) (s : ByteArray) : ByteArray := bdL c (lnsB s)
theorem lnB_size (c : Cg) (hc : c.wf) (l : ByteArray) : (lnB c l).size ≤ 2 * l.size + 2010 := by
  obtain ⟨⟨h1, h2⟩, _, _, h5⟩ := hc
  unfold lnB
  split
  · rw [ByteArray.size_append]; have : cnB.size = 9 := rfl; omega
  split
  · rw [ByteArray.size_append]; have := tsB_size l c.host; omega
  cases hm : mdO l with
  | none => simp only [mlB]; omega
  | some m =>
    obtain ⟨a, p, b⟩ := m
    simp only [mlB]
    obtain ⟨q1, q2, q3⟩ := mdO_size hm
    have hd := decB_size (inB c.media p).toNat (by have := inB_rng h5 q3; omega)
    rw [ByteArray.size_append, ByteArray.size_append]
    omega
def nvs (r : ByteArray) : List Value := (nmsB r).map (Value.int .u8)
theorem nvs_str (r : ByteArray) : nvs r = Lib.strCells r := by unfold nvs nmsB Lib.strCells; rw [List.map_map]; rfl
theorem nvs_app (s t : ByteArray) : nvs (s ++ t) = nvs s ++ nvs t := by unfold nvs nmsB; simp
/-- Every line is a part of the text. -/
theorem lnsF_mem : ∀ (n : Nat) (s : ByteArray) (x : ByteArray × ByteArray), x ∈ lnsF n s → x.1.size ≤ s.size ∧ x.2.size ≤ s.size
  | 0, s, x, h => by cases h
  | n + 1, s, x, h => by
    unfold lnsF at h
    split at h
    · cases h
    · have hz := cut_size s crB
      rcases List.mem_cons.1 h with rfl | h
      · refine ⟨hz.1, ?_⟩
        unfold betw
        rw [ByteArray.size_extract]
        omega
      · have := lnsF_mem n _ x h
        omega
theorem lnsF_len : ∀ (n : Nat) (s : ByteArray), (lnsF n s).length ≤ n
  | 0, s => Nat.le_refl _
  | n + 1, s => by
    unfold lnsF
    split
    · simp
    · have := lnsF_len n (cutZ s crB)
      simp only [List.length_cons]
      omega
theorem bdL_size (c : Cg) (hc : c.wf) (k : Nat) : ∀ (n : Nat) (l : List (ByteArray × ByteArray)), l.length = n → (∀ x ∈ l, x.1.size ≤ k ∧ x.2.size ≤ k) → (bdL c l).size ≤ n * (3 * k + 2010)
  | 0, l, hl, _ => by
    rw [List.length_eq_zero_iff.1 hl]
    exact Nat.zero_le _
  | n + 1, l, hl, h => by
    rcases List.eq_nil_or_concat l with rfl | ⟨l', x, e⟩
    · cases hl
    rw [List.concat_eq_append] at e
    subst e
    have h1 := bdL_size c hc k n l' (by simpa using hl) (fun y hy => h y (List.mem_append_left _ hy))
    have h2 := h x (List.mem_append_right _ (List.mem_singleton_self x))
    have h3 := lnB_size c hc x.1
    rw [bdL_snoc, ByteArray.size_append, ByteArray.size_append, Nat.add_mul, Nat.one_mul]
    omega

/-- What body keeps while it goes along the lines. -/
def PB14 (rb base : Nat) (c : Cg) (mv : Value) (pre : List (ByteArray × ByteArray)) (W : World) : Prop :=
  (∃ v, W.heap[rb + 1]? = some (.cells #[v] 23 (0, 0)) ∧ W.ownsRow base 5 1 v (bdL c pre).size (nvs (bdL c pre))) ∧ W.heap[rb]? = some (.cells #[.string c.host, .string c.is, .int .u16 c.port, .int .u16 c.np, mv] 65 (0, 0))
theorem PB14.ct {rb base : Nat} {c : Cg} {mv : Value} {pre : List (ByteArray × ByteArray)} {A B : World} (h : PB14 rb base c mv pre A) (k : CTs A B) : PB14 rb base c mv pre B := by
  obtain ⟨⟨v, h1, h2⟩, h3⟩ := h
  exact ⟨⟨v, k.2 _ _ h1 rfl, ownsS_ct h2 k⟩, k.2 _ _ h3 rfl⟩
theorem owns_form {W : World} {base : Nat} {e : TypeId} {size : Nat} {v : Value} {n : Nat} {xs : List Value} (h : W.ownsRow base e size v n xs) : ∃ a cap, v = .slice a n cap := by
  rcases h.2 with ⟨rfl, rfl⟩ | ⟨g, cap, cur, rfl, _⟩
  · exact ⟨_, _, rfl⟩
  · exact ⟨_, _, rfl⟩
theorem owns_blk {W : World} {base : Nat} {e : TypeId} {size : Nat} {v : Value} {n : Nat} {xs : List Value} (h : W.ownsRow base e size v n xs) : ∀ r, v.ownBlock = some r → ∃ cur, W.heap[r]? = some (.cells cur e (0, 0)) ∧ base ≤ r := fun r hr => by
  rcases h.2 with ⟨rfl, rfl⟩ | ⟨g, cap, cur, rfl, hg, hh, _⟩
  · cases hr
  · cases hr; exact ⟨cur, hh, hg⟩
theorem hsetS_ne {W : World} {n m j : Nat} {v : Value} {o : Obj} (h : W.heap[n]? = some o) (hne : n ≠ m) : (W.setCell ⟨m, j, none⟩ v).heap[n]? = some o := (Below.heap_setCell W ⟨m, j, none⟩ v n hne).trans h

set_option maxRecDepth 100000 in
set_option maxHeartbeats 8000000 in
theorem body_any (c : Cg) (mv sb : Value) (zb : List Int) (w : World) (hT : TabI w) (hM : TabM w) (hc : c.wf) (hI : RdP2 w.heap.size w mv c.media) (hB : Rd w.heap.size w sb zb) (hz : zb.length ≤ 4096) :
    Calls Tryd.prog 42 #[.agg #[.string c.host, .string c.is, .int .u16 c.port, .int .u16 c.np, mv], sb] w fun e w' => Later w w' ∧ ∃ v, e = .returned v ∧ w'.ownsRow w.heap.size 5 1 v (bdB c (strOfNums zb)).size (nvs (bdB c (strOfNums zb))) := by
  have hcv : ∀ W, Later w W → (convert 23 9 sb).run Tryd.prog W = .ok (.string (strOfNums zb)) W := fun W hW => conv_rd 23 9 5 Tryd.underlying23 Tryd.underlying5 Tryd.underlying9 (hB.below hW)
  have hss : (strOfNums zb).size ≤ 4096 := by rw [strOfNums_size]; exact hz
  unfold bdB
  generalize strOfNums zb = s at *
  refine (callsIn_wide (n := 5)).1 ?_
  refine callsIn_of_wp_marks Tryd.func42 rfl trivial ?_ rfl
  simp only [Tryd.ntmps42, List.size_toArray, List.length_cons, List.length_nil, Nat.reduceAdd, Nat.reduceSub, Array.replicate_succ, Array.replicate_zero, List.push_toArray, List.append_toArray, List.nil_append, List.cons_append]
  have hcv0 := hcv ((w.alloc (.cells #[.string c.host, .string c.is, .int .u16 c.port, .int .u16 c.np, mv] 65)).alloc (.cells #[.slice none 0 0] 23)) (((Below.refl _ _).alloc (Nat.le_refl _) _).alloc (by simp) _)
  have hb4 : Later w (((w.alloc (.cells #[.string c.host, .string c.is, .int .u16 c.port, .int .u16 c.np, mv] 65)).alloc (.cells #[.slice none 0 0] 23)).alloc (.cells #[.string s] 9)) := (((Below.refl _ _).alloc (Nat.le_refl _) _).alloc (by simp) _).alloc (by simp <;> omega) _
  have c0 : (((w.alloc (.cells #[.string c.host, .string c.is, .int .u16 c.port, .int .u16 c.np, mv] 65)).alloc (.cells #[.slice none 0 0] 23)).alloc (.cells #[.string s] 9)).heap[w.heap.size]? = some (.cells #[.string c.host, .string c.is, .int .u16 c.port, .int .u16 c.np, mv] 65) := (Below.heap_alloc _ _ _ (by simp <;> omega)).trans ((Below.heap_alloc _ _ _ (by simp)).trans (heap_alloc_new w _))
  have c1 : (((w.alloc (.cells #[.string c.host, .string c.is, .int .u16 c.port, .int .u16 c.np, mv] 65)).alloc (.cells #[.slice none 0 0] 23)).alloc (.cells #[.string s] 9)).heap[w.heap.size + 1]? = some (.cells #[.slice none 0 0] 23) := by
    have := heap_alloc_new (w.alloc (.cells #[.string c.host, .string c.is, .int .u16 c.port, .int .u16 c.np, mv] 65)) (.cells #[.slice none 0 0] 23)
    rw [World.size_alloc] at this
    exact (Below.heap_alloc _ _ _ (by simp)).trans this
  have c2 : (((w.alloc (.cells #[.string c.host, .string c.is, .int .u16 c.port, .int .u16 c.np, mv] 65)).alloc (.cells #[.slice none 0 0] 23)).alloc (.cells #[.string s] 9)).heap[w.heap.size + 1 + 1]? = some (.cells #[.string s] 9) := by
    have := heap_alloc_new ((w.alloc (.cells #[.string c.host, .string c.is, .int .u16 c.port, .int .u16 c.np, mv] 65)).alloc (.cells #[.slice none 0 0] 23)) (.cells #[.string s] 9)
    simpa only [World.size_alloc] using this
  have hs4 : (((w.alloc (.cells #[.string c.host, .string c.is, .int .u16 c.port, .int .u16 c.np, mv] 65)).alloc (.cells #[.slice none 0 0] 23)).alloc (.cells #[.string s] 9)).heap.size = w.heap.size + 1 + 1 + 1 := by simp
  have C0 := hide c0
  have C1 := hide c1
  have C2 := hide c2
  have HS4 := hide hs4
  clear c0 c1 c2 hs4 hcv
  gi_wp2_with (refine ⟨trivial, ?_⟩; gi_at_call 36; refine (lines_in _ _ _).mono ?_; rintro e w' ⟨rfl, rfl⟩)
  clear hcv0
  generalize ((w.alloc (.cells #[.string c.host, .string c.is, .int .u16 c.port, .int .u16 c.np, mv] 65)).alloc (.cells #[.slice none 0 0] 23)).alloc (.cells #[.string s] 9) = w4 at *
  have hs4 : w4.heap.size = w.heap.size + 1 + 1 + 1 := HS4.out
  refine wpIn_rangeX (w := w4) rfl (by omega) (gf := 49) (lb := #[.pointer (some ⟨w.heap.size + 1 + 1, 0, none⟩)]) rfl trivial (enters_of Tryd.func49 (by kernel_rfl) rfl)
    (lines_gen 4 (by omega) (w.heap.size + 1 + 1) s w w4 hM (by omega) hb4 (by omega) (block_cell C2.out 0))
    (fun h k => h.trans k) (fun W l o o' hl ho hc hw => belowK_b (w := w4) (by omega) W l o o' hl ho hc hw) (fun hA hL => hL.mono (by omega)) (fun _ _ _ _ h _ => h) (fun _ _ _ _ _ _ _ _ _ h => h) (fun _ => rfl)
    (fun pre W => PB14 w.heap.size (w.heap.size + 1 + 1) c mv pre W ∧ Below w.heap.size w W) (fun pre W => False)
    (OwnFrom.and (fun s A B row hs hg hr => hs.ct (CTs.row hg (fun r e => (hr r e).2))) (ownFrom_below (Nat.le_refl _) (by omega)))
    (fun s A B h l => ⟨h.1.ct (CTs.of l), h.2.trans (l.mono h.2.size)⟩)
    (fun s A B row hs hg hr => hs)
    ⟨⟨⟨.slice none 0 0, C1.out, rfl, .inl ⟨rfl, rfl⟩⟩, C0.out⟩, hb4⟩
    (fun x a' W => a' = { tmps := #[.agg #[.string c.host, .string c.is, .int .u16 c.port, .int .u16 c.np, mv], sb, .pointer (some ⟨w.heap.size, 0, none⟩), undef, .slice none 0 0, .pointer (some ⟨w.heap.size + 1, 0, none⟩), .string x.1, .string x.2, sb, .string s, .func (.func 49) #[] #[.pointer (some ⟨w.heap.size + 1 + 1, 0, none⟩)], .string x.1, .string x.2, undef, undef, undef, undef, undef, undef, undef, undef], defers := [] })
    (fun x a' W l o o' hl ho hc h => h) ?assign ?body ?done ?stop
  case assign =>
    rintro l pre x W K hsz _ hX hK
    dsimp only [encL]
    gi_wp2
    exact hK _ _ (Below.refl _ _) rfl
  case body =>
    rintro l pre x a' W ⟨⟨⟨v, hob, hOw⟩, hr0⟩, hbW⟩ hX rfl
    have hbsz := hbW.size
    have hxm : ∀ y ∈ pre ++ [x], y ∈ lnsB s := fun y hy => by
      obtain ⟨rest, e⟩ := hX
      rw [← e]
      rcases List.mem_append.1 hy with h | h
      · exact List.mem_append_left _ h
      · rw [List.mem_singleton.1 h]; exact List.mem_append_right _ (List.mem_cons_self ..)
    have hxs := fun y hy => lnsF_mem _ s y (hxm y hy)
    have hx1 := hxs x (List.mem_append_right _ (List.mem_singleton_self x))
    have hpl : pre.length ≤ 4096 := by
      obtain ⟨rest, e⟩ := hX
      have h1 := congrArg List.length e
      have h2 := lnsF_len s.size s
      unfold lnsB at h1
      simp at h1
      omega
    have hps := bdL_size c hc 4096 pre.length pre rfl (fun y hy => by have := hxs y (List.mem_append_left _ hy); omega)
    have hps2 : (bdL c pre).size ≤ 4096 * 14298 := Nat.le_trans hps (Nat.mul_le_mul_right _ hpl)
    have hln := lnB_size c hc x.1
    obtain ⟨va, vc, rfl⟩ := owns_form hOw
    have hnn := bdL_snoc c pre x
    have HNN := hide hnn
    have HX := hide hX
    clear hxs hxm hps hnn hX
    refine wpIn_block ?_
    refine anyU_beginIn (R1 := Later) (R2 := fun _ _ => True) (D := [6, 7]) 8 rfl (by kernel_rfl) (noDefer_spec (by rfl)) ?_
    have ld : Later W W.drew := Later.drew W
    generalize W.drew = Wd at *
    have HOB := hide (later_keep ld hob)
    have HR0 := hide (later_keep ld hr0)
    have HOW := hide (ownsS_ct hOw (CTs.of ld))
    have LWd : Later w Wd := Below.trans hbW (ld.mono hbsz)
    have qB : ∀ v1, Later Wd v1 → ∀ j, v1.cell? ⟨w.heap.size + 1, j, none⟩ = #[Value.slice va (bdL c pre).size vc][j]? := fun v1 hv => block_cell (later_keep hv HOB.out)
    have qC : ∀ v1, Later Wd v1 → ∀ j, v1.cell? ⟨w.heap.size, j, none⟩ = #[Value.string c.host, .string c.is, .int .u16 c.port, .int .u16 c.np, mv][j]? := fun v1 hv => block_cell (later_keep hv HR0.out)
    refine anyU_val Later.pre 0 [6, 7] rfl (by rfl) (by rfl) (by kernel_rfl) (by kernel_rfl) (by kernel_rfl) (by kernel_rfl) (by kernel_rfl) (fun _ _ _ _ h => by cases h.1) (by rfl) ?_; apply Exists.intro; refine ⟨fun v1 hv1 => ?_, ?_⟩; (· (go_simp; rfl)); simp only [Act.put, List.setIfInBounds_toArray, List.set_cons_zero, List.set_cons_succ]
    refine anyU_val Later.pre 1 [3, 5, 6, 7] rfl (by rfl) (by rfl) (by kernel_rfl) (by kernel_rfl) (by kernel_rfl) (by kernel_rfl) (by kernel_rfl) (fun _ _ _ _ h => by cases h.1) (by rfl) ?_; apply Exists.intro; refine ⟨fun v1 hv1 => ?_, ?_⟩; (· (go_simp; rfl)); simp only [Act.put, List.setIfInBounds_toArray, List.set_cons_zero, List.set_cons_succ]
    refine anyU_val Later.pre 2 [3, 5, 6, 7] rfl (by rfl) (by rfl) (by kernel_rfl) (by kernel_rfl) (by kernel_rfl) (by kernel_rfl) (by kernel_rfl) (fun _ _ _ _ h => by cases h.1) (by rfl) ?_; apply Exists.intro; refine ⟨fun v1 hv1 => ?_, ?_⟩; (· (go_simp; rfl)); simp only [Act.put, List.setIfInBounds_toArray, List.set_cons_zero, List.set_cons_succ]
    refine anyU_val Later.pre 4 [5, 6, 7] rfl (by rfl) (by rfl) (by kernel_rfl) (by kernel_rfl) (by kernel_rfl) (by kernel_rfl) (by kernel_rfl) (fun _ _ _ _ h => by cases h.1) (by rfl) ?_; apply Exists.intro; refine ⟨fun v1 hv1 => ?_, ?_⟩; (· (go_simp; rfl)); simp only [Act.put, List.setIfInBounds_toArray, List.set_cons_zero, List.set_cons_succ]
    clear qB qC
    refine anyU_one 3 rfl (by kernel_rfl) (by rfl) ?_
    refine wp_enter 55 #[.agg #[.string c.host, .string c.is, .int .u16 c.port, .int .u16 c.np, mv], .string x.1] (by go_simp) ?_
    refine (line_any c mv x.1 Wd (hT.later LWd) (hM.later LWd) hc (hI.later LWd) (by omega)).mono ?_
    rintro e W1 ⟨rfl, l1⟩
    refine ⟨Rj_out (by rfl) l1, ?_⟩
    simp only [Act.put, List.setIfInBounds_toArray, List.set_cons_zero, List.set_cons_succ]
    refine anyU_one 5 rfl (by kernel_rfl) (by rfl) ?_
    refine wp_value (w' := W1) (.string (lnB c x.1 ++ x.2)) (by go_simp; omega) ?_
    refine ⟨Rj_out (by rfl) (Later.refl _), ?_⟩
    simp only [Act.put, List.setIfInBounds_toArray, List.set_cons_zero, List.set_cons_succ]
    refine anyU_one 6 rfl (by kernel_rfl) (by rfl) ?_
    have HOW1 := ownsS_ct HOW.out (CTs.of l1)
    obtain ⟨i0, hi0, hz0, hz1, hz2⟩ := info_partsS info_u8
    have hsz : (lnB c x.1 ++ x.2).size ≤ 20000 := by rw [ByteArray.size_append]; omega
    have hb1 : w.heap.size + 1 + 1 ≤ W1.heap.size := (Array.getElem?_eq_some_iff.1 (later_keep (ld.trans l1) hob)).1
    obtain ⟨v', W2, hrun, hrow, hg, _⟩ := Lib.run_append_own_string (P := Tryd.prog) W1 (w.heap.size + 1 + 1) 23 9 23 5 i0 Tryd.underlying23 Tryd.underlying9 hi0 hz0 hz1 hz2 _ _ _ HOW1 (lnB c x.1 ++ x.2) (by unfold maxLen; omega) (by omega) hb1
    refine wp_appT (.tmp 13) (.tmp 18) 23 9 rfl _ _ rfl rfl v' W2 hrun ?_
    refine ⟨Rj_in (by rfl) trivial, ?_⟩
    simp only [Act.put, List.setIfInBounds_toArray, List.set_cons_zero, List.set_cons_succ]
    obtain ⟨a2, cp2, rfl⟩ := owns_form hrow
    generalize hq : (bdL c pre).size + (lnB c x.1 ++ x.2).size = q at *
    have HQ := hide hq
    clear hq
    have hbk := owns_blk HOW1
    have hkp : ∀ i o, W1.heap[i]? = some o → (o.isCells = false ∨ i < w.heap.size + 1 + 1) → W2.heap[i]? = some o := fun i o ho hh => (hg.block i (Array.getElem?_eq_some_iff.1 ho).1 (fun e => by
      obtain ⟨cur, h1, h2⟩ := hbk i e.symm
      rw [ho] at h1
      cases h1
      rcases hh with h | h
      · cases h
      · omega)).trans ho
    have hob2 := hkp _ _ (later_keep l1 HOB.out) (.inr (by omega))
    have hr2 := hkp _ _ (later_keep l1 HR0.out) (.inr (by omega))
    have k2 := block_cell hob2
    have f2 := block_frozen hob2
    refine anyU_one 7 rfl (by kernel_rfl) (by rfl) ?_
    unfold Oper.wp
    go_simp
    refine ⟨Rj_in (by rfl) trivial, ?_⟩
    clear k2 f2
    refine anyU_done (by kernel_rfl) ?_
    generalize hvv : Value.slice a2 q cp2 = vv at *
    have hkeep : ∀ i o, W.heap[i]? = some o → (o.isCells = false ∨ i < w.heap.size + 1 + 1) → i ≠ w.heap.size + 1 → (W2.setCell ⟨w.heap.size + 1, 0, none⟩ vv).heap[i]? = some o := fun i o hi hh h2 => hsetS_ne (hkp i o (later_keep (ld.trans l1) hi) hh) h2
    have hsz2 : W.heap.size ≤ W2.heap.size := Nat.le_trans (ld.trans l1).size hg.size
    have hown2 : (W2.setCell ⟨w.heap.size + 1, 0, none⟩ vv).ownsRow (w.heap.size + 1 + 1) 5 1 vv (bdL c (pre ++ [x])).size (nvs (bdL c (pre ++ [x]))) := by
      rw [HNN.out, ByteArray.size_append, HQ.out, nvs_app, nvs_str (lnB c x.1 ++ x.2)]
      refine ⟨hrow.1, hrow.2.imp id ?_⟩
      rintro ⟨g, cp, cur, e1, e2, e3, r⟩
      exact ⟨g, cp, cur, e1, e2, hsetS_ne e3 (by omega), r⟩
    have hbn : Below w.heap.size W (W2.setCell ⟨w.heap.size + 1, 0, none⟩ vv) := ⟨hg.os.trans (ld.trans l1).os, hg.tape.trans (ld.trans l1).tape, hg.output.trans (ld.trans l1).output, by simp; omega, fun i hi => by
      cases hh : W.heap[i]? with
      | none => have := Array.getElem?_eq_none_iff.1 hh; omega
      | some o => exact hkeep i o hh (.inr (by omega)) (by omega)⟩
    refine ⟨rfl, ?_⟩
    show KeepsFrom _ _ _ ∧ Below _ _ _ ∧ _
    refine ⟨⟨by simp; omega, fun i o hi ho hc => hkeep i o ho (.inl hc) (by omega)⟩, hbn, ⟨⟨vv, heap_set1 hob2 0 _, hown2⟩, hkeep _ _ hr0 (.inr (by omega)) (by omega)⟩, hbW.trans hbn⟩
  case done =>
    rintro D xs W hD rfl ⟨⟨⟨v, h1, h2⟩, h3⟩, hbW⟩ hK
    obtain ⟨va, vc, rfl⟩ := owns_form h2
    have K1 := block_cell h1
    gi_wp2
    refine ⟨by simp, .inl ⟨_, _, rfl, run_takeDeferred hK, ?_⟩⟩
    refine ⟨.slice va (bdL c (lnsB s)).size vc, by simp [results, Tryd.results42, go_sem], hbW.trans (belowK_b (w := w) (Nat.le_refl _) W D _ _ (by omega) hK rfl rfl), _, rfl, ?_⟩
    obtain ⟨q1, q2⟩ := ownsS_ct h2 (CTs.put (o' := .deferred none) hK rfl)
    refine ⟨q1, q2.imp id ?_⟩
    rintro ⟨g, cp, cur, e1, e2, r⟩
    exact ⟨g, cp, cur, e1, by omega, r⟩
  case stop =>
    rintro D pre W hD _ h
    exact h.elim
end Go.Proofs.YtifdocjagnhncabDoor
