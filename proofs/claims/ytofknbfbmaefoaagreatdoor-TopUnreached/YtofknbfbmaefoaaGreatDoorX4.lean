import Derived.Test.YtofknbfbmaefoaaGreatDoorX5
import Derived.Test.YtofknbfbmaefoaaGreatDoorX10
import Derived.Test.YtofknbfbmaefoaaGreatDoorX8
import Derived.Test.YtofknbfbmaefoaaGreatDoorX9
namespace Go.Proofs.YtofknbfbmaefoaaGreatDoor
open Go.RowKit Go.Shelf
set_option maxRecDepth 100000
set_option linter.unusedVariables false
set_option linter.unusedSimpArgs false
def noh : Value := .iface 383 (.agg #[])
set_option maxHeartbeats 4000000 in
theorem helper_udp (o r : Tu) (i sd st0 tl0 ms : Int) (w : World) (hp : o.pr = 17) (h1 : (r.sp == 5060) = false) (h2 : (o.sp == 5060) = false) :
  Calls Tryz.prog 261 #[.agg #[.int .i64 i, .int .u8 o.pr, .int .u32 o.src, .int .u32 o.dst, .int .u16 o.sp, .int .u16 o.dp, .int .u8 r.pr, .int .u32 r.src, .int .u32 r.dst, .int .u16 r.sp, .int .u16 r.dp, .int .i64 sd, .int .i64 st0, .int .i64 tl0, .int .i64 ms]] w fun e w' => e = .returned noh ∧ Later w w' := by
 have l0 := later_allocG w (.cells #[.int .i64 i, .int .u8 o.pr, .int .u32 o.src, .int .u32 o.dst, .int .u16 o.sp, .int .u16 o.dp, .int .u8 r.pr, .int .u32 r.src, .int .u32 r.dst, .int .u16 r.sp, .int .u16 r.dp, .int .i64 sd, .int .i64 st0, .int .i64 tl0, .int .i64 ms] 88)
 have C0 := hide (heap_alloc_new w (.cells #[.int .i64 i, .int .u8 o.pr, .int .u32 o.src, .int .u32 o.dst, .int .u16 o.sp, .int .u16 o.dp, .int .u8 r.pr, .int .u32 r.src, .int .u32 r.dst, .int .u16 r.sp, .int .u16 r.dp, .int .i64 sd, .int .i64 st0, .int .i64 tl0, .int .i64 ms] 88))
 have HP := hide hp
 clear hp
 go_enter Tryz.func261, Tryz.ntmps261
 go_upto_region 1 with fail
 generalize w.alloc _ = w1 at *
 generalize w.heap.size = gx at *
 have k0 := block_cell C0.out
 rw [HP.out] at k0
 go_wp2_with fail
 go_ret
 exact ⟨rfl, l0⟩
theorem first_st (p : Int) (w : World) (hp : (p == 6) = false) : Calls Tryz.prog 263 #[.int .u8 p] w fun e w' => e = .returned (.int .i64 8) ∧ w' = w := by
 go_enter Tryz.func263, Tryz.ntmps263
 go_wp2_with fail
 go_ret
 exact ⟨rfl, rfl⟩
def ptT (t : Tu) (id till : Int) (q : Int × Int × (Nat → List Rw)) : Int × Int × (Nat → List Rw) := if pute 128 q.1 q.2.2 t.pr t.src t.dst t.sp t.dp till = 0 then (q.1 + 1, q.2.1 + 1, addL q.2.2 (bkT t) ⟨t.pr, t.src, t.dst, kyp t.pr t.sp, t.dp, id, till, q.2.1 + 1⟩) else q
theorem ptT_bd (t : Tu) (id till : Int) (q : Int × Int × (Nat → List Rw)) : q.1 ≤ (ptT t id till q).1 ∧ (ptT t id till q).1 ≤ q.1 + 1 ∧ q.2.1 ≤ (ptT t id till q).2.1 ∧ (ptT t id till q).2.1 ≤ q.2.1 + 1 ∧ ∀ i, ((ptT t id till q).2.2 i).length ≤ (q.2.2 i).length + 1 := by
 unfold ptT
 split
 ·refine ⟨by show q.1 ≤ q.1 + 1; omega, Int.le_refl _, by show q.2.1 ≤ q.2.1 + 1; omega, Int.le_refl _, fun i => ?_⟩
  show (addL q.2.2 _ _ i).length ≤ _
  unfold addL
  split
  ·rename_i e; simp [e]
  ·omega
 ·exact ⟨by omega, by omega, by omega, by omega, fun i => by omega⟩
theorem putF (base gt : Nat) (cnt trn : Int) (rw : Nat → List Rw) (t : Tu) (id till : Int) (w : World) (hT : TB base w gt 128 cnt trn rw) (hB : TuB t) (hbs : base ≤ w.heap.size) (htr : 0 ≤ trn ∧ trn ≤ 1000000) (hcn : 0 ≤ cnt ∧ cnt ≤ 4096) (hln : ∀ i, (rw i).length ≤ 5000) :
  Calls Tryz.prog 262 #[.pointer (some ⟨gt, 0, none⟩), .agg #[.int .u8 t.pr, .int .u32 t.src, .int .u32 t.dst, .int .u16 t.sp, .int .u16 t.dp], .int .i64 id, .int .i64 till] w fun e w' => ∃ ev : Int, e = .returned (.int .i64 ev) ∧ TB base w' gt 128 (ptT t id till (cnt, trn, rw)).1 (ptT t id till (cnt, trn, rw)).2.1 (ptT t id till (cnt, trn, rw)).2.2 ∧ KT w w' ∧ KM w w' ∧ KG base w w' := by
 obtain ⟨vs, hTv⟩ := hT
 refine (tput_any base gt 128 cnt trn vs rw t.pr t.src t.dst t.sp t.dp id till w hTv hB.1 hB.2.1 hB.2.2.1 hB.2.2.2 hbs htr hcn (by omega) (hln _)).mono ?_
 rintro e w' ⟨he, ⟨h0, h1, h2⟩ | ⟨h0, h1, h2⟩⟩
 ·refine ⟨_, he, ?_, KT.of_later h2, KM.of_later h2, KG.of_later h2⟩
  have e2 : ptT t id till (cnt, trn, rw) = (cnt, trn, rw) := by unfold ptT; rw [if_neg h0]
  rw [e2]
  exact ⟨vs, h1⟩
 ·have ty := hTv.typed (bki t.pr t.src t.dst t.sp t.dp) (bki_lt _ _ _ _ _)
  refine ⟨_, he, ?_, KT.of_but h2 ty, KM.of_but h2 ty, KG.of_but h2 (fun k e => ?_)⟩
  ·have e2 : ptT t id till (cnt, trn, rw) = (cnt + 1, trn + 1, addL rw (bkT t) ⟨t.pr, t.src, t.dst, kyp t.pr t.sp, t.dp, id, till, trn + 1⟩) := by unfold ptT; rw [if_pos h0]
   rw [e2]
   exact h1
  ·refine ⟨?_, fun ob ho => ?_⟩
   ·rcases e with e | e
    ·rw [e]; exact hTv.2.1
    ·rcases (hTv.2.2.2.1 _ (bki_lt t.pr t.src t.dst t.sp t.dp)).2 with ⟨e2, _⟩ | ⟨g', cp, cur, e2, hb', _⟩
     ·rw [e2] at e; cases e
     ·rw [e2] at e; cases e; exact hb'
   ·obtain ⟨cur, tt, fz, hh, ht⟩ := ty k e
    rw [hh] at ho
    cases ho
    show gTs.contains _ = true
    rcases ht with ht | ht <;> (rw [ht]; decide)
theorem GF.tabled {base g : Nat} {W W' : World} {s : Gf} (h : GF base W g s) (hk : KT W W') (hb : KM W W') {cnt trn : Int} {rw : Nat → List Rw} (ht : TB base W' s.gt 128 cnt trn rw) : GF base W' g { s with cnt := cnt, trn := trn, rw := rw } := by
 have ho : ∀ {e : TypeId} {size : Nat} {v : Value} {n : Nat} {xs : List Value}, e ≠ 142 → e ≠ 177 → W.ownsRow base e size v n xs → W'.ownsRow base e size v n xs := fun h1 h2 q => by
  obtain ⟨q1, q2 | ⟨b, cap, cur', e', hb', hh, r⟩⟩ := q
  ·exact ⟨q1, .inl q2⟩
  ·exact ⟨q1, .inr ⟨b, cap, cur', e', hb', hk _ _ _ _ hh h1 h2, r⟩⟩
 exact ⟨h.bs, hk _ _ _ _ h.gc (by decide) (by decide), ⟨h.rl.1, hk _ _ _ _ h.rl.2.1 (by decide) (by decide), ho (by decide) (by decide) h.rl.2.2⟩, ht, ⟨h.bl.1, hk _ _ _ _ h.bl.2.1 (by decide) (by decide), ho (by decide) (by decide) h.bl.2.2⟩, hb.map h.fl, hb.map h.pl, h.ne, h.bf, h.fm, h.pm, fun f hf => ⟨(h.fb f hf).1, hk _ _ _ _ (h.fb f hf).2 (by decide) (by decide)⟩, fun p hp => ⟨(h.pb p hp).1, (h.pb p hp).2.1, hk _ _ _ _ (h.pb p hp).2.2 (by decide) (by decide)⟩⟩
def Gf.begun (s : Gf) (f : Fl) : Gf := { s with bg := s.bg + 1, fs := s.fs ++ [f], fe := s.fe.push ⟨.int .i64 f.id, .pointer (some ⟨f.blk, 0, none⟩), s.cf⟩, cf := s.cf + 1 }
def opM (s : Gf) (f : Fl) : Int × Int × (Nat → List Rw) := ptT f.r f.id s.now (ptT f.o f.id s.now (s.cnt, s.trn, s.rw))
def opS (s : Gf) (f : Fl) : Gf := { s.begun f with cnt := (opM s f).1, trn := (opM s f).2.1, rw := (opM s f).2.2 }
theorem GF.count {base g : Nat} {W : World} {s : Gf} (h : GF base W g s) (n : Int) : GF base (W.setCell ⟨g, 3, none⟩ (.int .i64 n)) g { s with bg := n } := by
 have hb : But (fun b => b = g) W (W.setCell ⟨g, 3, none⟩ (.int .i64 n)) := (But.refl (fun b => b = g) _).setCell (show _ = _ from rfl) _
 have hE := TE.one h.gc
 exact ⟨h.bs, heap_set1 h.gc 3 (.int .i64 n), ⟨h.rl.1, hE.keep hb h.rl.2.1 (isT_no (by decide) _ _), hE.own hb h.rl.2.2 (isT_no (by decide))⟩, hE.table hb h.tb (isT_no (by decide)) (isT_no (by decide)), ⟨h.bl.1, hE.keep hb h.bl.2.1 (isT_no (by decide) _ _), hE.own hb h.bl.2.2 (isT_no (by decide))⟩, hE.keep hb h.fl (isT_map _ _), hE.keep hb h.pl (isT_map _ _), h.ne, h.bf, h.fm, h.pm, fun f hf => ⟨(h.fb f hf).1, hE.keep hb (h.fb f hf).2 (isT_no (by decide) _ _)⟩, fun p hp => ⟨(h.pb p hp).1, (h.pb p hp).2.1, hE.keep hb (h.pb p hp).2.2 (isT_no (by decide) _ _)⟩⟩
theorem findG_no (z : Int) : ∀ (l : List MapEntry) (i : Nat), (∀ e ∈ l, ∃ k : Int, e.key = .int .i64 k ∧ k ≠ z) → Instr.findNow (.int .i64) (.int .i64 z) l i = some none
 | [], _, _ => rfl
 | e :: l, i, h => by
  obtain ⟨k, hk, hne⟩ := h e (by simp)
  have h1 : Instr.sameNow (.int .i64) (.int .i64 z) e.key = some false := by rw [hk]; simp [Instr.sameNow, hne, Ne.symm hne]
  unfold Instr.findNow
  rw [h1]
  exact findG_no z l (i + 1) (fun e' he' => h e' (by simp [he']))
theorem fe_keys {base g : Nat} {W : World} {s : Gf} (h : GF base W g s) (z : Int) (hz : ∀ x ∈ s.fs, x.id ≠ z) : ∀ e ∈ s.fe.toList, ∃ k : Int, e.key = .int .i64 k ∧ k ≠ z := fun e he => by
 have h1 : (e.key, e.val) ∈ s.fe.toList.map (fun e => (e.key, e.val)) := List.mem_map.2 ⟨e, he, rfl⟩
 rw [h.fm] at h1
 obtain ⟨x, hx, e2⟩ := List.mem_map.1 h1
 have e3 : (Value.int .i64 x.id) = e.key := congrArg Prod.fst e2
 exact ⟨x.id, e3.symm, hz x hx⟩
theorem GF.written {base g : Nat} {W W' : World} {s : Gf} (h : GF base W g s) (f : Fl) (hid : f.id = s.bg - 1) (hb : But (fun b => b = s.gf) W W') (hm : W'.heap[s.gf]? = some (.map (s.fe.push ⟨.int .i64 f.id, .pointer (some ⟨f.blk, 0, none⟩), s.cf⟩) (s.cf + 1))) (hf : base ≤ f.blk ∧ W.heap[f.blk]? = some (.cells (flc f).toArray 93 (0, 0))) : GF base W' g { s with fs := s.fs ++ [f], fe := s.fe.push ⟨.int .i64 f.id, .pointer (some ⟨f.blk, 0, none⟩), s.cf⟩, cf := s.cf + 1 } := by
 have hk : ∀ (b : Nat) (cur : Array Value) (t : TypeId) (fz : Nat × Nat), W.heap[b]? = some (.cells cur t fz) → W'.heap[b]? = some (.cells cur t fz) := fun b cur t fz hh => (hb.block b (bl9 hh) (fun e => by have e' : b = s.gf := e; have h2 := h.fl; rw [← e', hh] at h2; cases h2)).trans hh
 have ho : ∀ {bs : Nat} {e : TypeId} {size : Nat} {v : Value} {n : Nat} {xs : List Value}, W.ownsRow bs e size v n xs → W'.ownsRow bs e size v n xs := fun h => by
  obtain ⟨q1, q2 | ⟨b, cap, cur', e', hb', hh, r⟩⟩ := h
  ·exact ⟨q1, .inl q2⟩
  ·exact ⟨q1, .inr ⟨b, cap, cur', e', hb', hk _ _ _ _ hh, r⟩⟩
 obtain ⟨vs, t1, t2, t3, t4, t5⟩ := h.tb
 refine ⟨h.bs, hk _ _ _ _ h.gc, ⟨h.rl.1, hk _ _ _ _ h.rl.2.1, ho h.rl.2.2⟩, ⟨vs, t1, t2, hk _ _ _ _ t3, fun i hi => ho (t4 i hi), t5⟩, ⟨h.bl.1, hk _ _ _ _ h.bl.2.1, ho h.bl.2.2⟩, hm, ?_, h.ne, h.bf, ?_, h.pm, fun x hx => ?_, fun p hp => ⟨(h.pb p hp).1, (h.pb p hp).2.1, hk _ _ _ _ (h.pb p hp).2.2⟩⟩
 ·exact (hb.block s.gp (bl9 h.pl) (fun e => h.ne e.symm)).trans h.pl
 ·show (s.fe.push _).toList.map (fun e => (e.key, e.val)) = (s.fs ++ [f]).map flE
  rw [Array.toList_push, List.map_append, List.map_append, h.fm]
  rfl
 ·rcases List.mem_append.1 hx with hx | hx
  ·exact ⟨(h.fb x hx).1, hk _ _ _ _ (h.fb x hx).2⟩
  ·have e : x = f := by simpa using hx
   subst e
   exact ⟨hf.1, hk _ _ _ _ hf.2⟩
def newF (s : Gf) (b : Nat) (o r : Tu) (sd st0 tl0 ms : Int) (hv : Value) : Fl := ⟨b, s.bg, o, r, sd, st0, tl0, ms, hv, noh⟩
theorem ins_flow {w : World} {b c : Nat} {es : Array MapEntry} (hb : w.heap[b]? = some (.map es c)) (z : Int) (v : Value) (hf : Instr.findNow (.int .i64) (.int .i64 z) es.toList 0 = some none) :
  ∃ w', (Instr.mapUpdate 74 (.map (some b)) (.int .i64 z) v).run Tryz.prog w = .ok () w' ∧ w'.heap[b]? = some (.map (es.push ⟨.int .i64 z, v, c⟩) (c + 1)) ∧ But (fun g => g = b) w w' := by
 have hc : (Instr.checkKey false 10000 3 (.int .i64 z)).run Tryz.prog w = .ok () w := MapKept.run_checkKey (k := .int .i64 z) Tryz.underlying3 (by simp [MapKept.IsKey]) false 9999
 have hlt := (bl9 hb)
 refine ⟨{ w with heap := w.heap.setIfInBounds b (.map (es.push ⟨.int .i64 z, v, c⟩) (c + 1)) }, ?_, ?_, rfl, rfl, rfl, by simp, fun i hi he => ?_⟩
 ·simp [Instr.mapUpdate, run_underlying Tryz.underlying74, MapKept.run_getObj_map hb, hc, MapKept.run_findKey Tryz.underlying3 hf, MapKept.run_setObj_map _ hb, Result.andThen]
 ·simp [hlt]
 ·have he' : i ≠ b := he
  rw [Array.getElem?_setIfInBounds_ne (by omega)]
def OpQ (base : Nat) (w w' : World) (g : Nat) (s : Gf) (o r : Tu) (sd st0 tl0 ms : Int) (hv : Value) (e : Ending) : Prop := ∃ f : Fl, w.heap.size ≤ f.blk ∧ e = .returned (.pointer (some ⟨f.blk, 0, none⟩)) ∧ KG base w w' ∧ f.id = s.bg ∧ f.o = o ∧ f.r = r ∧ f.side = sd ∧ f.ms = ms ∧ f.hv = hv ∧ f.hp = noh ∧ GF base w' g (bcS (opS s f) f 8)
set_option maxRecDepth 100000 in
set_option maxHeartbeats 8000000 in
theorem open_udp (base g : Nat) (s : Gf) (o r : Tu) (i0 sd st0 tl0 ms : Int) (ha : Option Addr) (hn hc : Nat) (w : World) (h : GF base w g s) (hp : o.pr = 17) (h1 : (r.sp == 5060) = false) (h2 : (o.sp == 5060) = false) (hbs : base ≤ w.heap.size) (hBo : TuB o) (hBr : TuB r) (htr : 0 ≤ s.trn ∧ s.trn ≤ 900000) (hnw : 0 ≤ s.now ∧ s.now ≤ 549755813888) (hbg : 0 ≤ s.bg ∧ s.bg ≤ 1000000) (hid : ∀ x ∈ s.fs, x.id ≠ s.bg) (hcn : 0 ≤ s.cnt ∧ s.cnt ≤ 1000) (hln : ∀ i, (s.rw i).length ≤ 4000) :
  Calls Tryz.prog 231 #[.pointer (some ⟨g, 0, none⟩), .agg #[.int .i64 i0, .int .u8 o.pr, .int .u32 o.src, .int .u32 o.dst, .int .u16 o.sp, .int .u16 o.dp, .int .u8 r.pr, .int .u32 r.src, .int .u32 r.dst, .int .u16 r.sp, .int .u16 r.dp, .int .i64 sd, .int .i64 st0, .int .i64 tl0, .int .i64 ms], .slice ha hn hc] w fun e w' => OpQ base w w' g s o r sd st0 tl0 ms (.slice ha hn hc) e := by
 have l0 := later_allocG w (.cells #[.int .i64 i0, .int .u8 o.pr, .int .u32 o.src, .int .u32 o.dst, .int .u16 o.sp, .int .u16 o.dp, .int .u8 r.pr, .int .u32 r.src, .int .u32 r.dst, .int .u16 r.sp, .int .u16 r.dp, .int .i64 sd, .int .i64 st0, .int .i64 tl0, .int .i64 ms] 88)
 have C0 := hide (heap_alloc_new w (.cells #[.int .i64 i0, .int .u8 o.pr, .int .u32 o.src, .int .u32 o.dst, .int .u16 o.sp, .int .u16 o.dp, .int .u8 r.pr, .int .u32 r.src, .int .u32 r.dst, .int .u16 r.sp, .int .u16 r.dp, .int .i64 sd, .int .i64 st0, .int .i64 tl0, .int .i64 ms] 88))
 have HG := hide (h.later l0)
 have HID := hide (fe_keys h s.bg hid)
 have HBF := hide (fun x (hx : x ∈ s.fs) => (Array.getElem?_eq_some_iff.1 (h.fb x hx).2).1)
 have hP6 : (o.pr == 6) = false := by rw [hp]; decide
 have HHP := hide (fun W => helper_udp o r s.bg sd st0 tl0 ms W hp h1 h2)
 have HFS := hide (fun W => first_st o.pr W hP6)
 have hwr : IntKind.i64.wrap (s.bg + 1) = s.bg + 1 := wrapi _ (by omega) (by omega)
 have HWR := hide hwr
 clear h hp h1 h2 hP6 hwr hid
 go_enter Tryz.func231, Tryz.ntmps231
 go_upto_region 1 with fail
 generalize w.alloc _ = w1 at *
 generalize hgx : w.heap.size = gx at C0 ⊢
 have kg := block_cell HG.out.gc
 have fg := block_frozen HG.out.gc
 unfold gfc at kg
 have kx0 := block_cell C0.out
 have fx0 := block_frozen C0.out
 go_upto_region 3 with fail
 have c1 := heap_set1 C0.out 0 (.int .i64 s.bg)
 have hgg : g ≠ gx := fun e => by
  have q1 := HG.out.gc
  have q2 := C0.out
  rw [← e, q1] at q2
  injection q2 with q3
  injection q3 with q4 q5 q6
  exact absurd q5 (by decide)
 have hA := HG.out.other (TE.one C0.out) ((But.refl (fun b => b = gx) w1).setCell (p := ⟨gx, 0, none⟩) (show _ = _ from rfl) (.int .i64 s.bg)) (by decide)
 have hB1 := hA.count (s.bg + 1)
 have c2 : ((w1.setCell ⟨gx, 0, none⟩ (.int .i64 s.bg)).setCell ⟨g, 3, none⟩ (.int .i64 (s.bg + 1))).heap[gx]? = some (.cells #[.int .i64 s.bg, .int .u8 o.pr, .int .u32 o.src, .int .u32 o.dst, .int .u16 o.sp, .int .u16 o.dp, .int .u8 r.pr, .int .u32 r.src, .int .u32 r.dst, .int .u16 r.sp, .int .u16 r.dp, .int .i64 sd, .int .i64 st0, .int .i64 tl0, .int .i64 ms] 88) := (((But.refl (fun b => b = g) (w1.setCell ⟨gx, 0, none⟩ (.int .i64 s.bg))).setCell (p := ⟨g, 3, none⟩) (show _ = _ from rfl) (.int .i64 (s.bg + 1))).block gx (bl9 c1) (fun e => hgg e.symm)).trans c1
 have hbb : But (fun b => b = g ∨ b = gx) w ((w1.setCell ⟨gx, 0, none⟩ (.int .i64 s.bg)).setCell ⟨g, 3, none⟩ (.int .i64 (s.bg + 1))) := ((But.of (E := fun b => b = g ∨ b = gx) l0).setCell (p := ⟨gx, 0, none⟩) (.inr rfl) (.int .i64 s.bg)).setCell (p := ⟨g, 3, none⟩) (.inl rfl) (.int .i64 (s.bg + 1))
 have M2 : Hid (KG base w ((w1.setCell ⟨gx, 0, none⟩ (.int .i64 s.bg)).setCell ⟨g, 3, none⟩ (.int .i64 (s.bg + 1)))) := KG.of_but hbb (fun k e => by
  rcases e with e | e
  ·rw [e]
   refine ⟨HG.out.bs, fun ob ho => ?_⟩
   have q := later_keep l0 ho
   rw [HG.out.gc] at q
   cases q
   show gTs.contains _ = true
   decide
  ·rw [e]
   refine ⟨by omega, fun ob ho => ?_⟩
   have := (bl9 ho)
   omega)
 have H2 := hide hB1
 have C2 := hide c2
 clear hbb hB1 c2 hA c1 kg fg kx0 fx0 C0 HG l0
 generalize ((w1.setCell ⟨gx, 0, none⟩ (.int .i64 s.bg)).setCell ⟨g, 3, none⟩ (.int .i64 (s.bg + 1))) = w2 at *
 refine anyT_begin (R := Later) 7 rfl (by kernel_rfl) ?_
 have ld : Later w2 w2.drew := Later.drew w2
 generalize w2.drew = w2d at *
 have k2 : ∀ v, Later w2d v → ∀ j, v.cell? ⟨gx, j, none⟩ = #[.int .i64 s.bg, .int .u8 o.pr, .int .u32 o.src, .int .u32 o.dst, .int .u16 o.sp, .int .u16 o.dp, .int .u8 r.pr, .int .u32 r.src, .int .u32 r.dst, .int .u16 r.sp, .int .u16 r.dp, .int .i64 sd, .int .i64 st0, .int .i64 tl0, .int .i64 ms][j]? := fun v hv => block_cell (later_keep hv (later_keep ld C2.out))
 refine tV Later.pre 0 rfl rfl ?_; apply Exists.intro; refine ⟨fun v1 hv1 => ?_, ?_⟩; (· (go_simp; rfl)); simp only [Act.put, sA, sB, sC]
 refine tV Later.pre 1 rfl rfl ?_; apply Exists.intro; refine ⟨fun v1 hv1 => ?_, ?_⟩; (· (go_simp; rfl)); simp only [Act.put, sA, sB, sC]
 refine tV Later.pre 2 rfl rfl ?_; apply Exists.intro; refine ⟨fun v1 hv1 => ?_, ?_⟩; (· (go_simp; rfl)); simp only [Act.put, sA, sB, sC]
 clear k2
 refine anyT_one 3 rfl (by kernel_rfl) rfl ?_
 refine wp_enter 261 #[.agg #[.int .i64 s.bg, .int .u8 o.pr, .int .u32 o.src, .int .u32 o.dst, .int .u16 o.sp, .int .u16 o.dp, .int .u8 r.pr, .int .u32 r.src, .int .u32 r.dst, .int .u16 r.sp, .int .u16 r.dp, .int .i64 sd, .int .i64 st0, .int .i64 tl0, .int .i64 ms]] (by go_simp) ?_
 refine (HHP.out w2d).mono ?_
 rintro e w3 ⟨rfl, l3⟩
 refine ⟨l3, ?_⟩
 simp only [Act.put, sA, sB, sC]
 unfold noh
 refine tV Later.pre 4 rfl rfl ?_; apply Exists.intro; refine ⟨fun v1 hv1 => ?_, ?_⟩; (· (go_simp; rfl)); simp only [Act.put, sA, sB, sC]
 have la := later_allocG w3 (.cells #[.int .i64 s.bg, .int .u8 o.pr, .int .u32 o.src, .int .u32 o.dst, .int .u16 o.sp, .int .u16 o.dp, .int .u8 r.pr, .int .u32 r.src, .int .u32 r.dst, .int .u16 r.sp, .int .u16 r.dp, .int .i64 sd, .int .i64 st0, .int .i64 tl0, .int .i64 ms, .slice ha hn hc, noh] 93)
 have ca := heap_alloc_new w3 (.cells #[.int .i64 s.bg, .int .u8 o.pr, .int .u32 o.src, .int .u32 o.dst, .int .u16 o.sp, .int .u16 o.dp, .int .u8 r.pr, .int .u32 r.src, .int .u32 r.dst, .int .u16 r.sp, .int .u16 r.dp, .int .i64 sd, .int .i64 st0, .int .i64 tl0, .int .i64 ms, .slice ha hn hc, noh] 93)
 unfold noh at la ca
 have LA := hide la
 have CA := hide ca
 clear la ca
 refine anyT_one 5 rfl (by kernel_rfl) rfl ?_
 unfold Oper.wp
 go_simp
 refine ⟨LA.out, ?_⟩
 generalize w3.alloc _ = w4 at *
 have la := LA.out
 have ca := CA.out
 clear LA CA
 refine tV Later.pre 6 rfl rfl ?_; apply Exists.intro; refine ⟨fun v1 hv1 => ?_, ?_⟩; (· (go_simp; rfl)); simp only [Act.put, sA, sB, sC]
 refine anyT_done (by kernel_rfl) ?_
 have hgn : w.heap.size ≤ w3.heap.size := Nat.le_trans M2.out.size (Nat.le_trans ld.size l3.size)
 generalize hgnn : w3.heap.size = gn at *
 have L4 : Later w2 w4 := ld.trans (l3.trans la)
 have H4 := hide (H2.out.later L4)
 have M4 := hide (M2.out.trans (KG.of_later L4))
 have C4 := hide (later_keep L4 C2.out)
 have D4 := hide ca
 clear H2 M2 C2 ld l3 la ca L4 hgnn
 go_upto_region 4 with fail
 refine anyT_begin (R := But (fun b => b = s.gf)) 8 rfl (by kernel_rfl) ?_
 have ld : Later w4 w4.drew := Later.drew w4
 generalize w4.drew = w5 at *
 have H4d := hide (H4.out.later ld)
 have M4d := hide (M4.out.trans (KG.of_later ld))
 have C4d := hide (later_keep ld C4.out)
 have D4d := hide (later_keep ld D4.out)
 clear H4 M4 C4 D4 ld
 have hnm : ∀ (b : Nat) (cur : Array Value) (t : TypeId) (f : Nat × Nat), w5.heap[b]? = some (.cells cur t f) → ∀ v, But (fun b => b = s.gf) w5 v → v.heap[b]? = some (.cells cur t f) := fun b cur t f hb v hv => (hv.block b (bl9 hb) (fun e => by have e' : b = s.gf := e; have hh := H4d.out.fl; simp only at hh; rw [← e', hb] at hh; cases hh)).trans hb
 have k1 : ∀ v, But (fun b => b = s.gf) w5 v → ∀ j, v.cell? ⟨g, j, none⟩ = (gfc { s with bg := s.bg + 1 }).toArray[j]? := fun v hv => block_cell (hnm _ _ _ _ H4d.out.gc v hv)
 have k2 : ∀ v, But (fun b => b = s.gf) w5 v → ∀ j, v.cell? ⟨gx, j, none⟩ = #[.int .i64 s.bg, .int .u8 o.pr, .int .u32 o.src, .int .u32 o.dst, .int .u16 o.sp, .int .u16 o.dp, .int .u8 r.pr, .int .u32 r.src, .int .u32 r.dst, .int .u16 r.sp, .int .u16 r.dp, .int .i64 sd, .int .i64 st0, .int .i64 tl0, .int .i64 ms][j]? := fun v hv => block_cell (hnm _ _ _ _ C4d.out v hv)
 unfold gfc at k1
 simp only at k1
 refine tV (But.pre (fun b => b = s.gf)) 0 rfl rfl ?_; apply Exists.intro; refine ⟨fun v1 hv1 => ?_, ?_⟩; (· (go_simp; rfl)); simp only [Act.put, sA, sB, sC]
 refine tV (But.pre (fun b => b = s.gf)) 1 rfl rfl ?_; apply Exists.intro; refine ⟨fun v1 hv1 => ?_, ?_⟩; (· (go_simp; rfl)); simp only [Act.put, sA, sB, sC]
 refine tV (But.pre (fun b => b = s.gf)) 2 rfl rfl ?_; apply Exists.intro; refine ⟨fun v1 hv1 => ?_, ?_⟩; (· (go_simp; rfl)); simp only [Act.put, sA, sB, sC]
 refine tV (But.pre (fun b => b = s.gf)) 3 rfl rfl ?_; apply Exists.intro; refine ⟨fun v1 hv1 => ?_, ?_⟩; (· (go_simp; rfl)); simp only [Act.put, sA, sB, sC]
 refine tV (But.pre (fun b => b = s.gf)) 4 rfl rfl ?_; apply Exists.intro; refine ⟨fun v1 hv1 => ?_, ?_⟩; (· (go_simp; rfl)); simp only [Act.put, sA, sB, sC]
 refine tV (But.pre (fun b => b = s.gf)) 5 rfl rfl ?_; apply Exists.intro; refine ⟨fun v1 hv1 => ?_, ?_⟩; (· (go_simp; rfl)); simp only [Act.put, sA, sB, sC]
 refine tV (But.pre (fun b => b = s.gf)) 6 rfl rfl ?_; apply Exists.intro; refine ⟨fun v1 hv1 => ?_, ?_⟩; (· (go_simp; rfl)); simp only [Act.put, sA, sB, sC]
 clear k1 k2
 obtain ⟨w6, hrun, hm6, hb6⟩ := ins_flow (w := w5) (b := s.gf) (c := s.cf) (es := s.fe) H4d.out.fl s.bg (.pointer (some ⟨gn, 0, none⟩)) (findG_no _ _ 0 HID.out)
 refine anyT_one 7 rfl (by kernel_rfl) rfl ?_
 have HB6 := hide hb6
 have HM6 := hide hm6
 clear hb6 hm6
 unfold Oper.wp
 go_simp
 refine ⟨HB6.out, ?_⟩
 refine anyT_done (by kernel_rfl) ?_
 clear hrun
 have hD : base ≤ ((newF s gn o r sd st0 tl0 ms (.slice ha hn hc))).blk ∧ w5.heap[((newF s gn o r sd st0 tl0 ms (.slice ha hn hc))).blk]? = some (.cells (flc (newF s gn o r sd st0 tl0 ms (.slice ha hn hc))).toArray 93 (0, 0)) := ⟨Nat.le_trans hbs hgn, D4d.out⟩
 have H5 : Hid (GF base w6 g (s.begun (newF s gn o r sd st0 tl0 ms (.slice ha hn hc)))) := H4d.out.written (newF s gn o r sd st0 tl0 ms (.slice ha hn hc)) (by show s.bg = s.bg + 1 - 1; omega) HB6.out HM6.out hD
 have M5 : Hid (KG base w w6) := M4d.out.trans (KG.of_but HB6.out (fun k e => by
  have e' : k = s.gf := e
  rw [e']
  refine ⟨H4d.out.bf.1, fun ob ho => ?_⟩
  have hh := H4d.out.fl
  simp only at hh
  rw [hh] at ho
  cases ho
  exact trivial))
 have C5 := hide (hnm _ _ _ _ C4d.out w6 HB6.out)
 clear H4d M4d C4d D4d HB6 HM6 hnm hD
 go_upto_region 5 with fail
 refine anyT_begin (R := KX) 13 rfl (by kernel_rfl) ?_
 have ld : Later w6 w6.drew := Later.drew w6
 generalize w6.drew = w6d at *
 have HD := hide (H5.out.later ld)
 have MD := hide (M5.out.trans (KG.of_later ld))
 have CD := hide (later_keep ld C5.out)
 clear H5 M5 C5 ld
 have hbd : base ≤ w6d.heap.size := Nat.le_trans hbs MD.out.size
 have k1 : ∀ v, KX w6d v → ∀ j, v.cell? ⟨g, j, none⟩ = (gfc (s.begun (newF s gn o r sd st0 tl0 ms (.slice ha hn hc)))).toArray[j]? := fun v hv => block_cell (hv g _ _ _ HD.out.gc (by decide) (by decide))
 have k2 : ∀ v, KX w6d v → ∀ j, v.cell? ⟨gx, j, none⟩ = #[.int .i64 s.bg, .int .u8 o.pr, .int .u32 o.src, .int .u32 o.dst, .int .u16 o.sp, .int .u16 o.dp, .int .u8 r.pr, .int .u32 r.src, .int .u32 r.dst, .int .u16 r.sp, .int .u16 r.dp, .int .i64 sd, .int .i64 st0, .int .i64 tl0, .int .i64 ms][j]? := fun v hv => block_cell (hv gx _ _ _ CD.out (by decide) (by decide))
 unfold gfc Gf.begun at k1
 simp only at k1
 refine tV KX.pre 0 rfl rfl ?_; apply Exists.intro; refine ⟨fun v1 hv1 => ?_, ?_⟩; (· (go_simp; rfl)); simp only [Act.put, sA, sB, sC]
 refine tV KX.pre 1 rfl rfl ?_; apply Exists.intro; refine ⟨fun v1 hv1 => ?_, ?_⟩; (· (go_simp; rfl)); simp only [Act.put, sA, sB, sC]
 refine tV KX.pre 2 rfl rfl ?_; apply Exists.intro; refine ⟨fun v1 hv1 => ?_, ?_⟩; (· (go_simp; rfl)); simp only [Act.put, sA, sB, sC]
 refine tV KX.pre 3 rfl rfl ?_; apply Exists.intro; refine ⟨fun v1 hv1 => ?_, ?_⟩; (· (go_simp; rfl)); simp only [Act.put, sA, sB, sC]
 refine tV KX.pre 4 rfl rfl ?_; apply Exists.intro; refine ⟨fun v1 hv1 => ?_, ?_⟩; (· (go_simp; rfl)); simp only [Act.put, sA, sB, sC]
 refine tV KX.pre 5 rfl rfl ?_; apply Exists.intro; refine ⟨fun v1 hv1 => ?_, ?_⟩; (· (go_simp; rfl)); simp only [Act.put, sA, sB, sC]
 refine tV KX.pre 6 rfl rfl ?_; apply Exists.intro; refine ⟨fun v1 hv1 => ?_, ?_⟩; (· (go_simp; rfl)); simp only [Act.put, sA, sB, sC]
 refine tV KX.pre 7 rfl rfl ?_; apply Exists.intro; refine ⟨fun v1 hv1 => ?_, ?_⟩; (· (go_simp; rfl)); simp only [Act.put, sA, sB, sC]
 refine tV KX.pre 8 rfl rfl ?_; apply Exists.intro; refine ⟨fun v1 hv1 => ?_, ?_⟩; (· (go_simp; rfl)); simp only [Act.put, sA, sB, sC]
 refine tV KX.pre 9 rfl rfl ?_; apply Exists.intro; refine ⟨fun v1 hv1 => ?_, ?_⟩; (· (go_simp; rfl)); simp only [Act.put, sA, sB, sC]
 refine tV KX.pre 10 rfl rfl ?_; apply Exists.intro; refine ⟨fun v1 hv1 => ?_, ?_⟩; (· (go_simp; rfl)); simp only [Act.put, sA, sB, sC]
 refine tV KX.pre 11 rfl rfl ?_; apply Exists.intro; refine ⟨fun v1 hv1 => ?_, ?_⟩; (· (go_simp; rfl)); simp only [Act.put, sA, sB, sC]
 clear k1 k2
 refine anyT_one 12 rfl (by kernel_rfl) rfl ?_
 refine wp_enter 262 #[.pointer (some ⟨s.gt, 0, none⟩), .agg #[.int .u8 o.pr, .int .u32 o.src, .int .u32 o.dst, .int .u16 o.sp, .int .u16 o.dp], .int .i64 s.bg, .int .i64 s.now] (by go_simp) ?_
 refine (putF base s.gt (s.cnt, s.trn, s.rw).1 (s.cnt, s.trn, s.rw).2.1 (s.cnt, s.trn, s.rw).2.2 o s.bg s.now w6d HD.out.tb hBo hbd (by simp only; omega) (by simp only; omega) (fun i => by have := hln i; simp only; omega)).mono ?_
 rintro e w7 ⟨ev, rfl, hT, hk, hm, hg⟩
 refine ⟨KX.of hk, ?_⟩
 simp only [Act.put, sA, sB, sC]
 refine anyT_done (by kernel_rfl) ?_
 have H6 := hide (HD.out.tabled hk hm hT)
 have M6 := hide (MD.out.trans hg)
 have C6 := hide (hk gx _ _ _ CD.out (by decide) (by decide))
 clear HD MD CD hT hk hm hg hbd
 go_upto_region 6 with fail
 refine anyT_begin (R := KX) 13 rfl (by kernel_rfl) ?_
 have ld : Later w7 w7.drew := Later.drew w7
 generalize w7.drew = w7d at *
 have HD := hide (H6.out.later ld)
 have MD := hide (M6.out.trans (KG.of_later ld))
 have CD := hide (later_keep ld C6.out)
 clear H6 M6 C6 ld
 have hbd : base ≤ w7d.heap.size := Nat.le_trans hbs MD.out.size
 have k1 : ∀ v, KX w7d v → ∀ j, v.cell? ⟨g, j, none⟩ = (gfc (s.begun (newF s gn o r sd st0 tl0 ms (.slice ha hn hc)))).toArray[j]? := fun v hv => block_cell (hv g _ _ _ HD.out.gc (by decide) (by decide))
 have k2 : ∀ v, KX w7d v → ∀ j, v.cell? ⟨gx, j, none⟩ = #[.int .i64 s.bg, .int .u8 o.pr, .int .u32 o.src, .int .u32 o.dst, .int .u16 o.sp, .int .u16 o.dp, .int .u8 r.pr, .int .u32 r.src, .int .u32 r.dst, .int .u16 r.sp, .int .u16 r.dp, .int .i64 sd, .int .i64 st0, .int .i64 tl0, .int .i64 ms][j]? := fun v hv => block_cell (hv gx _ _ _ CD.out (by decide) (by decide))
 unfold gfc Gf.begun at k1
 simp only at k1
 refine tV KX.pre 0 rfl rfl ?_; apply Exists.intro; refine ⟨fun v1 hv1 => ?_, ?_⟩; (· (go_simp; rfl)); simp only [Act.put, sA, sB, sC]
 refine tV KX.pre 1 rfl rfl ?_; apply Exists.intro; refine ⟨fun v1 hv1 => ?_, ?_⟩; (· (go_simp; rfl)); simp only [Act.put, sA, sB, sC]
 refine tV KX.pre 2 rfl rfl ?_; apply Exists.intro; refine ⟨fun v1 hv1 => ?_, ?_⟩; (· (go_simp; rfl)); simp only [Act.put, sA, sB, sC]
 refine tV KX.pre 3 rfl rfl ?_; apply Exists.intro; refine ⟨fun v1 hv1 => ?_, ?_⟩; (· (go_simp; rfl)); simp only [Act.put, sA, sB, sC]
 refine tV KX.pre 4 rfl rfl ?_; apply Exists.intro; refine ⟨fun v1 hv1 => ?_, ?_⟩; (· (go_simp; rfl)); simp only [Act.put, sA, sB, sC]
 refine tV KX.pre 5 rfl rfl ?_; apply Exists.intro; refine ⟨fun v1 hv1 => ?_, ?_⟩; (· (go_simp; rfl)); simp only [Act.put, sA, sB, sC]
 refine tV KX.pre 6 rfl rfl ?_; apply Exists.intro; refine ⟨fun v1 hv1 => ?_, ?_⟩; (· (go_simp; rfl)); simp only [Act.put, sA, sB, sC]
 refine tV KX.pre 7 rfl rfl ?_; apply Exists.intro; refine ⟨fun v1 hv1 => ?_, ?_⟩; (· (go_simp; rfl)); simp only [Act.put, sA, sB, sC]
 refine tV KX.pre 8 rfl rfl ?_; apply Exists.intro; refine ⟨fun v1 hv1 => ?_, ?_⟩; (· (go_simp; rfl)); simp only [Act.put, sA, sB, sC]
 refine tV KX.pre 9 rfl rfl ?_; apply Exists.intro; refine ⟨fun v1 hv1 => ?_, ?_⟩; (· (go_simp; rfl)); simp only [Act.put, sA, sB, sC]
 refine tV KX.pre 10 rfl rfl ?_; apply Exists.intro; refine ⟨fun v1 hv1 => ?_, ?_⟩; (· (go_simp; rfl)); simp only [Act.put, sA, sB, sC]
 refine tV KX.pre 11 rfl rfl ?_; apply Exists.intro; refine ⟨fun v1 hv1 => ?_, ?_⟩; (· (go_simp; rfl)); simp only [Act.put, sA, sB, sC]
 clear k1 k2
 refine anyT_one 12 rfl (by kernel_rfl) rfl ?_
 refine wp_enter 262 #[.pointer (some ⟨s.gt, 0, none⟩), .agg #[.int .u8 r.pr, .int .u32 r.src, .int .u32 r.dst, .int .u16 r.sp, .int .u16 r.dp], .int .i64 s.bg, .int .i64 s.now] (by go_simp) ?_
 refine (putF base s.gt (ptT o s.bg s.now (s.cnt, s.trn, s.rw)).1 (ptT o s.bg s.now (s.cnt, s.trn, s.rw)).2.1 (ptT o s.bg s.now (s.cnt, s.trn, s.rw)).2.2 r s.bg s.now w7d HD.out.tb hBr hbd (by have := ptT_bd o s.bg s.now (s.cnt, s.trn, s.rw); simp only at this; omega) (by have := ptT_bd o s.bg s.now (s.cnt, s.trn, s.rw); simp only at this; omega) (fun i => by have h1 := hln i; have h2 := (ptT_bd o s.bg s.now (s.cnt, s.trn, s.rw)).2.2.2.2 i; simp only at h2; omega)).mono ?_
 rintro e w8 ⟨ev, rfl, hT, hk, hm, hg⟩
 refine ⟨KX.of hk, ?_⟩
 simp only [Act.put, sA, sB, sC]
 refine anyT_done (by kernel_rfl) ?_
 have H7 := hide (HD.out.tabled hk hm hT)
 have M7 := hide (MD.out.trans hg)
 have C7 := hide (hk gx _ _ _ CD.out (by decide) (by decide))
 clear HD MD CD hT hk hm hg hbd
 go_upto_region 7 with fail
 have k2 := block_cell C7.out
 have hin : (newF s gn o r sd st0 tl0 ms (.slice ha hn hc)) ∈ (opS s (newF s gn o r sd st0 tl0 ms (.slice ha hn hc))).fs := by show _ ∈ s.fs ++ [_]; simp
 have huq : ∀ x ∈ (opS s (newF s gn o r sd st0 tl0 ms (.slice ha hn hc))).fs, x.blk = ((newF s gn o r sd st0 tl0 ms (.slice ha hn hc))).blk → x = (newF s gn o r sd st0 tl0 ms (.slice ha hn hc)) := fun x hx e => by
  have hx' : x ∈ s.fs ++ [(newF s gn o r sd st0 tl0 ms (.slice ha hn hc))] := hx
  rcases List.mem_append.1 hx' with hx' | hx'
  ·have q1 := HBF.out x hx'
   have q2 : x.blk = gn := e
   omega
  ·simpa using hx'
 have htr2 : 0 ≤ (opS s (newF s gn o r sd st0 tl0 ms (.slice ha hn hc))).trn ∧ (opS s (newF s gn o r sd st0 tl0 ms (.slice ha hn hc))).trn ≤ 999999 := by
  have q1 := ptT_bd o s.bg s.now (s.cnt, s.trn, s.rw)
  have q2 := ptT_bd r s.bg s.now (ptT o s.bg s.now (s.cnt, s.trn, s.rw))
  show 0 ≤ (ptT r s.bg s.now (ptT o s.bg s.now (s.cnt, s.trn, s.rw))).2.1 ∧ (ptT r s.bg s.now (ptT o s.bg s.now (s.cnt, s.trn, s.rw))).2.1 ≤ 999999
  simp only at q1 q2
  omega
 have HBC := hide (become_any base g (opS s (newF s gn o r sd st0 tl0 ms (.slice ha hn hc))) (newF s gn o r sd st0 tl0 ms (.slice ha hn hc)) 8 w8 H7.out hin huq (Nat.le_trans hbs M7.out.size) hBo hBr htr2 hnw)
 clear hin huq htr2 H7
 go_wp2_with fail
 refine (HFS.out w8).mono ?_
 rintro e w9 ⟨rfl, rfl⟩
 go_wp2_with fail
 refine HBC.out.mono ?_
 rintro e w10 ⟨rfl, mk, hG⟩
 clear k2
 go_wp2_with fail
 go_ret
 exact ⟨(newF s gn o r sd st0 tl0 ms (.slice ha hn hc)), hgn, rfl, M7.out.trans mk, rfl, rfl, rfl, rfl, rfl, rfl, rfl, hG⟩
attribute [local go_sem] Oper.semAt_some
def GaO (B n₀ : Nat) (pre : List Int) (W : World) : Prop := ∃ v, W.heap[B]? = some (.cells #[v] 152 (0, 0)) ∧ W.ownsRow n₀ 3 1 v pre.length (pre.map (Value.int .i64)) ∧ (pre = [] → v = .slice none 0 0)
theorem owns_ctG {base : Nat} {e : TypeId} {size : Nat} {A B : World} {v : Value} {n : Nat} {xs : List Value} (h : A.ownsRow base e size v n xs) (c : CT A B) : B.ownsRow base e size v n xs := by
 obtain ⟨h1, h2 | ⟨g, cap, cur, hv, hg, hh, r⟩⟩ := h
 ·exact ⟨h1, .inl h2⟩
 ·exact ⟨h1, .inr ⟨g, cap, cur, hv, hg, c.2 _ _ hh rfl, r⟩⟩
theorem GaO.ct {B n₀ : Nat} {pre : List Int} {U V : World} (h : GaO B n₀ pre U) (c : CT U V) : GaO B n₀ pre V := by
 obtain ⟨v, h1, h2, h3⟩ := h
 exact ⟨v, c.2 _ _ h1 rfl, owns_ctG h2 c, h3⟩
theorem findG_yes (z : Int) (v : Value) : ∀ (l : List MapEntry) (i : Nat), (∀ e ∈ l, ∃ k : Int, e.key = .int .i64 k ∧ (k = z → e.val = v)) → (∃ e ∈ l, e.key = .int .i64 z) → ∃ j, Instr.findNow (.int .i64) (.int .i64 z) l i = some (some (j, v))
 | [], _, _, h => by obtain ⟨_, h, _⟩ := h; cases h
 | e :: l, i, h, hx => by
  obtain ⟨k, hk, hv⟩ := h e (by simp)
  by_cases hz : k = z
  ·have h1 : Instr.sameNow (.int .i64) (.int .i64 z) e.key = some true := by rw [hk, hz]; simp [Instr.sameNow]
   unfold Instr.findNow
   rw [h1]
   exact ⟨i, by rw [hv hz]⟩
  ·have h1 : Instr.sameNow (.int .i64) (.int .i64 z) e.key = some false := by rw [hk]; simp [Instr.sameNow, hz, Ne.symm hz]
   unfold Instr.findNow
   rw [h1]
   refine findG_yes z v l (i + 1) (fun e' he' => h e' (by simp [he'])) ?_
   obtain ⟨e', he', hk'⟩ := hx
   rcases List.mem_cons.1 he' with q | q
   ·rw [q, hk] at hk'
    injection hk' with _ q2
    exact absurd q2 hz
   ·exact ⟨e', q, hk'⟩
def IdU (s : Gf) : Prop := ∀ x ∈ s.fs, ∀ y ∈ s.fs, x.id = y.id → x.blk = y.blk
theorem look_flow {base g : Nat} {W : World} {s : Gf} (h : GF base W g s) {f : Fl} (hf : f ∈ s.fs) (hu : IdU s) : (Instr.lookup 74 (.map (some s.gf)) (.int .i64 f.id) false).run Tryz.prog W = .ok (.pointer (some ⟨f.blk, 0, none⟩)) W := by
 refine run_find Tryz.underlying74 Tryz.underlying3 h.fl f.id _ (.inl ?_)
 refine findG_yes f.id _ s.fe.toList 0 (fun e he => ?_) ?_
 ·have h1 : (e.key, e.val) ∈ s.fe.toList.map (fun e => (e.key, e.val)) := List.mem_map.2 ⟨e, he, rfl⟩
  rw [h.fm] at h1
  obtain ⟨x, hx, e2⟩ := List.mem_map.1 h1
  have e3 : (Value.int .i64 x.id) = e.key := congrArg Prod.fst e2
  have e4 : (Value.pointer (some ⟨x.blk, 0, none⟩)) = e.val := congrArg Prod.snd e2
  exact ⟨x.id, e3.symm, fun q => by rw [← e4, hu x hx f hf q]⟩
 ·have h1 : flE f ∈ s.fs.map flE := List.mem_map.2 ⟨f, hf, rfl⟩
  rw [← h.fm] at h1
  obtain ⟨e, he, e2⟩ := List.mem_map.1 h1
  exact ⟨e, he, congrArg Prod.fst e2⟩
theorem getF_yes (base gt : Nat) (cnt trn : Int) (rw : Nat → List Rw) (p x d a b : Int) (k : Nat) (r : Rw) (W : World) (h : TB base W gt 128 cnt trn rw) (hk : kx p x d a b rw = some k) (hr : (rw (bki p x d a b))[k]? = some r) (hs : 0 ≤ x ∧ x ≤ 4294967295) (hd : 0 ≤ d ∧ d ≤ 4294967295) (ha : 0 ≤ a ∧ a ≤ 65535) (hb : 0 ≤ b ∧ b ≤ 65535) :
  Calls Tryz.prog 75 #[.pointer (some ⟨gt, 0, none⟩), .agg #[.int .u8 p, .int .u32 x, .int .u32 d, .int .u16 a, .int .u16 b]] W fun e w' => e = .returned (.tuple #[.int .i64 r.id, .int .i64 r.till, .bool true]) ∧ Later W w' := by
 refine (get_any base gt 128 cnt trn rw p x d a b W h hs hd ha hb).mono ?_
 rintro e w' ⟨h1, rfl⟩
 exact ⟨by unfold gtv; simp only [hk, hr], h1⟩
theorem tup_ne2 (bk : Bool) (p x d a b p2 x2 d2 a2 b2 : Int) (w : World) (h : bk = true ↔ ¬ (p = p2 ∧ x = x2 ∧ d = d2 ∧ a = a2 ∧ b = b2)) : (binOp .neq 68 (.agg #[.int .u8 p, .int .u32 x, .int .u32 d, .int .u16 a, .int .u16 b]) (.agg #[.int .u8 p2, .int .u32 x2, .int .u32 d2, .int .u16 a2, .int .u16 b2])).run Tryz.prog w = .ok (.bool bk) w := by
 cases bk with
 | true => exact tup_neq p x d a b p2 x2 d2 a2 b2 w (h.1 rfl)
 | false =>
  have h2 : p = p2 ∧ x = x2 ∧ d = d2 ∧ a = a2 ∧ b = b2 := Classical.byContradiction (fun q => by have := h.2 q; cases this)
  obtain ⟨rfl, rfl, rfl, rfl, rfl⟩ := h2
  go_simp
set_option maxRecDepth 100000 in
set_option maxHeartbeats 4000000 in
theorem lookUpF_yes (base g : Nat) (s : Gf) (f : Fl) (bk : Bool) (p x d a b : Int) (k : Nat) (r : Rw) (w : World) (h : GF base w g s) (hf : f ∈ s.fs) (hu : IdU s) (hk : kx p x d a b s.rw = some k) (hr : (s.rw (bki p x d a b))[k]? = some r) (hid : r.id = f.id) (hs : 0 ≤ x ∧ x ≤ 4294967295) (hd : 0 ≤ d ∧ d ≤ 4294967295) (ha : 0 ≤ a ∧ a ≤ 65535) (hb : 0 ≤ b ∧ b ≤ 65535)
  (hbk : bk = true ↔ ¬ (p = f.o.pr ∧ x = f.o.src ∧ d = f.o.dst ∧ kyp p a = kyp f.o.pr f.o.sp ∧ b = f.o.dp)) :
  Calls Tryz.prog 33 #[.pointer (some ⟨g, 0, none⟩), .agg #[.int .u8 p, .int .u32 x, .int .u32 d, .int .u16 a, .int .u16 b]] w fun e w' => e = .returned (.tuple #[.pointer (some ⟨f.blk, 0, none⟩), .bool bk, .bool true]) ∧ Later w w' := by
 have l0 := later_allocG w (.cells #[.int .u8 p, .int .u32 x, .int .u32 d, .int .u16 a, .int .u16 b] 68)
 have C0 := hide (heap_alloc_new w (.cells #[.int .u8 p, .int .u32 x, .int .u32 d, .int .u16 a, .int .u16 b] 68))
 have HG := hide (h.later l0)
 have HGT := hide (fun W (l : Later w W) => getF_yes base s.gt s.cnt s.trn s.rw p x d a b k r W (h.tb.laterD l) hk hr hs hd ha hb)
 rw [hid] at HGT
 have HLK := hide (fun W (l : Later w W) => look_flow (h.later l) hf hu)
 have HF := hide (later_keep l0 (h.fb f hf).2)
 have HBK := hide hbk
 clear h hs hd ha hb hk hr hid hf hu hbk
 go_enter Tryz.func33, Tryz.ntmps33
 go_upto_region 1 with fail
 generalize w.alloc _ = w1 at *
 generalize w.heap.size = gx at *
 refine anyR_begin (R := Later) Later.pre Later.drew 13 rfl (by kernel_rfl) (fun V0 hV0 => ?_)
 have q0 : ∀ v, Later V0 v → ∀ j, v.cell? ⟨gx, j, none⟩ = #[.int .u8 p, .int .u32 x, .int .u32 d, .int .u16 a, .int .u16 b][j]? := fun v hv => block_cell (later_keep (hV0.trans hv) C0.out)
 have q1 : ∀ v, Later V0 v → ∀ j, v.cell? ⟨g, j, none⟩ = (gfc s).toArray[j]? := fun v hv => block_cell (later_keep (hV0.trans hv) HG.out.gc)
 unfold gfc at q1
 refine rV Later.pre 0 rfl rfl ?_; apply Exists.intro; refine ⟨fun v1 hv1 => ?_, ?_⟩; (· (go_simp; rfl)); simp only [Act.put, sA, sB, sC]
 refine rV Later.pre 1 rfl rfl ?_; apply Exists.intro; refine ⟨fun v1 hv1 => ?_, ?_⟩; (· (go_simp; rfl)); simp only [Act.put, sA, sB, sC]
 refine rV Later.pre 2 rfl rfl ?_; apply Exists.intro; refine ⟨fun v1 hv1 => ?_, ?_⟩; (· (go_simp; rfl)); simp only [Act.put, sA, sB, sC]
 refine rV Later.pre 3 rfl rfl ?_; apply Exists.intro; refine ⟨fun v1 hv1 => ?_, ?_⟩; (· (go_simp; rfl)); simp only [Act.put, sA, sB, sC]
 refine rV Later.pre 4 rfl rfl ?_; apply Exists.intro; refine ⟨fun v1 hv1 => ?_, ?_⟩; (· (go_simp; rfl)); simp only [Act.put, sA, sB, sC]
 clear q0 q1
 refine anyR_take Later.pre 5 (.tuple #[.int .i64 f.id, .int .i64 r.till, .bool true]) rfl (by kernel_rfl) (by kernel_rfl) (by kernel_rfl) (fun _ _ _ h => h) rfl (fun u hu => goes_call 75 #[.pointer (some ⟨s.gt, 0, none⟩), .agg #[.int .u8 p, .int .u32 x, .int .u32 d, .int .u16 a, .int .u16 b]] (by go_simp) (HGT.out u (Later.trans l0 (hV0.trans hu)))) ?_
 simp only [Act.put, sA, sB, sC]
 refine rV Later.pre 6 rfl rfl ?_; apply Exists.intro; refine ⟨fun v1 hv1 => ?_, ?_⟩; (· (go_simp; rfl)); simp only [Act.put, sA, sB, sC]
 refine rV Later.pre 7 rfl rfl ?_; apply Exists.intro; refine ⟨fun v1 hv1 => ?_, ?_⟩; (· (go_simp; rfl)); simp only [Act.put, sA, sB, sC]
 refine rV Later.pre 8 rfl rfl ?_; apply Exists.intro; refine ⟨fun v1 hv1 => ?_, ?_⟩; (· (go_simp; rfl)); simp only [Act.put, sA, sB, sC]
 refine rV Later.pre 9 rfl rfl ?_; apply Exists.intro; refine ⟨fun v1 hv1 => ?_, ?_⟩; (· (go_simp; rfl)); simp only [Act.put, sA, sB, sC]
 refine rV Later.pre 10 rfl rfl ?_; apply Exists.intro; refine ⟨fun v1 hv1 => ?_, ?_⟩; (· (go_simp; rfl)); simp only [Act.put, sA, sB, sC]
 refine rV Later.pre 11 rfl rfl ?_; apply Exists.intro; refine ⟨fun v1 hv1 => ?_, ?_⟩; (· (go_simp; rfl)); simp only [Act.put, sA, sB, sC]
 refine rV Later.pre 12 rfl rfl ?_; apply Exists.intro; refine ⟨fun v1 hv1 => ?_, ?_⟩; (· (go_simp; rfl)); simp only [Act.put, sA, sB, sC]
 refine anyR_done (by kernel_rfl) (fun V9 hV9 => ?_)
 have L9 : Later w1 V9 := hV0.trans hV9
 have k1 := block_cell (later_keep L9 HG.out.gc)
 unfold gfc at k1
 have hlk := HLK.out V9 (l0.trans L9)
 clear hV0 hV9
 go_upto_region 5 with fail
 clear k1 hlk
 refine anyR_begin (R := Later) Later.pre Later.drew 13 rfl (by kernel_rfl) (fun V1 hV1 => ?_)
 have q0 : ∀ v, Later V1 v → ∀ j, v.cell? ⟨gx, j, none⟩ = #[.int .u8 p, .int .u32 x, .int .u32 d, .int .u16 a, .int .u16 b][j]? := fun v hv => block_cell (later_keep (L9.trans (hV1.trans hv)) C0.out)
 have qf : ∀ v, Later V1 v → ∀ j, v.cell? ⟨f.blk, j, none⟩ = (flc f).toArray[j]? := fun v hv => block_cell (later_keep (L9.trans (hV1.trans hv)) HF.out)
 unfold flc at qf
 refine rV Later.pre 0 rfl rfl ?_; apply Exists.intro; refine ⟨fun v1 hv1 => ?_, ?_⟩; (· (go_simp; rfl)); simp only [Act.put, sA, sB, sC]
 refine rV Later.pre 1 rfl rfl ?_; apply Exists.intro; refine ⟨fun v1 hv1 => ?_, ?_⟩; (· (go_simp; rfl)); simp only [Act.put, sA, sB, sC]
 refine anyR_take Later.pre 2 (.agg #[.int .u8 p, .int .u32 x, .int .u32 d, .int .u16 (kyp p a), .int .u16 b]) rfl (by kernel_rfl) (by kernel_rfl) (by kernel_rfl) (fun _ _ _ h => h) rfl (fun u hu => goes_call 76 #[.agg #[.int .u8 p, .int .u32 x, .int .u32 d, .int .u16 a, .int .u16 b]] (by go_simp) (key_any p x d a b u)) ?_
 simp only [Act.put, sA, sB, sC]
 refine rV Later.pre 3 rfl rfl ?_; apply Exists.intro; refine ⟨fun v1 hv1 => ?_, ?_⟩; (· (go_simp; rfl)); simp only [Act.put, sA, sB, sC]
 refine rV Later.pre 4 rfl rfl ?_; apply Exists.intro; refine ⟨fun v1 hv1 => ?_, ?_⟩; (· (go_simp; rfl)); simp only [Act.put, sA, sB, sC]
 refine rV Later.pre 5 rfl rfl ?_; apply Exists.intro; refine ⟨fun v1 hv1 => ?_, ?_⟩; (· (go_simp; rfl)); simp only [Act.put, sA, sB, sC]
 refine rV Later.pre 6 rfl rfl ?_; apply Exists.intro; refine ⟨fun v1 hv1 => ?_, ?_⟩; (· (go_simp; rfl)); simp only [Act.put, sA, sB, sC]
 refine rV Later.pre 7 rfl rfl ?_; apply Exists.intro; refine ⟨fun v1 hv1 => ?_, ?_⟩; (· (go_simp; rfl)); simp only [Act.put, sA, sB, sC]
 refine anyR_take Later.pre 8 (.agg #[.int .u8 f.o.pr, .int .u32 f.o.src, .int .u32 f.o.dst, .int .u16 (kyp f.o.pr f.o.sp), .int .u16 f.o.dp]) rfl (by kernel_rfl) (by kernel_rfl) (by kernel_rfl) (fun _ _ _ h => h) rfl (fun u hu => goes_call 76 #[.agg #[.int .u8 f.o.pr, .int .u32 f.o.src, .int .u32 f.o.dst, .int .u16 f.o.sp, .int .u16 f.o.dp]] (by go_simp) (key_any f.o.pr f.o.src f.o.dst f.o.sp f.o.dp u)) ?_
 simp only [Act.put, sA, sB, sC]
 clear q0 qf
 generalize kyp p a = ka at *
 generalize kyp f.o.pr f.o.sp = ka2 at *
 have q5 : ∀ v : World, (binOp .neq 68 (.agg #[.int .u8 p, .int .u32 x, .int .u32 d, .int .u16 ka, .int .u16 b]) (.agg #[.int .u8 f.o.pr, .int .u32 f.o.src, .int .u32 f.o.dst, .int .u16 ka2, .int .u16 f.o.dp])).run Tryz.prog v = .ok (.bool bk) v := fun v => tup_ne2 bk p x d ka b f.o.pr f.o.src f.o.dst ka2 f.o.dp v HBK.out
 refine rV Later.pre 9 rfl rfl ⟨.bool bk, fun v1 hv1 => by
  have hb := HBK.out
  clear q5
  cases bk with
  | true =>
   have hn := hb.1 rfl
   clear hb
   go_simp
   by_cases g1 : p = f.o.pr <;> by_cases g2 : x = f.o.src <;> by_cases g3 : d = f.o.dst <;> by_cases g4 : ka = ka2 <;> by_cases g5 : b = f.o.dp <;> simp_all
  | false =>
   have h2 := Classical.byContradiction (fun q => by have := hb.2 q; cases this)
   obtain ⟨g1, g2, g3, g4, g5⟩ := h2
   rw [g1, g2, g3, g4, g5]
   go_simp, ?_⟩
 simp only [Act.put, sA, sB, sC]
 refine rV Later.pre 10 rfl rfl ?_; apply Exists.intro; refine ⟨fun v1 hv1 => ?_, ?_⟩; (· (go_simp; rfl)); simp only [Act.put, sA, sB, sC]
 refine rV Later.pre 11 rfl rfl ?_; apply Exists.intro; refine ⟨fun v1 hv1 => ?_, ?_⟩; (· (go_simp; rfl)); simp only [Act.put, sA, sB, sC]
 refine rV Later.pre 12 rfl rfl ?_; apply Exists.intro; refine ⟨fun v1 hv1 => ?_, ?_⟩; (· (go_simp; rfl)); simp only [Act.put, sA, sB, sC]
 refine anyR_done (by kernel_rfl) (fun V2 hV2 => ?_)
 go_wp2_with fail
 exact bodyPost_ret (v := .tuple #[.pointer (some ⟨f.blk, 0, none⟩), .bool bk, .bool true]) (by simp [results, Tryz.results33, go_sem]) rfl ⟨rfl, l0.trans (L9.trans (hV1.trans hV2))⟩
theorem masq_some (base gr : Nat) (vr : Value) (ls : List Ru) (x : Int) (W : World) (mr : Ru) (h : RL 136 base W gr vr ls) (hok : okL ls) (hx : 0 ≤ x ∧ x ≤ 4294967295) (hn : ls.find? (mqB x) = some mr) :
  Calls Tryz.prog 228 #[.pointer (some ⟨gr, 0, none⟩), .int .u32 x] W fun e w' => e = .returned (.tuple #[.agg #[.int .i64 mr.kind, .int .u8 mr.proto, .int .u32 mr.net, .int .i64 mr.bits, .int .u32 mr.tt, .int .u16 mr.port, .int .u32 mr.host, .int .u16 mr.hp], .bool true]) ∧ Later W w' := by
 have := masq_any base (some ⟨gr, 0, none⟩) ls x W (.inr ⟨gr, vr, rfl, h⟩) hok hx
 have e1 : fnd (mqB x) ls = mr := by unfold fnd; rw [hn]; rfl
 have e2 : fdb (mqB x) ls = true := by unfold fdb; rw [hn]; rfl
 rw [e1, e2] at this
 exact this
def MqC (v : Value) (n : Nat) (wx : World) (mr : Ru) : Prop := ∃ gn, v = .pointer (some ⟨gn, 0, none⟩) ∧ n ≤ gn ∧ wx.heap[gn]? = some (.cells #[.int .i64 mr.kind, .int .u8 mr.proto, .int .u32 mr.net, .int .i64 mr.bits, .int .u32 mr.tt, .int .u16 mr.port, .int .u32 mr.host, .int .u16 mr.hp] 35 (0, 0))
def BgQ (base : Nat) (w w' : World) (g : Nat) (s : Gf) (o : Tu) (mr : Ru) (e : Ending) : Prop := ∃ (f : Fl) (pb : Nat), w.heap.size ≤ f.blk ∧ e = .returned (.pointer (some ⟨f.blk, 0, none⟩)) ∧ KG base w w' ∧ f.id = s.bg ∧ f.o = o ∧ f.r = ⟨17, o.dst, mr.tt, o.dp, (tkn s.lo s.hi o.sp.toNat : Int)⟩ ∧ f.side = 0 ∧ f.ms = -1 ∧ f.hp = noh ∧ GF base w' g (bcS (opS (withP s 17 mr.tt pb (wsR (wsOf (nums s.lo s.hi)) (tkn s.lo s.hi o.sp.toNat))) f) f 8)
set_option maxRecDepth 100000 in
set_option maxHeartbeats 8000000 in
theorem beginInside_yes (base g : Nat) (s : Gf) (tos id ttl pr src dst : Int) (keep : Bool) (so sd : Value) (side : Int) (x d : Int) (a : Nat) (b : Int) (mr : Ru) (w : World) (h : GF base w g s) (hps : s.ps = []) (hok : okL s.ls) (hmr : s.ls.find? (mqB x) = some mr) (hbs : base ≤ w.heap.size) (hx : 0 ≤ x ∧ x ≤ 4294967295) (hd : 0 ≤ d ∧ d ≤ 4294967295) (ha : a ≤ 65535) (hb : 0 ≤ b ∧ b ≤ 65535) (htt : 0 ≤ mr.tt ∧ mr.tt ≤ 4294967295)
  (h1 : 1 ≤ s.lo) (h2 : s.lo ≤ s.hi) (h3 : s.hi < 65536) (hz : ∀ W, KG base w W → Dz W) (hgz : 1 ≤ w.heap.size) (hs1 : (b == 5060) = false) (hs2 : ((a : Int) == 5060) = false)
  (hk1 : kx 17 x d (a : Int) b s.rw = none) (hk2 : ∀ n : Nat, kx 17 d mr.tt b (n : Int) s.rw = none) (hfs : s.fs.length < 64) (hne : ¬ (x = d ∧ d = mr.tt)) (htr : 0 ≤ s.trn ∧ s.trn ≤ 900000) (hnw : 0 ≤ s.now ∧ s.now ≤ 549755813888) (hbg : 0 ≤ s.bg ∧ s.bg ≤ 1000000) (hid : ∀ y ∈ s.fs, y.id ≠ s.bg) (hcn : 0 ≤ s.cnt ∧ s.cnt ≤ 1000) (hln : ∀ i, (s.rw i).length ≤ 4000) :
  Calls Tryz.prog 193 #[.agg #[.pointer (some ⟨g, 0, none⟩), .int .u8 tos, .int .u16 id, .bool keep, .int .u8 ttl, .int .u8 pr, .int .u32 src, .int .u32 dst, so, sd, .int .i64 side], .agg #[.int .u8 17, .int .u32 x, .int .u32 d, .int .u16 (a : Int), .int .u16 b]] w fun e w' => BgQ base w w' g s ⟨17, x, d, (a : Int), b⟩ mr e := by
 obtain ⟨l0, c0, c1⟩ := alloc2 w (.cells #[.pointer (some ⟨g, 0, none⟩), .int .u8 tos, .int .u16 id, .bool keep, .int .u8 ttl, .int .u8 pr, .int .u32 src, .int .u32 dst, so, sd, .int .i64 side] 149) (.cells #[.int .u8 17, .int .u32 x, .int .u32 d, .int .u16 (a : Int), .int .u16 b] 68)
 have C0 := hide c0
 have C1 := hide c1
 have CG := hide (later_keep l0 h.gc)
 have HG := hide (h.later l0)
 have HMQ := hide (fun W (l : Later w W) => masq_some base s.gr s.vr s.ls x W mr (h.rl.later l) hok hx hmr)
 have HTK := hide (fun W (hh : GF base W g s) (hb' : base ≤ W.heap.size) (k : KG base w W) => gtake_new base g s 17 mr.tt a W hh hps h1 h2 h3 (by omega) hb' (fun V hV => hz V (k.trans (KG.of_but hV (fun q e => by have e' : q = s.gp := e; rw [e']; exact ⟨hh.bf.2, fun ob ho => by have hp := hh.pl; rw [hp] at ho; cases ho; exact trivial⟩)))) (Nat.le_trans hgz k.size))
 obtain ⟨n, hn⟩ : ∃ n, n = tkn s.lo s.hi a := ⟨_, rfl⟩
 have hnr := tkn_rng (wish := a) h2
 have HN := hide hn
 have HNR := hide hnr
 have HPS := hide hps
 have HGL := hide (bl9 h.pl)
 clear c0 c1 h hok hmr hps hz hgz hn hnr
 go_enter Tryz.func193, Tryz.ntmps193
 go_upto_region 1 with fail
 generalize (w.alloc (.cells #[.pointer (some ⟨g, 0, none⟩), .int .u8 tos, .int .u16 id, .bool keep, .int .u8 ttl, .int .u8 pr, .int .u32 src, .int .u32 dst, so, sd, .int .i64 side] 149)).alloc (.cells #[.int .u8 17, .int .u32 x, .int .u32 d, .int .u16 (a : Int), .int .u16 b] 68) = w1 at *
 generalize hgx : w.heap.size = gx at C0 C1 ⊢
 have LW0 : Later w w1 := l0
 go_cut [5, 6] (fun v c wx => MqC v w1.heap.size wx mr ∧ c = .bool true ∧ Hid (Later w1 wx))
 case first =>
  refine wp_calmG ?_
  refine anyU_begin (R1 := Later) (R2 := fun _ _ => True) (D := [12]) 14 rfl (by kernel_rfl) ?_
  have ld : Later w1 w1.drew := Later.drew w1
  generalize w1.drew = Wd at *
  have LWd : Later w Wd := LW0.trans ld
  have q0 : ∀ v1, Later Wd v1 → ∀ j, v1.cell? ⟨gx, j, none⟩ = #[.pointer (some ⟨g, 0, none⟩), .int .u8 tos, .int .u16 id, .bool keep, .int .u8 ttl, .int .u8 pr, .int .u32 src, .int .u32 dst, so, sd, .int .i64 side][j]? := fun v1 hv => block_cell (later_keep (ld.trans hv) C0.out)
  have q1 : ∀ v1, Later Wd v1 → ∀ j, v1.cell? ⟨gx + 1, j, none⟩ = #[.int .u8 17, .int .u32 x, .int .u32 d, .int .u16 (a : Int), .int .u16 b][j]? := fun v1 hv => block_cell (later_keep (ld.trans hv) C1.out)
  have q2 : ∀ v1, Later Wd v1 → ∀ j, v1.cell? ⟨g, j, none⟩ = (gfc s).toArray[j]? := fun v1 hv => block_cell (later_keep (ld.trans hv) CG.out)
  unfold gfc at q2
  refine anyU_val Later.pre 0 [1, 2, 3, 4, 7, 8, 9, 10, 12, 13] rfl (by rfl) (by rfl) (by kernel_rfl) (by kernel_rfl) (by kernel_rfl) (by kernel_rfl) (by kernel_rfl) (fun _ _ _ _ h => by cases h.1) (by rfl) ?_; apply Exists.intro; refine ⟨fun v1 hv1 => ?_, ?_⟩; (· (go_simp; rfl)); simp only [Act.put, sA, sB, sC]
  refine anyU_val Later.pre 1 [2, 3, 4, 7, 8, 9, 10, 12, 13] rfl (by rfl) (by rfl) (by kernel_rfl) (by kernel_rfl) (by kernel_rfl) (by kernel_rfl) (by kernel_rfl) (fun _ _ _ _ h => by cases h.1) (by rfl) ?_; apply Exists.intro; refine ⟨fun v1 hv1 => ?_, ?_⟩; (· (go_simp; rfl)); simp only [Act.put, sA, sB, sC]
  refine anyU_val Later.pre 2 [3, 4, 7, 8, 9, 10, 12, 13] rfl (by rfl) (by rfl) (by kernel_rfl) (by kernel_rfl) (by kernel_rfl) (by kernel_rfl) (by kernel_rfl) (fun _ _ _ _ h => by cases h.1) (by rfl) ?_; apply Exists.intro; refine ⟨fun v1 hv1 => ?_, ?_⟩; (· (go_simp; rfl)); simp only [Act.put, sA, sB, sC]
  refine anyU_val Later.pre 3 [4, 7, 8, 9, 10, 12, 13] rfl (by rfl) (by rfl) (by kernel_rfl) (by kernel_rfl) (by kernel_rfl) (by kernel_rfl) (by kernel_rfl) (fun _ _ _ _ h => by cases h.1) (by rfl) ?_; apply Exists.intro; refine ⟨fun v1 hv1 => ?_, ?_⟩; (· (go_simp; rfl)); simp only [Act.put, sA, sB, sC]
  refine anyU_val Later.pre 4 [7, 8, 9, 10, 12, 13] rfl (by rfl) (by rfl) (by kernel_rfl) (by kernel_rfl) (by kernel_rfl) (by kernel_rfl) (by kernel_rfl) (fun _ _ _ _ h => by cases h.1) (by rfl) ?_; apply Exists.intro; refine ⟨fun v1 hv1 => ?_, ?_⟩; (· (go_simp; rfl)); simp only [Act.put, sA, sB, sC]
  refine anyU_val Later.pre 5 [6, 7, 8, 9, 10, 12, 13] rfl (by rfl) (by rfl) (by kernel_rfl) (by kernel_rfl) (by kernel_rfl) (by kernel_rfl) (by kernel_rfl) (fun _ _ _ _ h => by cases h.1) (by rfl) ?_; apply Exists.intro; refine ⟨fun v1 hv1 => ?_, ?_⟩; (· (go_simp; rfl)); simp only [Act.put, sA, sB, sC]
  refine anyU_val Later.pre 6 [7, 8, 9, 10, 12, 13] rfl (by rfl) (by rfl) (by kernel_rfl) (by kernel_rfl) (by kernel_rfl) (by kernel_rfl) (by kernel_rfl) (fun _ _ _ _ h => by cases h.1) (by rfl) ?_; apply Exists.intro; refine ⟨fun v1 hv1 => ?_, ?_⟩; (· (go_simp; rfl)); simp only [Act.put, sA, sB, sC]
  clear q0 q1 q2
  refine anyU_two 7 11 rfl rfl (by kernel_rfl) (by rfl) (by rfl) ?ca ?al
  case ca =>
   refine wp_enter 228 #[.pointer (some ⟨s.gr, 0, none⟩), .int .u32 x] (by go_simp) ?_
   refine (HMQ.out Wd LWd).mono ?_
   rintro e W1 ⟨rfl, l1⟩
   refine ⟨Rj_out (by rfl) l1, ?_⟩
   simp only [Act.put, sA, sB, sC]
   refine anyU_val Later.pre 8 [9, 10, 12, 13] rfl (by rfl) (by rfl) (by kernel_rfl) (by kernel_rfl) (by kernel_rfl) (by kernel_rfl) (by kernel_rfl) (fun _ _ _ _ h => by cases h.1) (by rfl) ?_; apply Exists.intro; refine ⟨fun v1 hv1 => ?_, ?_⟩; (· (go_simp; rfl)); simp only [Act.put, sA, sB, sC]
   refine anyU_val Later.pre 9 [12, 13] rfl (by rfl) (by rfl) (by kernel_rfl) (by kernel_rfl) (by kernel_rfl) (by kernel_rfl) (by kernel_rfl) (fun _ _ _ _ h => by cases h.1) (by rfl) ?_; apply Exists.intro; refine ⟨fun v1 hv1 => ?_, ?_⟩; (· (go_simp; rfl)); simp only [Act.put, sA, sB, sC]
   have HSZ := (ld.trans l1).size
   refine anyU_two 10 11 rfl rfl (by kernel_rfl) (by rfl) (by rfl) ?xt1011 ?yt1011
   case xt1011 =>
    refine wp_value (w' := W1) (.bool true) (by go_simp) ?_
    refine ⟨Rj_out (by rfl) (Later.refl _), ?_⟩
    simp only [Act.put, sA, sB, sC]
    refine anyU_one 11 rfl (by kernel_rfl) (by rfl) ?_
    have la := later_allocG W1 (.cells #[.int .i64 0, .int .u8 0, .int .u32 0, .int .i64 0, .int .u32 0, .int .u16 0, .int .u32 0, .int .u16 0] 35)
    have HA0 := heap_alloc_new W1 (.cells #[.int .i64 0, .int .u8 0, .int .u32 0, .int .i64 0, .int .u32 0, .int .u16 0, .int .u32 0, .int .u16 0] 35)
    unfold Oper.wp
    go_simp
    refine ⟨Rj_out (by rfl) la, ?_⟩
    change wpAnyU _ _ _ _ _ _ _ _ _ _ (W1.alloc (.cells #[.int .i64 0, .int .u8 0, .int .u32 0, .int .i64 0, .int .u32 0, .int .u16 0, .int .u32 0, .int .u16 0] 35))
    have hgn : w1.heap.size ≤ W1.heap.size := HSZ
    generalize W1.alloc (.cells #[.int .i64 0, .int .u8 0, .int .u32 0, .int .i64 0, .int .u32 0, .int .u16 0, .int .u32 0, .int .u16 0] 35) = W5 at *
    generalize W1.heap.size = gn at *
    have HA := HA0
    have LL := ld.trans (l1.trans la)
    refine anyU_one 12 rfl (by kernel_rfl) (by rfl) ?_
    have kA := block_cell HA
    have fA := block_frozen HA
    unfold Oper.wp
    go_simp
    refine ⟨Rj_in (by rfl) trivial, ?_⟩
    clear kA fA
    generalize hV : ((((((((W5.setCell ⟨gn, 0, none⟩ _).setCell ⟨gn, 1, none⟩ _).setCell ⟨gn, 2, none⟩ _).setCell ⟨gn, 3, none⟩ _).setCell ⟨gn, 4, none⟩ _).setCell ⟨gn, 5, none⟩ _).setCell ⟨gn, 6, none⟩ _).setCell ⟨gn, 7, none⟩ _) = V8
    have hV9 : V8 = putRow W5 gn 0 [.int .i64 mr.kind, .int .u8 mr.proto, .int .u32 mr.net, .int .i64 mr.bits, .int .u32 mr.tt, .int .u16 mr.port, .int .u32 mr.host, .int .u16 mr.hp] := hV.symm
    have hb8 : But (fun b => b = gn) W5 V8 := by rw [hV9]; exact putRow_but (E := fun b => b = gn) (n := gn) rfl _ _ _ _ (But.refl _ _)
    have p8 := putRow_all [.int .i64 mr.kind, .int .u8 mr.proto, .int .u32 mr.net, .int .i64 mr.bits, .int .u32 mr.tt, .int .u16 mr.port, .int .u32 mr.host, .int .u16 mr.hp] HA rfl
    rw [← hV9] at p8
    have PP := hide p8
    clear hV hV9 p8
    have BB := hide (Below.trans LL (hb8.below LL.size (fun k h e => by omega)))
    refine anyU_one 13 rfl (by kernel_rfl) (by rfl) ?_
    refine wp_value (w' := V8) (.bool true) (by go_simp) ?_
    refine ⟨Rj_out (by rfl) (Later.refl _), ?_⟩
    simp only [Act.put, sA, sB, sC]
    refine anyU_done (by kernel_rfl) ?_
    refine ⟨rfl, ?_⟩
    go_wp2_with fail
    go_meet
    case rel => exact ⟨⟨gn, rfl, hgn, PP.out⟩, rfl, BB⟩
   case yt1011 =>
    have la := later_allocG W1 (.cells #[.int .i64 0, .int .u8 0, .int .u32 0, .int .i64 0, .int .u32 0, .int .u16 0, .int .u32 0, .int .u16 0] 35)
    have HA0 := heap_alloc_new W1 (.cells #[.int .i64 0, .int .u8 0, .int .u32 0, .int .i64 0, .int .u32 0, .int .u16 0, .int .u32 0, .int .u16 0] 35)
    unfold Oper.wp
    go_simp
    refine ⟨Rj_out (by rfl) la, ?_⟩
    change wpAnyU _ _ _ _ _ _ _ _ _ _ (W1.alloc (.cells #[.int .i64 0, .int .u8 0, .int .u32 0, .int .i64 0, .int .u32 0, .int .u16 0, .int .u32 0, .int .u16 0] 35))
    have hgn : w1.heap.size ≤ W1.heap.size := HSZ
    generalize W1.alloc (.cells #[.int .i64 0, .int .u8 0, .int .u32 0, .int .i64 0, .int .u32 0, .int .u16 0, .int .u32 0, .int .u16 0] 35) = W5 at *
    generalize W1.heap.size = gn at *
    have HA := HA0
    have LL := ld.trans (l1.trans la)
    refine anyU_two 10 12 rfl rfl (by kernel_rfl) (by rfl) (by rfl) ?xt1012 ?yt1012
    case xt1012 =>
     refine wp_value (w' := W5) (.bool true) (by go_simp) ?_
     refine ⟨Rj_out (by rfl) (Later.refl _), ?_⟩
     simp only [Act.put, sA, sB, sC]
     refine anyU_one 12 rfl (by kernel_rfl) (by rfl) ?_
     have kA := block_cell HA
     have fA := block_frozen HA
     unfold Oper.wp
     go_simp
     refine ⟨Rj_in (by rfl) trivial, ?_⟩
     clear kA fA
     generalize hV : ((((((((W5.setCell ⟨gn, 0, none⟩ _).setCell ⟨gn, 1, none⟩ _).setCell ⟨gn, 2, none⟩ _).setCell ⟨gn, 3, none⟩ _).setCell ⟨gn, 4, none⟩ _).setCell ⟨gn, 5, none⟩ _).setCell ⟨gn, 6, none⟩ _).setCell ⟨gn, 7, none⟩ _) = V8
     have hV9 : V8 = putRow W5 gn 0 [.int .i64 mr.kind, .int .u8 mr.proto, .int .u32 mr.net, .int .i64 mr.bits, .int .u32 mr.tt, .int .u16 mr.port, .int .u32 mr.host, .int .u16 mr.hp] := hV.symm
     have hb8 : But (fun b => b = gn) W5 V8 := by rw [hV9]; exact putRow_but (E := fun b => b = gn) (n := gn) rfl _ _ _ _ (But.refl _ _)
     have p8 := putRow_all [.int .i64 mr.kind, .int .u8 mr.proto, .int .u32 mr.net, .int .i64 mr.bits, .int .u32 mr.tt, .int .u16 mr.port, .int .u32 mr.host, .int .u16 mr.hp] HA rfl
     rw [← hV9] at p8
     have PP := hide p8
     clear hV hV9 p8
     have BB := hide (Below.trans LL (hb8.below LL.size (fun k h e => by omega)))
     refine anyU_one 13 rfl (by kernel_rfl) (by rfl) ?_
     refine wp_value (w' := V8) (.bool true) (by go_simp) ?_
     refine ⟨Rj_out (by rfl) (Later.refl _), ?_⟩
     simp only [Act.put, sA, sB, sC]
     refine anyU_done (by kernel_rfl) ?_
     refine ⟨rfl, ?_⟩
     go_wp2_with fail
     go_meet
     case rel => exact ⟨⟨gn, rfl, hgn, PP.out⟩, rfl, BB⟩
    case yt1012 =>
     have kA := block_cell HA
     have fA := block_frozen HA
     unfold Oper.wp
     go_simp
     refine ⟨Rj_in (by rfl) trivial, ?_⟩
     clear kA fA
     generalize hV : ((((((((W5.setCell ⟨gn, 0, none⟩ _).setCell ⟨gn, 1, none⟩ _).setCell ⟨gn, 2, none⟩ _).setCell ⟨gn, 3, none⟩ _).setCell ⟨gn, 4, none⟩ _).setCell ⟨gn, 5, none⟩ _).setCell ⟨gn, 6, none⟩ _).setCell ⟨gn, 7, none⟩ _) = V8
     have hV9 : V8 = putRow W5 gn 0 [.int .i64 mr.kind, .int .u8 mr.proto, .int .u32 mr.net, .int .i64 mr.bits, .int .u32 mr.tt, .int .u16 mr.port, .int .u32 mr.host, .int .u16 mr.hp] := hV.symm
     have hb8 : But (fun b => b = gn) W5 V8 := by rw [hV9]; exact putRow_but (E := fun b => b = gn) (n := gn) rfl _ _ _ _ (But.refl _ _)
     have p8 := putRow_all [.int .i64 mr.kind, .int .u8 mr.proto, .int .u32 mr.net, .int .i64 mr.bits, .int .u32 mr.tt, .int .u16 mr.port, .int .u32 mr.host, .int .u16 mr.hp] HA rfl
     rw [← hV9] at p8
     have PP := hide p8
     clear hV hV9 p8
     have BB := hide (Below.trans LL (hb8.below LL.size (fun k h e => by omega)))
     refine anyU_one 10 rfl (by kernel_rfl) (by rfl) ?_
     refine wp_value (w' := V8) (.bool true) (by go_simp) ?_
     refine ⟨Rj_out (by rfl) (Later.refl _), ?_⟩
     simp only [Act.put, sA, sB, sC]
     refine anyU_one 13 rfl (by kernel_rfl) (by rfl) ?_
     refine wp_value (w' := V8) (.bool true) (by go_simp) ?_
     refine ⟨Rj_out (by rfl) (Later.refl _), ?_⟩
     simp only [Act.put, sA, sB, sC]
     refine anyU_done (by kernel_rfl) ?_
     refine ⟨rfl, ?_⟩
     go_wp2_with fail
     go_meet
     case rel => exact ⟨⟨gn, rfl, hgn, PP.out⟩, rfl, BB⟩
  case al =>
   have HSZ := ld.size
   have la := later_allocG Wd (.cells #[.int .i64 0, .int .u8 0, .int .u32 0, .int .i64 0, .int .u32 0, .int .u16 0, .int .u32 0, .int .u16 0] 35)
   have HA0 := heap_alloc_new Wd (.cells #[.int .i64 0, .int .u8 0, .int .u32 0, .int .i64 0, .int .u32 0, .int .u16 0, .int .u32 0, .int .u16 0] 35)
   unfold Oper.wp
   go_simp
   refine ⟨Rj_out (by rfl) la, ?_⟩
   change wpAnyU _ _ _ _ _ _ _ _ _ _ (Wd.alloc (.cells #[.int .i64 0, .int .u8 0, .int .u32 0, .int .i64 0, .int .u32 0, .int .u16 0, .int .u32 0, .int .u16 0] 35))
   have hgn : w1.heap.size ≤ Wd.heap.size := HSZ
   generalize Wd.alloc (.cells #[.int .i64 0, .int .u8 0, .int .u32 0, .int .i64 0, .int .u32 0, .int .u16 0, .int .u32 0, .int .u16 0] 35) = W3 at *
   generalize Wd.heap.size = gn at *
   refine anyU_one 7 rfl (by kernel_rfl) (by rfl) ?_
   refine wp_enter 228 #[.pointer (some ⟨s.gr, 0, none⟩), .int .u32 x] (by go_simp) ?_
   refine (HMQ.out W3 (LWd.trans la)).mono ?_
   rintro e W5 ⟨rfl, l1⟩
   refine ⟨Rj_out (by rfl) l1, ?_⟩
   simp only [Act.put, sA, sB, sC]
   refine anyU_val Later.pre 8 [9, 10, 12, 13] rfl (by rfl) (by rfl) (by kernel_rfl) (by kernel_rfl) (by kernel_rfl) (by kernel_rfl) (by kernel_rfl) (fun _ _ _ _ h => by cases h.1) (by rfl) ?_; apply Exists.intro; refine ⟨fun v1 hv1 => ?_, ?_⟩; (· (go_simp; rfl)); simp only [Act.put, sA, sB, sC]
   refine anyU_val Later.pre 9 [12, 13] rfl (by rfl) (by rfl) (by kernel_rfl) (by kernel_rfl) (by kernel_rfl) (by kernel_rfl) (by kernel_rfl) (fun _ _ _ _ h => by cases h.1) (by rfl) ?_; apply Exists.intro; refine ⟨fun v1 hv1 => ?_, ?_⟩; (· (go_simp; rfl)); simp only [Act.put, sA, sB, sC]
   have HA := later_keep l1 HA0
   have LL := ld.trans (la.trans l1)
   refine anyU_two 10 12 rfl rfl (by kernel_rfl) (by rfl) (by rfl) ?xt1012 ?yt1012
   case xt1012 =>
    refine wp_value (w' := W5) (.bool true) (by go_simp) ?_
    refine ⟨Rj_out (by rfl) (Later.refl _), ?_⟩
    simp only [Act.put, sA, sB, sC]
    refine anyU_one 12 rfl (by kernel_rfl) (by rfl) ?_
    have kA := block_cell HA
    have fA := block_frozen HA
    unfold Oper.wp
    go_simp
    refine ⟨Rj_in (by rfl) trivial, ?_⟩
    clear kA fA
    generalize hV : ((((((((W5.setCell ⟨gn, 0, none⟩ _).setCell ⟨gn, 1, none⟩ _).setCell ⟨gn, 2, none⟩ _).setCell ⟨gn, 3, none⟩ _).setCell ⟨gn, 4, none⟩ _).setCell ⟨gn, 5, none⟩ _).setCell ⟨gn, 6, none⟩ _).setCell ⟨gn, 7, none⟩ _) = V8
    have hV9 : V8 = putRow W5 gn 0 [.int .i64 mr.kind, .int .u8 mr.proto, .int .u32 mr.net, .int .i64 mr.bits, .int .u32 mr.tt, .int .u16 mr.port, .int .u32 mr.host, .int .u16 mr.hp] := hV.symm
    have hb8 : But (fun b => b = gn) W5 V8 := by rw [hV9]; exact putRow_but (E := fun b => b = gn) (n := gn) rfl _ _ _ _ (But.refl _ _)
    have p8 := putRow_all [.int .i64 mr.kind, .int .u8 mr.proto, .int .u32 mr.net, .int .i64 mr.bits, .int .u32 mr.tt, .int .u16 mr.port, .int .u32 mr.host, .int .u16 mr.hp] HA rfl
    rw [← hV9] at p8
    have PP := hide p8
    clear hV hV9 p8
    have BB := hide (Below.trans LL (hb8.below LL.size (fun k h e => by omega)))
    refine anyU_one 13 rfl (by kernel_rfl) (by rfl) ?_
    refine wp_value (w' := V8) (.bool true) (by go_simp) ?_
    refine ⟨Rj_out (by rfl) (Later.refl _), ?_⟩
    simp only [Act.put, sA, sB, sC]
    refine anyU_done (by kernel_rfl) ?_
    refine ⟨rfl, ?_⟩
    go_wp2_with fail
    go_meet
    case rel => exact ⟨⟨gn, rfl, hgn, PP.out⟩, rfl, BB⟩
   case yt1012 =>
    have kA := block_cell HA
    have fA := block_frozen HA
    unfold Oper.wp
    go_simp
    refine ⟨Rj_in (by rfl) trivial, ?_⟩
    clear kA fA
    generalize hV : ((((((((W5.setCell ⟨gn, 0, none⟩ _).setCell ⟨gn, 1, none⟩ _).setCell ⟨gn, 2, none⟩ _).setCell ⟨gn, 3, none⟩ _).setCell ⟨gn, 4, none⟩ _).setCell ⟨gn, 5, none⟩ _).setCell ⟨gn, 6, none⟩ _).setCell ⟨gn, 7, none⟩ _) = V8
    have hV9 : V8 = putRow W5 gn 0 [.int .i64 mr.kind, .int .u8 mr.proto, .int .u32 mr.net, .int .i64 mr.bits, .int .u32 mr.tt, .int .u16 mr.port, .int .u32 mr.host, .int .u16 mr.hp] := hV.symm
    have hb8 : But (fun b => b = gn) W5 V8 := by rw [hV9]; exact putRow_but (E := fun b => b = gn) (n := gn) rfl _ _ _ _ (But.refl _ _)
    have p8 := putRow_all [.int .i64 mr.kind, .int .u8 mr.proto, .int .u32 mr.net, .int .i64 mr.bits, .int .u32 mr.tt, .int .u16 mr.port, .int .u32 mr.host, .int .u16 mr.hp] HA rfl
    rw [← hV9] at p8
    have PP := hide p8
    clear hV hV9 p8
    have BB := hide (Below.trans LL (hb8.below LL.size (fun k h e => by omega)))
    refine anyU_one 10 rfl (by kernel_rfl) (by rfl) ?_
    refine wp_value (w' := V8) (.bool true) (by go_simp) ?_
    refine ⟨Rj_out (by rfl) (Later.refl _), ?_⟩
    simp only [Act.put, sA, sB, sC]
    refine anyU_one 13 rfl (by kernel_rfl) (by rfl) ?_
    refine wp_value (w' := V8) (.bool true) (by go_simp) ?_
    refine ⟨Rj_out (by rfl) (Later.refl _), ?_⟩
    simp only [Act.put, sA, sB, sC]
    refine anyU_done (by kernel_rfl) ?_
    refine ⟨rfl, ?_⟩
    go_wp2_with fail
    go_meet
    case rel => exact ⟨⟨gn, rfl, hgn, PP.out⟩, rfl, BB⟩
 case rest =>
 obtain ⟨⟨gn, rfl, hgn, hC⟩, rfl, hL⟩ := hcut
 obtain ⟨w2, hw2⟩ : ∃ w2, w2 = wc := ⟨_, rfl⟩
 subst hw2
 have H2 := hide (HG.out.later hL.out)
 have K2 : Hid (KG base w w2) := KG.of_later (LW0.trans hL.out)
 have D0 := hide (later_keep hL.out C0.out)
 have D1 := hide (later_keep hL.out C1.out)
 have D2 := hide hC
 have hgn2 : gx + 1 < gn := Nat.lt_of_lt_of_le (bl9 C1.out) hgn
 have hb2 : base ≤ w2.heap.size := Nat.le_trans hbs K2.out.size
 clear C0 C1 CG HG HMQ hL hC hgn LW0 l0
 have k0 := block_cell D0.out
 have k1 := block_cell D1.out
 have k2 := block_cell D2.out
 go_wp2_with fail
 refine (grefuse_no 2 w2).mono ?_
 rintro e w2' ⟨rfl, rfl⟩
 go_wp2_with fail
 refine (HTK.out w2 H2.out hb2 K2.out).mono ?_
 rintro e w3 ⟨pb, he, M3, hpb, h3'⟩
 rw [← HN.out] at he h3'
 subst he
 have hnm : ∀ (b : Nat) (cur : Array Value) (t : TypeId) (f : Nat × Nat), w2.heap[b]? = some (.cells cur t f) → w3.heap[b]? = some (.cells cur t f) := fun b cur t f hb => (M3.block b (bl9 hb) (fun e => by have e' : b = s.gp := e; have hh := H2.out.pl; rw [← e', hb] at hh; cases hh)).trans hb
 have K3 : Hid (KG base w w3) := K2.out.trans (KG.of_but M3 (fun q e => by have e' : q = s.gp := e; rw [e']; exact ⟨H2.out.bf.2, fun ob ho => by have hp := H2.out.pl; rw [hp] at ho; cases ho; exact trivial⟩))
 have E0 := hide (hnm _ _ _ _ D0.out)
 have E1 := hide (hnm _ _ _ _ D1.out)
 have E2 := hide (hnm _ _ _ _ D2.out)
 have H3 := hide h3'
 clear k0 k1 k2 D0 D1 D2 HTK M3 hnm H2 K2 h3' hb2
 have k0 := block_cell E0.out
 have k1 := block_cell E1.out
 have k2 := block_cell E2.out
 go_wp2_with fail
 have la := later_allocG w3 (.cells #[.int .u8 17, .int .u32 mr.tt, .int .u16 (n : Int)] 189)
 have ca := heap_alloc_new w3 (.cells #[.int .u8 17, .int .u32 mr.tt, .int .u16 (n : Int)] 189)
 refine (grefuse_no 4 _).mono ?_
 rintro e w4 ⟨rfl, hw4⟩
 rw [hw4] at la ca
 clear hw4
 have H4 := hide (H3.out.later la)
 have K4 : Hid (KG base w w4) := K3.out.trans (KG.of_later la)
 have F0 := hide (later_keep la E0.out)
 have F1 := hide (later_keep la E1.out)
 have F2 := hide (later_keep la E2.out)
 have F3 := hide ca
 generalize hg3 : w3.heap.size = gm at *
 clear k0 k1 k2 E0 E1 E2 la ca H3 K3
 have k0 := block_cell F0.out
 have k1 := block_cell F1.out
 have k2 := block_cell F2.out
 have k3 := block_cell F3.out
 have la := later_allocG w4 (.cells #[.int .u8 17, .int .u32 d, .int .u32 mr.tt, .int .u16 b, .int .u16 (n : Int)] 68)
 have ca := heap_alloc_new w4 (.cells #[.int .u8 17, .int .u32 d, .int .u32 mr.tt, .int .u16 b, .int .u16 (n : Int)] 68)
 have LA := hide la
 have CA := hide ca
 clear la ca
 go_upto_region 6 with fail
 generalize hw5 : w4.alloc _ = w5 at *
 clear hw5
 generalize hg4 : w4.heap.size = gr at *
 have H5 := hide (H4.out.later LA.out)
 have K5 : Hid (KG base w w5) := K4.out.trans (KG.of_later LA.out)
 have G0 := hide (later_keep LA.out F0.out)
 have G1 := hide (later_keep LA.out F1.out)
 have G3 := hide (later_keep LA.out F3.out)
 have G4 := hide CA.out
 clear k0 k1 k2 k3 F0 F1 F2 F3 H4 K4 LA CA
 have k0 := block_cell G0.out
 have k1 := block_cell G1.out
 have k3 := block_cell G3.out
 have k4 := block_cell G4.out
 go_wp2_with fail
 refine (roomFor_yes base g _ 17 x d (a : Int) b 17 d mr.tt b (n : Int) w5 H5.out hk1 (hk2 n) hx hd ⟨by omega, by omega⟩ hb hd htt hb ⟨by omega, by have := HNR.out; rw [← HN.out] at this; omega⟩ hfs (fun e => hne ⟨e.2.1, e.2.2.1⟩)).mono ?_
 rintro e w6 ⟨rfl, l6⟩
 have H6 := hide (H5.out.later l6)
 have K6 : Hid (KG base w w6) := K5.out.trans (KG.of_later l6)
 have J0 := hide (later_keep l6 G0.out)
 have J1 := hide (later_keep l6 G1.out)
 have J3 := hide (later_keep l6 G3.out)
 have J4 := hide (later_keep l6 G4.out)
 clear k0 k1 k3 k4 G0 G1 G3 G4 H5 K5 l6
 have k0 := block_cell J0.out
 have k1 := block_cell J1.out
 have k3 := block_cell J3.out
 have k4 := block_cell J4.out
 have hbg' : gx ≤ w6.heap.size := by rw [← hgx]; exact K6.out.size
 have la := later_allocG w6 (.cells #[.int .u8 17, .int .u32 mr.tt, .int .u16 (n : Int)] 189)
 have HOP := hide (open_udp base g _ ⟨17, x, d, (a : Int), b⟩ ⟨17, d, mr.tt, b, (n : Int)⟩ 0 0 0 0 (-1) (some ⟨w6.heap.size, 0, none⟩) 1 1 (w6.alloc (.cells #[.int .u8 17, .int .u32 mr.tt, .int .u16 (n : Int)] 189)) (H6.out.later la) rfl hs1 hs2 (Nat.le_trans hbs (Nat.le_trans K6.out.size la.size)) ⟨hx, hd, ⟨by show (0:Int) ≤ (a : Int); omega, by show (a : Int) ≤ 65535; omega⟩, hb⟩ ⟨hd, htt, hb, ⟨by show (0:Int) ≤ (n : Int); omega, by have := HNR.out; rw [← HN.out] at this; show (n : Int) ≤ 65535; omega⟩⟩ htr hnw hbg hid hcn hln)
 have K7 : Hid (KG base w (w6.alloc (.cells #[.int .u8 17, .int .u32 mr.tt, .int .u16 (n : Int)] 189))) := K6.out.trans (KG.of_later la)
 clear la
 go_wp2_with fail
 refine HOP.out.mono ?_
 rintro e w8 ⟨f, hfb, rfl, hk, e1, e2, e3, e4, e5, e6, e7, hG⟩
 clear k0 k1 k3 k4
 go_wp2_with fail
 go_ret
 refine ⟨f, pb, ?_, rfl, K7.out.trans hk, e1, e2, ?_, e4, e5, e7, ?_⟩
 ·exact Nat.le_trans K7.out.size hfb
 ·rw [e3]
  show _ = Tu.mk 17 d mr.tt b ((tkn s.lo s.hi ((a : Int).toNat) : Nat) : Int)
  rw [show ((a : Int).toNat) = a from rfl, ← HN.out]
 ·show GF base w8 g (bcS (opS (withP s 17 mr.tt pb (wsR (wsOf (nums s.lo s.hi)) (tkn s.lo s.hi ((a : Int).toNat)))) f) f 8)
  rw [show ((a : Int).toNat) = a from rfl, ← HN.out]
  exact hG
structure Rdy (s : Gf) (x d : Int) (a : Nat) (b : Int) (mr : Ru) : Prop where
 ps : s.ps = []
 ok : okL s.ls
 fd : s.ls.find? (mqB x) = some mr
 hx : 0 ≤ x ∧ x ≤ 4294967295
 hd : 0 ≤ d ∧ d ≤ 4294967295
 ha : a ≤ 65535
 hb : 0 ≤ b ∧ b ≤ 65535
 tt : 0 ≤ mr.tt ∧ mr.tt ≤ 4294967295
 h1 : 1 ≤ s.lo
 h2 : s.lo ≤ s.hi
 h3 : s.hi < 65536
 s1 : (b == 5060) = false
 s2 : ((a : Int) == 5060) = false
 k1 : kx 17 x d (a : Int) b s.rw = none
 k2 : ∀ n : Nat, kx 17 d mr.tt b (n : Int) s.rw = none
 fs : s.fs.length < 64
 ne : ¬ (x = d ∧ d = mr.tt)
 tr : 0 ≤ s.trn ∧ s.trn ≤ 900000
 nw : 0 ≤ s.now ∧ s.now ≤ 549755813888
 bg : 0 ≤ s.bg ∧ s.bg ≤ 1000000
 id : ∀ y ∈ s.fs, y.id ≠ s.bg
 cn : 0 ≤ s.cnt ∧ s.cnt ≤ 1000
 ln : ∀ i, (s.rw i).length ≤ 4000
theorem BgQ.of {base g : Nat} {w w1 w' : World} {s : Gf} {o : Tu} {mr : Ru} {e : Ending} (k : KG base w w1) (h : BgQ base w1 w' g s o mr e) : BgQ base w w' g s o mr e := by
 obtain ⟨f, pb, q1, q2, q3, q⟩ := h
 exact ⟨f, pb, Nat.le_trans k.size q1, q2, k.trans q3, q⟩
set_option maxRecDepth 100000 in
set_option maxHeartbeats 8000000 in
theorem begin_yes (base g : Nat) (s : Gf) (tos id ttl pr src dst : Int) (keep : Bool) (so sd : Value) (x d : Int) (a : Nat) (b : Int) (mr : Ru) (w : World) (h : GF base w g s) (hR : Rdy s x d a b mr) (hbs : base ≤ w.heap.size) (hz : ∀ W, KG base w W → Dz W) (hgz : 1 ≤ w.heap.size) :
  Calls Tryz.prog 153 #[.agg #[.pointer (some ⟨g, 0, none⟩), .int .u8 tos, .int .u16 id, .bool keep, .int .u8 ttl, .int .u8 pr, .int .u32 src, .int .u32 dst, so, sd, .int .i64 0], .agg #[.int .u8 17, .int .u32 x, .int .u32 d, .int .u16 (a : Int), .int .u16 b]] w fun e w' => BgQ base w w' g s ⟨17, x, d, (a : Int), b⟩ mr e := by
 obtain ⟨l0, c0, c1⟩ := alloc2 w (.cells #[.pointer (some ⟨g, 0, none⟩), .int .u8 tos, .int .u16 id, .bool keep, .int .u8 ttl, .int .u8 pr, .int .u32 src, .int .u32 dst, so, sd, .int .i64 0] 149) (.cells #[.int .u8 17, .int .u32 x, .int .u32 d, .int .u16 (a : Int), .int .u16 b] 68)
 have C0 := hide c0
 have C1 := hide c1
 have HB := hide (beginInside_yes base g s tos id ttl pr src dst keep so sd 0 x d a b mr _ (h.later l0) hR.ps hR.ok hR.fd (Nat.le_trans hbs l0.size) hR.hx hR.hd hR.ha hR.hb hR.tt hR.h1 hR.h2 hR.h3 (fun W k => hz W ((KG.of_later l0).trans k)) (Nat.le_trans hgz l0.size) hR.s1 hR.s2 hR.k1 hR.k2 hR.fs hR.ne hR.tr hR.nw hR.bg hR.id hR.cn hR.ln)
 clear c0 c1 h hR hz hgz
 go_enter Tryz.func153, Tryz.ntmps153
 go_upto_region 1 with fail
 generalize (w.alloc (.cells #[.pointer (some ⟨g, 0, none⟩), .int .u8 tos, .int .u16 id, .bool keep, .int .u8 ttl, .int .u8 pr, .int .u32 src, .int .u32 dst, so, sd, .int .i64 0] 149)).alloc (.cells #[.int .u8 17, .int .u32 x, .int .u32 d, .int .u16 (a : Int), .int .u16 b] 68) = w1 at *
 generalize hgx : w.heap.size = gx at C0 C1 ⊢
 have k0 := block_cell C0.out
 have k1 := block_cell C1.out
 go_wp2_with fail
 refine (grefuse_no 5 w1).mono ?_
 rintro e w2 ⟨rfl, rfl⟩
 go_wp2_with fail
 refine (grefuse_no 5 w1).mono ?_
 rintro e w2 ⟨rfl, rfl⟩
 go_wp2_with fail
 refine (grefuse_no 3 w1).mono ?_
 rintro e w2 ⟨rfl, rfl⟩
 go_wp2_with fail
 refine HB.out.mono ?_
 rintro e w2 hq
 obtain ⟨f, pb, q1, rfl, q⟩ := hq
 clear k0 k1
 go_wp2_with fail
 go_ret
 exact BgQ.of (KG.of_later l0) ⟨f, pb, q1, rfl, q⟩
def OwQ (base : Nat) (w w' : World) (g : Nat) (s : Gf) (o : Tu) (mr : Ru) (e : Ending) : Prop := ∃ (f : Fl) (pb : Nat), w.heap.size ≤ f.blk ∧ e = .returned (.tuple #[.pointer (some ⟨f.blk, 0, none⟩), .bool false]) ∧ KG base w w' ∧ f.id = s.bg ∧ f.o = o ∧ f.r = ⟨17, o.dst, mr.tt, o.dp, (tkn s.lo s.hi o.sp.toNat : Int)⟩ ∧ f.side = 0 ∧ f.ms = -1 ∧ f.hp = noh ∧ GF base w' g (bcS (opS (withP s 17 mr.tt pb (wsR (wsOf (nums s.lo s.hi)) (tkn s.lo s.hi o.sp.toNat))) f) f 8)
set_option maxRecDepth 100000 in
set_option maxHeartbeats 8000000 in
theorem owner_yes (base g : Nat) (s : Gf) (tos id ttl pr src dst : Int) (keep : Bool) (so sd : Value) (x d : Int) (a : Nat) (b : Int) (mr : Ru) (w : World) (h : GF base w g s) (hR : Rdy s x d a b mr) (hbs : base ≤ w.heap.size) (hz : ∀ W, KG base w W → Dz W) (hgz : 1 ≤ w.heap.size) :
  Calls Tryz.prog 108 #[.agg #[.pointer (some ⟨g, 0, none⟩), .int .u8 tos, .int .u16 id, .bool keep, .int .u8 ttl, .int .u8 pr, .int .u32 src, .int .u32 dst, so, sd, .int .i64 0], .agg #[.int .u8 17, .int .u32 x, .int .u32 d, .int .u16 (a : Int), .int .u16 b]] w fun e w' => OwQ base w w' g s ⟨17, x, d, (a : Int), b⟩ mr e := by
 obtain ⟨l0, c0, c1⟩ := alloc2 w (.cells #[.pointer (some ⟨g, 0, none⟩), .int .u8 tos, .int .u16 id, .bool keep, .int .u8 ttl, .int .u8 pr, .int .u32 src, .int .u32 dst, so, sd, .int .i64 0] 149) (.cells #[.int .u8 17, .int .u32 x, .int .u32 d, .int .u16 (a : Int), .int .u16 b] 68)
 have C0 := hide c0
 have C1 := hide c1
 have HL := hide (lookUpF_none base g s 17 x d (a : Int) b _ (h.later l0) hR.k1 hR.hx hR.hd ⟨by omega, by have := hR.ha; omega⟩ hR.hb)
 have HB := hide (fun W (l : Later w W) => begin_yes base g s tos id ttl pr src dst keep so sd x d a b mr W (h.later l) hR (Nat.le_trans hbs l.size) (fun V k => hz V ((KG.of_later l).trans k)) (Nat.le_trans hgz l.size))
 clear c0 c1 h hR hz hgz
 go_enter Tryz.func108, Tryz.ntmps108
 go_upto_region 1 with fail
 generalize (w.alloc (.cells #[.pointer (some ⟨g, 0, none⟩), .int .u8 tos, .int .u16 id, .bool keep, .int .u8 ttl, .int .u8 pr, .int .u32 src, .int .u32 dst, so, sd, .int .i64 0] 149)).alloc (.cells #[.int .u8 17, .int .u32 x, .int .u32 d, .int .u16 (a : Int), .int .u16 b] 68) = w1 at *
 generalize hgx : w.heap.size = gx at C0 C1 ⊢
 have k0 := block_cell C0.out
 have k1 := block_cell C1.out
 go_wp2_with fail
 refine HL.out.mono ?_
 rintro e w2 ⟨rfl, l2⟩
 clear k0 k1 HL
 have L2 : Later w w2 := l0.trans l2
 have k0 := block_cell (later_keep l2 C0.out)
 have k1 := block_cell (later_keep l2 C1.out)
 have HB2 := hide (HB.out w2 L2)
 clear HB
 go_wp2_with fail
 refine HB2.out.mono ?_
 rintro e w3 hq
 obtain ⟨f, pb, q1, rfl, q3, q⟩ := hq
 clear k0 k1
 go_wp2_with fail
 exact bodyPost_ret (v := .tuple #[.pointer (some ⟨f.blk, 0, none⟩), .bool false]) (by simp [results, Tryz.results108, go_sem]) rfl ⟨f, pb, Nat.le_trans L2.size q1, rfl, (KG.of_later L2).trans q3, q⟩
theorem KG.pre (base : Nat) : Pre (KG base) := ⟨fun a => KG.refl base a, fun a b c h k => h.trans k⟩
def Comes (side : Int) (bk : Bool) : Prop := (side = 1 ∧ bk = true) ∨ (side = 0 ∧ bk = false)
theorem Ow.kg {base n0 : Nat} {W W' : World} {v : Value} {zs : List Int} (h : Ow n0 W v zs) (k : KG base W W') : Ow n0 W' v zs := by
 rcases h with h | ⟨g, cap, cur, q1, q2, q3, q4, q5, q6, q7⟩
 ·exact .inl h
 ·exact .inr ⟨g, cap, cur, q1, q2, q3, q4, q5, k.cells q6 (by decide), q7⟩
theorem KG.own {base k : Nat} {a b c : World} (h : KG base a b) (hb : But (fun q => q = k) b c) (hk : a.heap.size ≤ k) : KG base a c := ⟨hb.os.trans h.os, hb.tape.trans h.tape, hb.output.trans h.output, Nat.le_trans h.size hb.size, fun i o h1 h2 => by
 have hi := (bl9 h1)
 exact (hb.block i (Nat.lt_of_lt_of_le hi h.size) (fun e => by have e' : i = k := e; omega)).trans (h.block i o h1 h2)⟩
theorem other_no (f : Fl) (w : World) (h : w.heap[f.blk]? = some (.cells (flc f).toArray 93 (0, 0))) :
  Calls Tryz.prog 110 #[.pointer (some ⟨f.blk, 0, none⟩), .bool false] w fun e w' => e = .returned (.agg #[.int .u8 f.r.pr, .int .u32 f.r.src, .int .u32 f.r.dst, .int .u16 f.r.sp, .int .u16 f.r.dp]) ∧ Later w w' := by
 have la := later_allocG w (.cells #[.int .u8 0, .int .u32 0, .int .u32 0, .int .u16 0, .int .u16 0] 68)
 have C0 := hide (heap_alloc_new w (.cells #[.int .u8 0, .int .u32 0, .int .u32 0, .int .u16 0, .int .u16 0] 68))
 have C1 := hide (later_keep la h)
 clear h
 go_enter Tryz.func110, Tryz.ntmps110
 go_upto_region 3 with fail
 generalize w.alloc _ = w1 at *
 generalize hgx : w.heap.size = gx at C0 ⊢
 have k0 := block_cell C0.out
 have f0 := block_frozen C0.out
 have k1 := block_cell C1.out
 unfold flc at k1
 go_wp2_with fail
 generalize hV : (((((w1.setCell ⟨gx, 0, none⟩ _).setCell ⟨gx, 1, none⟩ _).setCell ⟨gx, 2, none⟩ _).setCell ⟨gx, 3, none⟩ _).setCell ⟨gx, 4, none⟩ _) = V8
 have hV9 : V8 = putRow w1 gx 0 [.int .u8 f.r.pr, .int .u32 f.r.src, .int .u32 f.r.dst, .int .u16 f.r.sp, .int .u16 f.r.dp] := hV.symm
 have hb8 : But (fun b => b = gx) w1 V8 := by rw [hV9]; exact putRow_but (E := fun b => b = gx) (n := gx) rfl _ _ _ _ (But.refl _ _)
 have p8 := putRow_all [.int .u8 f.r.pr, .int .u32 f.r.src, .int .u32 f.r.dst, .int .u16 f.r.sp, .int .u16 f.r.dp] C0.out rfl
 rw [← hV9] at p8
 clear hV hV9
 have P8 := block_cell p8
 exact bodyPost_ret (v := .agg #[.int .u8 f.r.pr, .int .u32 f.r.src, .int .u32 f.r.dst, .int .u16 f.r.sp, .int .u16 f.r.dp]) (by simp [results, Tryz.results110, go_sem, P8]) rfl ⟨rfl, Below.trans la (hb8.below la.size (fun k hk e => by have e' : k = gx := e; omega))⟩
theorem nohelp_any (x : Array Value) (w : World) (tos id ttl pr src dst : Int) (keep : Bool) (ao ad : Option Addr) (lo co ld cd : Nat) :
  Calls Tryz.prog 503 #[.agg #[], .agg x, .agg #[.int .u8 tos, .int .u16 id, .bool keep, .int .u8 ttl, .int .u8 pr, .int .u32 src, .int .u32 dst, .slice ao lo co, .slice ad ld cd]] w fun e w' => e = .returned (.agg #[.int .u8 tos, .int .u16 id, .bool keep, .int .u8 ttl, .int .u8 pr, .int .u32 src, .int .u32 dst, .slice ao lo co, .slice ad ld cd]) ∧ Later w w' := by
 have la := later_allocG w (.cells #[] 383)
 have lb := later_allocG (w.alloc (.cells #[] 383)) (.cells x 222)
 have lc := later_allocG ((w.alloc (.cells #[] 383)).alloc (.cells x 222)) (.cells #[.int .u8 tos, .int .u16 id, .bool keep, .int .u8 ttl, .int .u8 pr, .int .u32 src, .int .u32 dst, .slice ao lo co, .slice ad ld cd] 56)
 have c0 := heap_alloc_new ((w.alloc (.cells #[] 383)).alloc (.cells x 222)) (.cells #[.int .u8 tos, .int .u16 id, .bool keep, .int .u8 ttl, .int .u8 pr, .int .u32 src, .int .u32 dst, .slice ao lo co, .slice ad ld cd] 56)
 have hsz : ((w.alloc (.cells #[] 383)).alloc (.cells x 222)).heap.size = w.heap.size + 1 + 1 := by simp
 rw [hsz] at c0
 have L2 := la.trans (lb.trans lc)
 have ld' := later_allocG (((w.alloc (.cells #[] 383)).alloc (.cells x 222)).alloc (.cells #[.int .u8 tos, .int .u16 id, .bool keep, .int .u8 ttl, .int .u8 pr, .int .u32 src, .int .u32 dst, .slice ao lo co, .slice ad ld cd] 56)) (.cells #[.int .u8 0, .int .u16 0, .bool false, .int .u8 0, .int .u8 0, .int .u32 0, .int .u32 0, .slice none 0 0, .slice none 0 0] 56)
 have c1 := heap_alloc_new (((w.alloc (.cells #[] 383)).alloc (.cells x 222)).alloc (.cells #[.int .u8 tos, .int .u16 id, .bool keep, .int .u8 ttl, .int .u8 pr, .int .u32 src, .int .u32 dst, .slice ao lo co, .slice ad ld cd] 56)) (.cells #[.int .u8 0, .int .u16 0, .bool false, .int .u8 0, .int .u8 0, .int .u32 0, .int .u32 0, .slice none 0 0, .slice none 0 0] 56)
 have hsz2 : (((w.alloc (.cells #[] 383)).alloc (.cells x 222)).alloc (.cells #[.int .u8 tos, .int .u16 id, .bool keep, .int .u8 ttl, .int .u8 pr, .int .u32 src, .int .u32 dst, .slice ao lo co, .slice ad ld cd] 56)).heap.size = w.heap.size + 1 + 1 + 1 := by simp
 rw [hsz2] at c1
 have C0 := hide (later_keep ld' c0)
 have C1 := hide c1
 have LL := hide (L2.trans ld')
 clear la lb lc ld' c0 c1 hsz hsz2 L2
 go_enter Tryz.func503, Tryz.ntmps503
 go_upto_region 1 with fail
 generalize hw1 : World.alloc _ _ = w1 at *
 clear hw1
 generalize hgx : w.heap.size = g0 at C0 C1 ⊢
 have k0 := block_cell C0.out
 have k1 := block_cell C1.out
 have f1 := block_frozen C1.out
 go_wp2_with fail
 generalize hV : (((((((((w1.setCell ⟨_, 0, none⟩ _).setCell ⟨_, 1, none⟩ _).setCell ⟨_, 2, none⟩ _).setCell ⟨_, 3, none⟩ _).setCell ⟨_, 4, none⟩ _).setCell ⟨_, 5, none⟩ _).setCell ⟨_, 6, none⟩ _).setCell ⟨_, 7, none⟩ _).setCell ⟨_, 8, none⟩ _) = V8
 have hV9 : V8 = putRow w1 (g0 + 1 + 1 + 1) 0 [.int .u8 tos, .int .u16 id, .bool keep, .int .u8 ttl, .int .u8 pr, .int .u32 src, .int .u32 dst, .slice ao lo co, .slice ad ld cd] := hV.symm
 have hb8 : But (fun b => b = g0 + 1 + 1 + 1) w1 V8 := by rw [hV9]; exact putRow_but (E := fun b => b = g0 + 1 + 1 + 1) (n := g0 + 1 + 1 + 1) rfl _ _ _ _ (But.refl _ _)
 have p8 := putRow_all [.int .u8 tos, .int .u16 id, .bool keep, .int .u8 ttl, .int .u8 pr, .int .u32 src, .int .u32 dst, .slice ao lo co, .slice ad ld cd] C1.out rfl
 rw [← hV9] at p8
 clear hV hV9
 have P8 := block_cell p8
 exact bodyPost_ret (v := .agg #[.int .u8 tos, .int .u16 id, .bool keep, .int .u8 ttl, .int .u8 pr, .int .u32 src, .int .u32 dst, .slice ao lo co, .slice ad ld cd]) (by simp [results, Tryz.results503, go_sem, P8]) rfl ⟨rfl, Below.trans LL.out (hb8.below LL.out.size (fun k hk e => by have e' : k = g0 + 1 + 1 + 1 := e; omega))⟩
theorem meth_noh (k : Nat) (W : World) : Sem.run Tryz.prog (Go.method (k + 1) 383 (.agg #[]) "lychgate/gate.change") W = .ok (503, .agg #[]) W := by kernel_rfl
def ChQ (base : Nat) (w w' : World) (g : Nat) (s : Gf) (tos id ttl src dst : Int) (keep : Bool) (zo zd : List Int) (a : Nat) (b : Int) (mr : Ru) (e : Ending) : Prop := ∃ (f : Fl) (pb : Nat) (ao : Option Addr) (co : Nat) (ad : Option Addr) (cd : Nat), w.heap.size ≤ f.blk ∧ e = .returned (.agg #[.int .u8 tos, .int .u16 id, .bool keep, .int .u8 ttl, .int .u8 17, .int .u32 mr.tt, .int .u32 dst, .slice ao zo.length co, .slice ad zd.length cd]) ∧ KG base w w' ∧ (f.id = s.bg ∧ f.o = ⟨17, src, dst, (a : Int), b⟩ ∧ f.r = ⟨17, dst, mr.tt, b, (tkn s.lo s.hi a : Int)⟩ ∧ f.side = 0 ∧ f.ms = -1 ∧ f.hp = noh) ∧ GF base w' g (bcS (opS (withP s 17 mr.tt pb (wsR (wsOf (nums s.lo s.hi)) (tkn s.lo s.hi a))) f) f 8) ∧ Ow w.heap.size w' (.slice ao zo.length co) zo ∧ Ow w.heap.size w' (.slice ad zd.length cd) (rwD 17 mr.tt dst (tkn s.lo s.hi a : Int) b zd)
set_option maxRecDepth 100000 in
set_option maxHeartbeats 8000000 in
theorem changed_yes (base g : Nat) (s : Gf) (tos id ttl src dst : Int) (keep : Bool) (so sd : Value) (zo zd : List Int) (a : Nat) (b : Int) (mr : Ru) (n0 : Nat) (w : World) (h : GF base w g s) (hR : Rdy s src dst a b mr) (he : ofe 17 src dst zd = 0) (hea : ofa 17 zd = (a : Int)) (heb : ofb 17 zd = b) (hfl : flt zo.length zd.length = 0) (hBo : Mt.By zo) (hBd : Mt.By zd) (hOo : Ow n0 w so zo) (hOd : Ow n0 w sd zd) (hlo : zo.length ≤ 60000) (hld : zd.length ≤ 70000) (ht : 0 ≤ tos ∧ tos ≤ 255) (hid : 0 ≤ id ∧ id ≤ 65535) (htl : 0 ≤ ttl ∧ ttl ≤ 255) (hbs : base ≤ w.heap.size) (hz : ∀ W, KG base w W → Tb W ∧ Dz W) (hgz : 1 ≤ w.heap.size) :
  Calls Tryz.prog 57 #[.agg #[.pointer (some ⟨g, 0, none⟩), .int .u8 tos, .int .u16 id, .bool keep, .int .u8 ttl, .int .u8 17, .int .u32 src, .int .u32 dst, so, sd, .int .i64 0]] w fun e w' => ChQ base w w' g s tos id ttl src dst keep zo zd a b mr e := by
 obtain ⟨l0, c0, c1⟩ := alloc2 w (.cells #[.pointer (some ⟨g, 0, none⟩), .int .u8 tos, .int .u16 id, .bool keep, .int .u8 ttl, .int .u8 17, .int .u32 src, .int .u32 dst, so, sd, .int .i64 0] 149) (.cells #[.int .u8 0, .int .u16 0, .bool false, .int .u8 0, .int .u8 0, .int .u32 0, .int .u32 0, .slice none 0 0, .slice none 0 0] 56)
 have C0 := hide c0
 have C1 := hide c1
 clear c0 c1
 have HQ := hide (fun W (l : Later w W) => of_any tos id ttl 17 src dst keep so sd zd W (hz W (KG.of_later l)).1 hBd ((hOd.kg (KG.of_later (base := base) l)).rd) (by omega) hR.hx hR.hd)
 rw [he, hea, heb] at HQ
 have hv : otv 0 17 src dst (a : Int) b = .agg #[.int .u8 17, .int .u32 src, .int .u32 dst, .int .u16 (a : Int), .int .u16 b] := by unfold otv; rw [if_pos rfl]
 rw [hv] at HQ
 obtain ⟨n, hn⟩ : ∃ n, n = tkn s.lo s.hi a := ⟨_, rfl⟩
 have hnr := tkn_rng (wish := a) hR.h2
 have h3 := hR.h3
 have HOW := hide (fun W (k : KG base w W) (hh : GF base W g s) => owner_yes base g s tos id ttl 17 src dst keep so sd src dst a b mr W hh hR (Nat.le_trans hbs k.size) (fun V k2 => (hz V (k.trans k2)).2) (Nat.le_trans hgz k.size))
 have HRW := hide (fun W (k : KG base w W) => rewrite_any tos id ttl 17 src dst keep so sd zo zd 17 mr.tt dst (n : Int) b W (hz W k).1 hBo hBd ((hOo.kg k).rd) ((hOd.kg k).rd) (by omega) (by omega) ht hid htl (by decide) hR.hx hR.hd hR.tt hR.hd ⟨by omega, by omega⟩ hR.hb)
 have hrw : rwe 17 17 src dst zo.length zd = 0 := by unfold rwe; simp [he, hfl]
 rw [hrw] at HRW
 obtain ⟨sox, soc, rfl, _, _⟩ := hOo.slice
 obtain ⟨sdx, sdc, rfl, _, _⟩ := hOd.slice
 have HG := hide (h.later l0)
 have HN := hide hn
 clear hv h hR he hea heb hfl hBo hBd hOo hOd hz hgz hrw hn hnr h3
 go_enter Tryz.func57, Tryz.ntmps57
 go_upto_region 1 with fail
 generalize (w.alloc (.cells _ 149)).alloc (.cells _ 56) = w1 at *
 generalize hgx : w.heap.size = gx at C0 C1 ⊢
 have k0 := block_cell C0.out
 go_wp2_with fail
 refine (HQ.out w1 l0).mono ?_
 rintro e w2 ⟨l2, rfl⟩
 have l2' : Later w1 w2 := l2
 clear k0 HQ l2
 go_upto_region 2 with fail
 have la := later_allocG w2 (.cells #[.int .u8 17, .int .u32 src, .int .u32 dst, .int .u16 (a : Int), .int .u16 b] 68)
 have C3 := hide (heap_alloc_new w2 (.cells #[.int .u8 17, .int .u32 src, .int .u32 dst, .int .u16 (a : Int), .int .u16 b] 68))
 have D0 := hide (later_keep (l2'.trans la) C0.out)
 have D1 := hide (later_keep (l2'.trans la) C1.out)
 have H3 := hide (HG.out.later (l2'.trans la))
 have L3 : Later w (w2.alloc (.cells #[.int .u8 17, .int .u32 src, .int .u32 dst, .int .u16 (a : Int), .int .u16 b] 68)) := l0.trans (l2'.trans la)
 change Code.wp _ _ _ _ (w2.alloc (.cells #[.int .u8 17, .int .u32 src, .int .u32 dst, .int .u16 (a : Int), .int .u16 b] 68))
 generalize w2.alloc (.cells #[.int .u8 17, .int .u32 src, .int .u32 dst, .int .u16 (a : Int), .int .u16 b] 68) = w3 at *
 generalize hg3 : w2.heap.size = g3 at *
 have hg3x : gx + 1 < g3 := by rw [← hg3]; exact Nat.lt_of_lt_of_le (bl9 C1.out) l2'.size
 clear C0 C1 HG l2' la hg3
 have k0 := block_cell D0.out
 have k3 := block_cell C3.out
 go_wp2_with fail
 refine (grefuse_no 1 _).mono ?_
 rintro e w4 ⟨rfl, hw4⟩
 subst hw4
 go_wp2_with fail
 refine (HOW.out w3 (KG.of_later L3) H3.out).mono ?_
 rintro e w4 ⟨f, pb, hfb, rfl, kg4, hid', ho, hr, hsd, hms, hhp, hG4⟩
 clear k0 k3 HOW H3
 have K4 : Hid (KG base w w4) := (KG.of_later L3).trans kg4
 have E0 := hide (kg4.cells D0.out (by decide))
 have E1 := hide (kg4.cells D1.out (by decide))
 have E3 := hide (kg4.cells C3.out (by decide))
 have hfx : g3 < f.blk := Nat.lt_of_lt_of_le (bl9 C3.out) hfb
 have G4 := hide hG4
 obtain ⟨TL, hF⟩ : ∃ TL, w4.heap[f.blk]? = some (.cells (flc (f.at 8 TL)).toArray 93 (0, 0)) := ⟨_, (hG4.fb (f.at 8 _) (mem_withF (f := f) (by show f ∈ _ ++ [f]; simp) rfl)).2⟩
 have hr2 : (f.at 8 TL).r = ⟨17, dst, mr.tt, b, (n : Int)⟩ := by
  show f.r = _
  rw [hr, HN.out]
  rfl
 have HOT := hide (other_no (f.at 8 TL) w4 hF)
 rw [hr2] at HOT
 have HFF := hide hF
 clear hG4 hF hr2 kg4
 go_wp2_with fail
 refine HOT.out.mono ?_
 rintro e w5 ⟨rfl, l5⟩
 go_wp2_with fail
 refine (reverse_any 17 dst mr.tt b (n : Int) w5).mono ?_
 rintro e w6 ⟨rfl, l6⟩
 have l6' : Later w5 w6 := l6
 clear l6 HOT
 have la := later_allocG w6 (.cells #[.int .u8 17, .int .u32 mr.tt, .int .u32 dst, .int .u16 (n : Int), .int .u16 b] 68)
 have CI := hide (heap_alloc_new w6 (.cells #[.int .u8 17, .int .u32 mr.tt, .int .u32 dst, .int .u16 (n : Int), .int .u16 b] 68))
 have LA := hide la
 clear la
 go_upto_region 7 with fail
 generalize w6.alloc _ = w7 at *
 generalize hg7 : w6.heap.size = g7 at *
 have L47 : Later w4 w7 := l5.trans (l6'.trans LA.out)
 have hg7x : g3 < g7 := by
  have q1 := (bl9 E3.out)
  have q2 := l5.size
  have q3 := l6'.size
  omega
 have J0 := hide (later_keep L47 E0.out)
 have J1 := hide (later_keep L47 E1.out)
 have J3 := hide (later_keep L47 E3.out)
 have JF := hide (later_keep L47 HFF.out)
 have K7 : Hid (KG base w w7) := K4.out.trans (KG.of_later L47)
 have G7 := hide (G4.out.later L47)
 clear E0 E1 E3 HFF K4 G4 l5 l6' LA hg7 L47
 have k0 := block_cell J0.out
 have kI := block_cell CI.out
 go_wp2_with fail
 refine (HRW.out w7 K7.out).mono ?_
 rintro e w8 ⟨l8, ⟨h0, _⟩ | ⟨_, ao, co, ad, cd, rfl, ho8, hd8⟩⟩
 ·exact absurd rfl h0
 have l8' : Later w7 w8 := l8
 clear k0 kI l8 HRW
 have la := later_allocG w8 (.cells #[.int .u8 tos, .int .u16 id, .bool keep, .int .u8 ttl, .int .u8 17, .int .u32 mr.tt, .int .u32 dst, .slice ao zo.length co, .slice ad zd.length cd] 56)
 have CP := hide (heap_alloc_new w8 (.cells #[.int .u8 tos, .int .u16 id, .bool keep, .int .u8 ttl, .int .u8 17, .int .u32 mr.tt, .int .u32 dst, .slice ao zo.length co, .slice ad zd.length cd] 56))
 have LA := hide la
 have hs78 : w7.heap.size ≤ w8.heap.size := l8'.size
 clear la
 go_upto_region 8 with fail
 generalize w8.alloc _ = w9 at *
 generalize hg9 : w8.heap.size = g9 at *
 have L79 : Later w7 w9 := l8'.trans LA.out
 have hg9x : g7 < g9 := by
  have q1 := (bl9 CI.out)
  omega
 have N0 := hide (later_keep L79 J0.out)
 have N1 := hide (later_keep L79 J1.out)
 have N3 := hide (later_keep L79 J3.out)
 have NF := hide (later_keep L79 JF.out)
 have NI := hide (later_keep L79 CI.out)
 have K9 : Hid (KG base w w9) := K7.out.trans (KG.of_later L79)
 have G9 := hide (G7.out.later L79)
 have O9 := hide ((ho8.mono K7.out.size).kg (KG.of_later (base := base) LA.out))
 have Q9 := hide ((hd8.mono K7.out.size).kg (KG.of_later (base := base) LA.out))
 clear J0 J1 J3 JF CI K7 G7 l8' LA hg9 L79 ho8 hd8 hs78
 refine anyT_begin (R := But (fun q => q = gx + 1)) 13 rfl (by kernel_rfl) ?_
 have ld : Later w9 w9.drew := Later.drew w9
 generalize w9.drew = wd at *
 have hnb : ∀ (k : Nat) (cur : Array Value) (t : TypeId) (fz : Nat × Nat), k ≠ gx + 1 → w9.heap[k]? = some (.cells cur t fz) → ∀ v, But (fun q => q = gx + 1) wd v → v.heap[k]? = some (.cells cur t fz) := fun k cur t fz hk hh v hv => (hv.block k (Array.getElem?_eq_some_iff.1 (later_keep ld hh)).1 (fun e => hk e)).trans (later_keep ld hh)
 have k0 : ∀ v, But (fun q => q = gx + 1) wd v → ∀ j, v.cell? ⟨gx, j, none⟩ = _ := fun v hv => block_cell (hnb gx _ _ _ (by omega) N0.out v hv)
 have k3 : ∀ v, But (fun q => q = gx + 1) wd v → ∀ j, v.cell? ⟨g3, j, none⟩ = _ := fun v hv => block_cell (hnb g3 _ _ _ (by omega) N3.out v hv)
 have k7 : ∀ v, But (fun q => q = gx + 1) wd v → ∀ j, v.cell? ⟨g7, j, none⟩ = _ := fun v hv => block_cell (hnb g7 _ _ _ (by omega) NI.out v hv)
 have k9 : ∀ v, But (fun q => q = gx + 1) wd v → ∀ j, v.cell? ⟨g9, j, none⟩ = _ := fun v hv => block_cell (hnb g9 _ _ _ (by omega) CP.out v hv)
 have kF : ∀ v, But (fun q => q = gx + 1) wd v → ∀ j, v.cell? ⟨f.blk, j, none⟩ = (flc (f.at 8 TL)).toArray[j]? := fun v hv => block_cell (hnb f.blk _ _ _ (by omega) NF.out v hv)
 unfold flc Fl.at at kF
 rw [hhp] at kF
 unfold noh at kF
 refine tV (But.pre (fun q => q = gx + 1)) 0 rfl rfl ?_; apply Exists.intro; refine ⟨fun v1 hv1 => ?_, ?_⟩; (· (go_simp; rfl)); simp only [Act.put, sA, sB, sC]
 refine tV (But.pre (fun q => q = gx + 1)) 1 rfl rfl ?_; apply Exists.intro; refine ⟨fun v1 hv1 => ?_, ?_⟩; (· (go_simp; rfl)); simp only [Act.put, sA, sB, sC]
 refine tV (But.pre (fun q => q = gx + 1)) 2 rfl rfl ?_; apply Exists.intro; refine ⟨fun v1 hv1 => ?_, ?_⟩; (· (go_simp; rfl)); simp only [Act.put, sA, sB, sC]
 refine tV (But.pre (fun q => q = gx + 1)) 3 rfl rfl ?_; apply Exists.intro; refine ⟨fun v1 hv1 => ?_, ?_⟩; (· (go_simp; rfl)); simp only [Act.put, sA, sB, sC]
 refine tV (But.pre (fun q => q = gx + 1)) 4 rfl rfl ?_; apply Exists.intro; refine ⟨fun v1 hv1 => ?_, ?_⟩; (· (go_simp; rfl)); simp only [Act.put, sA, sB, sC]
 refine tV (But.pre (fun q => q = gx + 1)) 5 rfl rfl ?_; apply Exists.intro; refine ⟨fun v1 hv1 => ?_, ?_⟩; (· (go_simp; rfl)); simp only [Act.put, sA, sB, sC]
 refine tV (But.pre (fun q => q = gx + 1)) 6 rfl rfl ?_; apply Exists.intro; refine ⟨fun v1 hv1 => ?_, ?_⟩; (· (go_simp; rfl)); simp only [Act.put, sA, sB, sC]
 refine tV (But.pre (fun q => q = gx + 1)) 7 rfl rfl ?_; apply Exists.intro; refine ⟨fun v1 hv1 => ?_, ?_⟩; (· (go_simp; rfl)); simp only [Act.put, sA, sB, sC]
 refine tV (But.pre (fun q => q = gx + 1)) 8 rfl rfl ?_; apply Exists.intro; refine ⟨fun v1 hv1 => ?_, ?_⟩; (· (go_simp; rfl)); simp only [Act.put, sA, sB, sC]
 refine tV (But.pre (fun q => q = gx + 1)) 9 rfl rfl ?_; apply Exists.intro; refine ⟨fun v1 hv1 => ?_, ?_⟩; (· (go_simp; rfl)); simp only [Act.put, sA, sB, sC]
 refine tV (But.pre (fun q => q = gx + 1)) 10 rfl rfl ?_; apply Exists.intro; refine ⟨fun v1 hv1 => ?_, ?_⟩; (· (go_simp; rfl)); simp only [Act.put, sA, sB, sC]
 clear k0 k3 k7 k9 kF
 refine anyT_one 11 rfl (by kernel_rfl) rfl ?_
 refine wp_enter 503 #[.agg #[], .agg #[.pointer (some ⟨g, 0, none⟩), .int .u8 tos, .int .u16 id, .bool keep, .int .u8 ttl, .int .u8 17, .int .u32 src, .int .u32 dst, .slice sox zo.length soc, .slice sdx zd.length sdc, .int .i64 0, .pointer (some ⟨f.blk, 0, none⟩), .bool false, .int .u8 17, .int .u32 src, .int .u32 dst, .int .u16 (a : Int), .int .u16 b, .int .u8 17, .int .u32 mr.tt, .int .u32 dst, .int .u16 (n : Int), .int .u16 b], .agg #[.int .u8 tos, .int .u16 id, .bool keep, .int .u8 ttl, .int .u8 17, .int .u32 mr.tt, .int .u32 dst, .slice ao zo.length co, .slice ad zd.length cd]] (by have hmt := meth_noh; go_simp) ?_
 refine (nohelp_any _ wd tos id ttl 17 mr.tt dst keep ao ad zo.length co zd.length cd).mono ?_
 rintro e w10 ⟨rfl, l10⟩
 refine ⟨But.of l10, ?_⟩
 simp only [Act.put, sA, sB, sC]
 have N1d := hide (later_keep (ld.trans l10) N1.out)
 have kk := block_cell N1d.out
 have ff := block_frozen N1d.out
 refine anyT_one 12 rfl (by kernel_rfl) rfl ?_
 unfold Oper.wp
 go_simp
 generalize hV : (((((((((w10.setCell ⟨_, 0, none⟩ _).setCell ⟨_, 1, none⟩ _).setCell ⟨_, 2, none⟩ _).setCell ⟨_, 3, none⟩ _).setCell ⟨_, 4, none⟩ _).setCell ⟨_, 5, none⟩ _).setCell ⟨_, 6, none⟩ _).setCell ⟨_, 7, none⟩ _).setCell ⟨_, 8, none⟩ _) = V8
 have hV9 : V8 = putRow w10 (gx + 1) 0 [.int .u8 tos, .int .u16 id, .bool keep, .int .u8 ttl, .int .u8 17, .int .u32 mr.tt, .int .u32 dst, .slice ao zo.length co, .slice ad zd.length cd] := hV.symm
 have hb8 : But (fun b => b = gx + 1) w10 V8 := by rw [hV9]; exact putRow_but (E := fun b => b = gx + 1) (n := gx + 1) rfl _ _ _ _ (But.refl _ _)
 have p8 := putRow_all [.int .u8 tos, .int .u16 id, .bool keep, .int .u8 ttl, .int .u8 17, .int .u32 mr.tt, .int .u32 dst, .slice ao zo.length co, .slice ad zd.length cd] N1d.out rfl
 rw [← hV9] at p8
 clear hV hV9 kk ff
 have HB8 := hide hb8
 have HP8 := hide p8
 clear hb8 p8
 refine ⟨HB8.out, ?_⟩
 refine anyT_done (by kernel_rfl) ?_
 have K10 : KG base w w10 := K9.out.trans (KG.of_later (ld.trans l10))
 have k8 : KG base w V8 := K10.own HB8.out (by omega)
 have o8 := ((O9.out.kg (KG.of_later (base := base) (ld.trans l10))).aside N1d.out (by decide) HB8.out)
 have q8 := ((Q9.out.kg (KG.of_later (base := base) (ld.trans l10))).aside N1d.out (by decide) HB8.out)
 have P8 := block_cell HP8.out
 go_wp2_with fail
 exact bodyPost_ret (v := .agg #[.int .u8 tos, .int .u16 id, .bool keep, .int .u8 ttl, .int .u8 17, .int .u32 mr.tt, .int .u32 dst, .slice ao zo.length co, .slice ad zd.length cd]) (by simp [results, Tryz.results57, go_sem, P8]) rfl ⟨f, pb, ao, co, ad, cd, Nat.le_trans L3.size hfb, rfl, k8, ⟨hid', ho, by rw [hr]; rfl, hsd, hms, hhp⟩, ((G9.out.later (ld.trans l10)).other (TE.one N1d.out) HB8.out (by decide)), o8, by rw [← HN.out]; exact q8⟩
end Go.Proofs.YtofknbfbmaefoaaGreatDoor
