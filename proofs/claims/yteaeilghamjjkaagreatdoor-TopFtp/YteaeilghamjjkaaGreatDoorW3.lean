import Derived.Test.YteaeilghamjjkaaGreatDoorW2
namespace Go.Proofs.YteaeilghamjjkaaGreatDoor
open Go.RowKit Go.Shelf
set_option maxRecDepth 100000
attribute [local go_sem] Oper.semAt_some
theorem kb_b {w:World} {n₀ Bs:Nat} (hn:n₀≤w.heap.size)(hB:Bs<w.heap.size)(W:World)(l:Nat)(o o':Obj)(hl:w.heap.size≤l)(ho:W.heap[l]? =some o)(hc:o.isCells=false)(hw:o.isWalk=false):KB n₀ Bs W (W.putObj l o'):=
 ⟨belowK_b hn W l o o' hl ho hc hw,(grownBy_putObj' W l o').block Bs (by have:=(bl9 ho);omega) (by intro e;cases e;omega)⟩
theorem zSh(x:Nat)(h:x<65536):65535^^^x=65535-x:=by
 have h1:=BitVec.toNat_not (x:=BitVec.ofNat 16 x);rw[BitVec.not_def,BitVec.toNat_xor]at h1
 simp at h1
 rw[Nat.mod_eq_of_lt h]at h1;exact h1
theorem not16(x:Int)(h0:0≤x)(h1:x≤65535):bits .xor .u16 IntKind.u16.max x=65535-x:=by
 rw[show IntKind.u16.max=65535 from rfl,u16_xor 65535 x (by omega) (by omega) h0 (by omega)];have:=zSh x.toNat (by omega);rw[show (65535:Int).toNat=65535 from rfl,this];omega
set_option maxHeartbeats 2000000 in
theorem zD4(sv:Value)(zs:List Int)(hB:Mt.By zs)(hreach:zs.length≤140737488355328)(w:World)(hI:Rd w.heap.size w sv zs):
  Calls Tryz.prog 63 #[sv] w fun e W'=>e= .returned (.int .u16 (Mt.cks zs))∧Below w.heap.size w W':=by
 obtain⟨a,cap,rfl,_⟩:=hI.slice;generalize hlen:zs.length=len at hI;clear hlen;refine(callsIn_wide (n:=5)).1 ?_;refine callsIn_of_wp_marks Tryz.func63 rfl trivial ?_ rfl;simp only[Tryz.ntmps63,List.size_toArray,List.length_cons,List.length_nil,Nat.reduceAdd,Nat.reduceSub,Array.replicate_succ,Array.replicate_zero,List.push_toArray,List.append_toArray,List.nil_append,List.cons_append];gi_wp2_with (refine⟨trivial,?_⟩;gi_at_call 122;refine(words_in _ _ _ _ _).mono ?_;rintro e w' ⟨rfl,rfl⟩)
 have bS:=Boxed.new w 251 (.int .u64 0);have bN:=Boxed.new (w.alloc (.cells #[.int .u64 0] 251)) 26 (.slice a len cap);rw[World.size_alloc]at bN;have hB0:Below w.heap.size w ((w.alloc (.cells #[.int .u64 0] 251)).alloc (.cells #[.slice a len cap] 26)):=((Below.refl _ w).alloc (Nat.le_refl _) _).alloc (by simp) _
 refine wpIn_rangeFunc_ownG rfl (by omega) (gf:=176) (lb:=#[.pointer (some ⟨w.heap.size+1,0,none⟩)]) rfl trivial (enters_of Tryz.func176 (by kernel_rfl) rfl)
  (zL2 4 (by omega) (w.heap.size+1) w.heap.size _ zs hB (by omega) _ (by simp) (by simp;omega) bN.cell (hI.below hB0)) KB.trans (kb_b (by simp;omega) (by simp)) (Below.refl _ _) (fun _=>rfl)
  (fun pre W=>(W.cell? ⟨w.heap.size,0,none⟩=some (.int .u64 (sm pre))∧W.frozen? ⟨w.heap.size,0,none⟩=false)∧Below w.heap.size w W)
  (fun _ _ _=>False)
  (OwnFrom.and (Own.from (fun s A B row hs hg hr=>⟨cell_kept hs.1 hg hr,(frozen_kept hs.1 hg hr).trans hs.2⟩) _) (ownFrom_below (Nat.le_refl _) (by simp;omega)))
  (fun _ _ _ _ _ hs _ _=>hs)
  ⟨⟨(bS.alloc _).cell,(bS.alloc _).frozen⟩,hB0⟩
  (fun x=> { tmps:=#[.slice a len cap,undef,.int .u16 0,.pointer (some ⟨w.heap.size,0,none⟩),.int .u16 x.1,.slice a len cap,.func (.func 176) #[] #[.pointer (some ⟨w.heap.size+1,0,none⟩)],.int .u16 x.1,undef,undef,undef,undef,undef,undef,undef],defers:=[] }) ?assign ?body ?done ?stop
 case assign=>
  intro l x W K hK
  gi_wp2
  exact hK
 case body=>
  rintro l pre x W ⟨⟨hc,hf⟩,hB⟩ hlt;have hs:=sm_bd pre;have hx:=x.2;have hlt2:pre.length≤70368744177664:=by omega
  obtain⟨x,hx'⟩:=x;have HS:Hid (sm (pre++[⟨x,hx'⟩])=sm pre+x):=zSf pre ⟨x,hx'⟩;dsimp only at hx
  generalize sm pre=t at*;gi_wp2
  exact⟨(KeepsOthers.setCell _ _ _).from _,⟨(Below.refl w.heap.size W).setCell (p:=⟨w.heap.size,0,none⟩) (Nat.le_refl _) _,Below.heap_setCell _ _ _ _ (by simp)⟩,⟨by rw[HS.out];exact World.cell?_setCell_same' _ _ _ (by rw[hc];rfl),by rw[World.frozen?_setCell];exact hf⟩,hB.setCell (p:=⟨w.heap.size,0,none⟩) (Nat.le_refl _) _⟩
 case done=>
  rintro D ys W hD rfl ⟨⟨hc,_⟩,hBe⟩ hK;have hs:=sm_bd (wds zs hB ((zs.length+1)/2));rw[zE0]at hs;rw[sm_all]at hc hs;have HC:Hid (Mt.cks zs=65535-Mt.fd (Mt.tw true zs)):=rfl;have hf:=Mt.fd_bd (Mt.tw true zs);generalize Mt.tw true zs=t at*;gi_wp2_with (refine⟨trivial,?_⟩;gi_at_call 123;refine(callsIn_wide.2 (fold_any t _ hs.1 (by omega))).mono ?_;rintro e w' ⟨rfl,rfl⟩)
  rw[not16 _ hf.1 hf.2,←HC.out];refine⟨by simp,.inl ⟨_,_,rfl,run_takeDeferred hK,?_⟩⟩;exact⟨_,results_tmp rfl _ _ _,rfl,hBe.trans (belowK_b (w:=w) (Nat.le_refl _) _ D _ _ (by simp at hD;omega) hK rfl rfl)⟩
 case stop=>
  rintro D c pre W _ _ h _;exact h.elim
end Go.Proofs.YteaeilghamjjkaaGreatDoor
