import Derived.RangeFuncNested
import Derived.RangeFuncBound
import Derived.RangeFuncCalls
import Derived.RangeFuncLeaves
import Derived.RangeFuncBox
import Derived.Shelf.Abstract
import Derived.Shelf.RegionOpen
import Derived.OwnWalkIn
import Derived.TacticsInMore
import Derived.LoopNIn
import Derived.LoopIn
import Derived.Test.YteaeilghamjjkaaGreatDoorX25
import Derived.OwnWalk
import Derived.Laws.OwnMore
import Derived.Laws.AppendOwnNone
import Derived.RegionTactic
import Derived.BigRegion
import Derived.Deep.RegionLaw
import Derived.ArgAppend
namespace Go.Proofs.YteaeilghamjjkaaGreatDoor
set_option maxHeartbeats 4000000
open Go.RowKit Go.Shelf
set_option maxRecDepth 100000
attribute [local go_sem] Oper.semAt_some
abbrev U16:= { x:Int//0≤x∧x≤65535 }
def wat (zs:List Int) (k:Nat):Int:=zs[k]?.getD 0*256+zs[k+1]?.getD 0
theorem zDa {zs:List Int} (h:Mt.By zs)(k:Nat):0≤wat zs k∧wat zs k≤65535:=by
 have:=h.at k;have:=h.at (k+1);unfold wat;omega
def wd (zs:List Int) (h:Mt.By zs) (k:Nat):U16:=⟨wat zs (2*k),zDa h _⟩
def wds (zs:List Int) (h:Mt.By zs) (k:Nat):List U16:=(List.range k).map (wd zs h)
theorem zDo(zs:List Int)(h:Mt.By zs)(k:Nat):wds zs h (k+1)=wds zs h k++[wd zs h k]:=by simp[wds,List.range_succ]
theorem zD7(zs:List Int)(h:Mt.By zs)(k:Nat):(wds zs h k).length=k:=by simp[wds]
def sm (l:List U16):Int:=(l.map (·.1)).sum
theorem zO0(l:List U16)(x:U16):sm (l++[x])=sm l+x.1:=by simp[sm]
theorem sm_bd:∀l:List U16,0≤sm l∧sm l≤65535*l.length
 | []=>by simp[sm]
 |x::r=>by have:=sm_bd r;have:=x.2;simp[sm]at*;omega
theorem sm_wds(zs:List Int)(h:Mt.By zs):∀k,2*k≤zs.length+1→sm (wds zs h k)=Mt.tw true (zs.take (2*k))
 |0,_=>by simp[wds,sm,Mt.tw]
 | k+1,hk=>by
  rw[zDo,zO0,sm_wds zs h k (by omega)];by_cases hl:2*k+1<zs.length
  ·rw[show 2*(k+1)=2*k+2 from by omega,Mt.tw_two zs (2*k) (by omega) hl]
   rfl
  ·have e1:zs.take (2*(k+1))=zs.take (2*k+1):=by
    rw[List.take_of_length_le (by omega),List.take_of_length_le (by omega)]
   rw[e1,Mt.tw_one zs (2*k) (by omega) (by omega)];simp[wd,wat,show ¬2*k+1<zs.length from hl]
theorem sm_all(zs:List Int)(h:Mt.By zs):sm (wds zs h ((zs.length+1)/2))=Mt.tw true zs:=by
 rw[sm_wds zs h _ (by omega),List.take_of_length_le (by omega)]
def KB (n₀ Bs:Nat) (W W':World):Prop:=Below n₀ W W'∧W'.heap[Bs]? =W.heap[Bs]?
theorem KB.refl(n₀ Bs:Nat)(W:World):KB n₀ Bs W W:=⟨Below.refl _ _,rfl⟩
theorem KB.trans {n₀ Bs:Nat} {A B C:World} (h:KB n₀ Bs A B)(k:KB n₀ Bs B C):KB n₀ Bs A C:=⟨h.1.trans k.1,k.2.trans h.2⟩
theorem KB.drewN {n₀ Bs:Nat} {A B:World} (h:KB n₀ Bs A B)(q:Nat):KB n₀ Bs A (B.drewN q):=⟨h.1.trans ⟨rfl,rfl,rfl,Nat.le_refl _,fun _ _=>rfl⟩,h.2⟩
theorem KB.box {n₀ Bs:Nat} {A B:World} (h:KB n₀ Bs A B) {o:Nat} :B.cell? ⟨Bs,o,none⟩=A.cell? ⟨Bs,o,none⟩:=World.cell?_of_block (w:=A) h.2
theorem zGz(W:World)(q:Nat):W.grownBy (W.drewN q) none:=⟨rfl,rfl,rfl,Nat.le_refl _,fun _ _ _=>rfl⟩
theorem zO1(n:Nat)(hn:1≤n)(l Bs n₀ b off cap:Nat)(zs:List Int)(hB:Mt.By zs)(hreach:zs.length≤9223372036854775806)(hb:b<n₀)(J Jx:List U16→World→Prop)
  (hJ:∀s (W:World) q,J s W→J s (W.drewN q))
  (hY:∀pre (x:U16) W,J pre W→pre.length<(zs.length+1)/2→YieldAt Fence.wide (n-1) Tryz.prog l #[.int .u16 x.1] W fun e W'=>
   (e= .returned (.bool true)∧J (pre++[x]) W'∧KB n₀ Bs W W')∨(e= .returned (.bool false)∧Jx (pre++[x]) W'))
  (W:World)(hBs:W.cell? ⟨Bs,0,none⟩=some (.slice (some ⟨b,off,none⟩) zs.length cap))(hc:∀j,j<zs.length→W.cell? ⟨b,off+j,none⟩=some (.int .u8 (zs[j]?.getD 0)))(h0:J [] W):
  CallsIn Fence.wide n Tryz.prog 176 #[.func (.yield l) #[] #[],.pointer (some ⟨Bs,0,none⟩)] W fun e W'=>(∃v,e= .returned v)∧
   ((∃ys,ys=wds zs hB ((zs.length+1)/2)∧J ys W')∨(∃pre,(∃k,k≤(zs.length+1)/2∧pre=wds zs hB k)∧Jx pre W')):=by
 refine callsIn_of_wp Tryz.func176 rfl trivial ?_ rfl;simp only[Tryz.ntmps176,List.size_toArray,List.length_cons,List.length_nil,Nat.reduceAdd,Nat.reduceSub,Array.replicate_succ,Array.replicate_zero,List.push_toArray,List.append_toArray,List.nil_append,List.cons_append];gi_wp2
 gi_loopw [3] (fun i wr=>∃k:Nat,2*k≤zs.length∧i= .int .i64 ((2*k:Nat):Int)∧J (wds zs hB k) wr∧KB n₀ Bs W wr)
  (fun i _=>zs.length-(intOf i).toNat)
 case atStart=>exact⟨0,by omega,rfl,h0,KB.refl _ _ _⟩
 case round=>
  obtain⟨k,hk,rfl,hJs,hnx⟩:=hrel;have hbx:wr.cell? ⟨Bs,0,none⟩=some (.slice (some ⟨b,off,none⟩) zs.length cap):=hnx.box.trans hBs;have hcx:∀j,j<zs.length→wr.cell? ⟨b,off+j,none⟩=some (.int .u8 (zs[j]?.getD 0)):=fun j h=>(hnx.1.cell (p:=⟨b,off+j,none⟩) hb).trans (hc j h);by_cases hlt:2*k+1<zs.length
  ·have c0:=hcx (2*k) (by omega)
   have c1:=hcx (2*k+1) (by omega);have b0:=hB.at (2*k);have b1:=hB.at (2*k+1);have HW:Hid (wat zs (2*k)=zs[2*k]?.getD 0*256+zs[2*k+1]?.getD 0):=rfl;have hlt':((2*k:Nat):Int)+1<zs.length:=by omega
   generalize zs[2*k]?.getD 0=x at c0 b0 HW;generalize zs[2*k+1]?.getD 0=y at c1 b1 HW;have hxy:0≤x*256+y∧x*256+y≤65535:=by omega
   have HE:Hid (wd zs hB k=⟨x*256+y,hxy⟩):=Subtype.ext HW.out;clear hcx HW;gi_wp2_with (refine⟨trivial,?_⟩;gi_at_call 39;refine(callsIn_wide.2 (zHy b off zs.length cap x y (2*k) _ (by omega) hlt b0 b1 c0 c1)).mono ?_;rintro e w' ⟨rfl,q,rfl⟩;obtain⟨fn,tmps,assign,body,hy,hR⟩:=hY _ ⟨x*256+y,hxy⟩ (wr.drewN q) (hJ _ _ q hJs) (by rw[zD7];omega);dsimp only at hy)
   refine hR.mono ?_;rintro e W3 (⟨rfl,hJ3,hk3⟩|⟨rfl,hJx3⟩)
   ·gi_wp2
    go_roundw
    case rel=>exact⟨k+1,by omega,by go_num,by rw[zDo,HE.out];exact hJ3,(hnx.drewN q).trans hk3⟩
    case measure=>simp[intOf];omega
   ·gi_wp2
    refine bodyPost_ret (results_none rfl _ _ _) rfl ?_;exact⟨⟨_,rfl⟩,.inr ⟨_,⟨k+1,by omega,by rw[zDo,HE.out]⟩,hJx3⟩⟩
  ·by_cases hodd:zs.length=2*k+1
   ·have c0:=hcx (2*k) (by omega)
    have b0:=hB.at (2*k);have hz:zs[2*k+1]?.getD 0=0:=by simp[show ¬2*k+1<zs.length from hlt]
    have HW:Hid (wat zs (2*k)=zs[2*k]?.getD 0*256):=by unfold wat;rw[hz];exact Int.add_zero _
    clear hcx hz;generalize zs[2*k]?.getD 0=x at c0 b0 HW;have hxy:0≤x*256∧x*256≤65535:=by omega
    have HE:Hid (wd zs hB k=⟨x*256,hxy⟩):=Subtype.ext HW.out;have HL:Hid ((zs.length+1)/2=k+1):=by show _=_;omega
    obtain⟨fn,tmps,assign,body,hy,hR⟩:=hY _ ⟨x*256,hxy⟩ wr hJs (by rw[zD7];omega);dsimp only at hy
    gi_wp2
    refine hR.mono ?_;rintro e W3 (⟨rfl,hJ3,hk3⟩|⟨rfl,hJx3⟩)
    ·gi_wp2
     go_end0
     exact⟨⟨_,rfl⟩,.inl ⟨_,by rw[HL.out,zDo,HE.out],hJ3⟩⟩
    ·gi_wp2
     go_end0
     exact⟨⟨_,rfl⟩,.inr ⟨_,⟨k+1,by omega,by rw[zDo,HE.out]⟩,hJx3⟩⟩
   ·have he:(zs.length+1)/2=k:=by omega
    gi_wp2
    go_end0
    exact⟨⟨_,rfl⟩,.inl ⟨_,by rw[he],hJs⟩⟩
theorem zNk(n:Nat)(l Bs:Nat)(a:Option Addr)(cap:Nat)(J:List U16→World→Prop)(W:World)(hBs:W.cell? ⟨Bs,0,none⟩=some (.slice a 0 cap))(h0:J [] W):
  CallsIn Fence.wide n Tryz.prog 176 #[.func (.yield l) #[] #[],.pointer (some ⟨Bs,0,none⟩)] W fun e W'=>(∃v,e= .returned v)∧J [] W':=by
 refine callsIn_of_wp Tryz.func176 rfl trivial ?_ rfl;simp only[Tryz.ntmps176,List.size_toArray,List.length_cons,List.length_nil,Nat.reduceAdd,Nat.reduceSub,Array.replicate_succ,Array.replicate_zero,List.push_toArray,List.append_toArray,List.nil_append,List.cons_append];gi_wp2
 gi_loopw [3] (fun i wr=>i= .int .i64 0∧J [] wr∧wr.cell? ⟨Bs,0,none⟩=some (.slice a 0 cap)) (fun _ _=>0)
 case atStart=>exact⟨rfl,h0,hBs⟩
 case round=>
  obtain⟨rfl,hJs,hbx⟩:=hrel;gi_wp2
  go_end0
  exact⟨⟨_,rfl⟩,hJs⟩
theorem words_in(n:Nat)(a:Option Addr)(len cap:Nat)(w:World):
  CallsIn Fence.wide n Tryz.prog 122 #[.slice a len cap] w fun e w'=>e= .returned (.func (.func 176) #[] #[.pointer (some ⟨w.heap.size,0,none⟩)])∧w'=w.alloc (.cells #[.slice a len cap] 26):=by
 refine callsIn_of_wp Tryz.func122 rfl trivial ?_ rfl;simp only[Tryz.ntmps122,List.size_toArray,List.length_cons,List.length_nil,Nat.reduceAdd,Nat.reduceSub,Array.replicate_succ,Array.replicate_zero,List.push_toArray,List.append_toArray,List.nil_append,List.cons_append];gi_wp2
 go_ret
 exact⟨rfl,rfl⟩
theorem zKe(n:Nat)(hn:1≤n)(Bs n₀:Nat)(sv:Value)(zs:List Int)(hB:Mt.By zs)(hreach:zs.length≤9223372036854775806)(w:World)(hBs:Bs<w.heap.size)(hn₀:n₀≤w.heap.size)
  (hc:w.cell? ⟨Bs,0,none⟩=some sv)(hI:Rd n₀ w sv zs):
  SeqStopsK Fence.wide n Tryz.prog 176 #[.pointer (some ⟨Bs,0,none⟩)] (fun x:U16=>#[Value.int .u16 x.1]) (KB n₀ Bs) (fun ys=>ys=wds zs hB ((zs.length+1)/2)) (fun _=>True) ((zs.length+1)/2) w:=fun l J Jx W hW hJ _ hY h0=>by
 have hc':=(hW.cell (p:=⟨Bs,0,none⟩) hBs).trans hc;rcases hI.below (hW.mono hn₀)with⟨a,cap,rfl,rfl,_,_⟩|⟨b,off,cap,rfl,_,hl,hm,hb,hcs⟩
 ·exact (zNk n l Bs a cap J W hc' h0).mono fun e W' ⟨he,hj⟩=>⟨he,.inl ⟨_,rfl,hj⟩⟩
 ·refine (zO1 n hn l Bs n₀ b off cap zs hB hreach hb J Jx (fun s X q hs=>hJ s X _ none hs (zGz X q) (fun r e=>by cases e)) hY W hc' hcs h0).mono ?_
  rintro e W' ⟨he,⟨ys,rfl,hj⟩|⟨pre,⟨k,hk,rfl⟩,hj⟩⟩
  ·exact ⟨he,.inl ⟨_,rfl,hj⟩⟩
  ·exact ⟨he,.inr ⟨_,trivial,hj⟩⟩
attribute [local go_sem] Oper.semAt_some
theorem kb_b {w:World} {n₀ Bs:Nat} (hn:n₀≤w.heap.size)(hB:Bs<w.heap.size)(W:World)(l:Nat)(o o':Obj)(hl:w.heap.size≤l)(ho:W.heap[l]? =some o)(hc:o.isCells=false)(hw:o.isWalk=false):KB n₀ Bs W (W.putObj l o'):=
 ⟨belowK_b hn W l o o' hl ho hc hw,(grownBy_putObj' W l o').block Bs (by have:=(eS ho);omega) (by intro e;cases e;omega)⟩
theorem zO2(x:Nat)(h:x<65536):65535^^^x=65535-x:=by
 have h1:=BitVec.toNat_not (x:=BitVec.ofNat 16 x);rw[BitVec.not_def,BitVec.toNat_xor]at h1
 simp at h1
 rw[Nat.mod_eq_of_lt h]at h1;exact h1
theorem not16(x:Int)(h0:0≤x)(h1:x≤65535):bits .xor .u16 IntKind.u16.max x=65535-x:=by
 rw[show IntKind.u16.max=65535 from rfl,u16_xor 65535 x (by omega) (by omega) h0 (by omega)];have:=zO2 x.toNat (by omega);rw[show (65535:Int).toNat=65535 from rfl,this];omega
theorem zEy(sv:Value)(zs:List Int)(hB:Mt.By zs)(hreach:zs.length≤140737488355328)(w:World)(hI:Rd w.heap.size w sv zs):
  Calls Tryz.prog 63 #[sv] w fun e W'=>e= .returned (.int .u16 (Mt.cks zs))∧Below w.heap.size w W':=by
 obtain⟨a,cap,rfl,_⟩:=hI.slice;generalize hlen:zs.length=len at hI;clear hlen;refine(callsIn_wide (n:=5)).1 ?_;refine callsIn_of_wp_marks Tryz.func63 rfl trivial ?_ rfl;simp only[Tryz.ntmps63,List.size_toArray,List.length_cons,List.length_nil,Nat.reduceAdd,Nat.reduceSub,Array.replicate_succ,Array.replicate_zero,List.push_toArray,List.append_toArray,List.nil_append,List.cons_append];gi_wp2_with (refine⟨trivial,?_⟩;gi_at_call 122;refine(words_in _ _ _ _ _).mono ?_;rintro e w' ⟨rfl,rfl⟩)
 have bS:=Boxed.new w 251 (.int .u64 0);have bN:=Boxed.new (w.alloc (.cells #[.int .u64 0] 251)) 26 (.slice a len cap);rw[World.size_alloc]at bN;have hB0:Below w.heap.size w ((w.alloc (.cells #[.int .u64 0] 251)).alloc (.cells #[.slice a len cap] 26)):=((Below.refl _ w).alloc (Nat.le_refl _) _).alloc (by simp) _
 refine wpIn_rangeFunc_ownG rfl (by omega) (gf:=176) (lb:=#[.pointer (some ⟨w.heap.size+1,0,none⟩)]) rfl trivial (enters_of Tryz.func176 (by kernel_rfl) rfl)
  (zKe 4 (by omega) (w.heap.size+1) w.heap.size _ zs hB (by omega) _ (by simp) (by simp;omega) bN.cell (hI.below hB0)) KB.trans (kb_b (by simp;omega) (by simp)) (Below.refl _ _) (fun _=>rfl)
  (fun pre W=>(W.cell? ⟨w.heap.size,0,none⟩=some (.int .u64 (sm pre))∧W.frozen? ⟨w.heap.size,0,none⟩=false)∧Below w.heap.size w W)
  (fun _ _ _=>False)
  (OwnFrom.and (Own.from (fun s A B row hs hg hr=>⟨cell_kept hs.1 hg hr,(frozen_kept hs.1 hg hr).trans hs.2⟩) _) (ownFrom_below (Nat.le_refl _) (by simp;omega)))
  (fun _ _ _ _ _ hs _ _=>hs)
  ⟨⟨(bS.alloc _).cell,(bS.alloc _).frozen⟩,hB0⟩
  (fun x=> { tmps:=#[.slice a len cap,undef,.int .u16 0,.pointer (some ⟨w.heap.size,0,none⟩),.int .u16 x.1,.slice a len cap,.func (.func 176) #[] #[.pointer (some ⟨w.heap.size+1,0,none⟩)],.int .u16 x.1,undef,undef,undef,undef,undef,undef,undef],defers:=[] }) ?assign ?body ?done ?stop
 case assign=>
  intro l x W K hK
  gi_wp2
  exact hK
 case body=>
  rintro l pre x W ⟨⟨hc,hf⟩,hB⟩ hlt;have hs:=sm_bd pre;have hx:=x.2;have hlt2:pre.length≤70368744177664:=by omega
  obtain⟨x,hx'⟩:=x;have HS:Hid (sm (pre++[⟨x,hx'⟩])=sm pre+x):=zO0 pre ⟨x,hx'⟩;dsimp only at hx
  generalize sm pre=t at*;gi_wp2
  exact⟨(KeepsOthers.setCell _ _ _).from _,⟨(Below.refl w.heap.size W).setCell (p:=⟨w.heap.size,0,none⟩) (Nat.le_refl _) _,Below.heap_setCell _ _ _ _ (by simp)⟩,⟨by rw[HS.out];exact World.cell?_setCell_same' _ _ _ (by rw[hc];rfl),by rw[World.frozen?_setCell];exact hf⟩,hB.setCell (p:=⟨w.heap.size,0,none⟩) (Nat.le_refl _) _⟩
 case done=>
  rintro D ys W hD rfl ⟨⟨hc,_⟩,hBe⟩ hK;have hs:=sm_bd (wds zs hB ((zs.length+1)/2));rw[zD7]at hs;rw[sm_all]at hc hs;have HC:Hid (Mt.cks zs=65535-Mt.fd (Mt.tw true zs)):=rfl;have hf:=Mt.fd_bd (Mt.tw true zs);generalize Mt.tw true zs=t at*;gi_wp2_with (refine⟨trivial,?_⟩;gi_at_call 123;refine(callsIn_wide.2 (fold_any t _ hs.1 (by omega))).mono ?_;rintro e w' ⟨rfl,rfl⟩)
  rw[not16 _ hf.1 hf.2,←HC.out];refine⟨by simp,.inl ⟨_,_,rfl,run_takeDeferred hK,?_⟩⟩;exact⟨_,results_tmp rfl _ _ _,rfl,hBe.trans (belowK_b (w:=w) (Nat.le_refl _) _ D _ _ (by simp at hD;omega) hK rfl rfl)⟩
 case stop=>
  rintro D c pre W _ _ h _;exact h.elim
theorem zAm {B:Nat} {a w:World} (h:Below B a w)(q:Nat):Below B a (w.drewN q):=h.trans ⟨rfl,rfl,rfl,Nat.le_refl _,fun _ _=>rfl⟩
theorem zDp(w:World)(arr:Array Value)(e:TypeId)(j:Nat):(w.alloc (.cells arr e)).cell? ⟨w.heap.size,j,none⟩=arr[j]? :=by
 simp only[World.cell?,World.alloc_heap_new];rfl
theorem Rd.new(xs:List Int)(e:TypeId)(w:World)(hne:xs≠ [])(hm:xs.length≤9223372036854775807):Rd (w.heap.size+1) (w.alloc (.cells (xs.map (Value.int .u8)).toArray e)) (.slice (some ⟨w.heap.size,0,none⟩) xs.length xs.length) xs:=by
 refine .inr ⟨w.heap.size,0,xs.length,rfl,hne,Nat.le_refl _,hm,by omega,fun j hj=> ?_⟩;rw[zDp];simp[hj]
theorem zBi:(Tryz.prog.info? 5).map (fun i=>(i.zero,i.size,i.bytes))=some (some (.int .u8 0),1,1):=by kernel_rfl
theorem zMc(sv:Value)(zs:List Int)(hB:Mt.By zs)(hl:zs.length≤140737488355328)(w:World)(hI:Rd w.heap.size w sv zs):
  Calls Tryz.prog 132 #[sv] w fun e w'=>e= .returned (.bool (Mt.cks zs==0))∧Below w.heap.size w w':=by
 obtain⟨a,cap,rfl,_⟩:=hI.slice;go_enter Tryz.func132,Tryz.ntmps132;go_wp2_with fail;refine(zEy _ zs hB hl w hI).mono ?_;rintro e w1 ⟨rfl,hb1⟩;go_wp2
 go_ret
 exact⟨rfl,hb1⟩
def Ow (base:Nat) (W:World) (sv:Value) (zs:List Int):Prop:=
 (sv= .slice none 0 0∧zs=[])∨
 ∃g cap cur,sv= .slice (some ⟨g,0,none⟩) zs.length cap∧base≤g∧zs.length≤cap∧cap≤cur.size∧cap≤9223372036854775807∧W.heap[g]? =some (.cells cur 5 (0,0))∧cur.toList.take zs.length=zs.map (Value.int .u8)
theorem cur_at {cur:Array Value} {zs:List Int} (h:cur.toList.take zs.length=zs.map (Value.int .u8))(j:Nat)(hj:j<zs.length):cur[j]? =some (.int .u8 (zs[j]?.getD 0)):=by
 have h1:(cur.toList.take zs.length)[j]? =some (.int .u8 (zs[j]?.getD 0)):=by rw[h];simp[hj]
 rw[List.getElem?_take,if_pos hj]at h1;simpa using h1
theorem zAa {W:World} {g:Nat} {cur:Array Value} {e:TypeId} (h:W.heap[g]? =some (.cells cur e (0,0)))(j:Nat):W.cell? ⟨g,j,none⟩=cur[j]? :=by
 simp only[World.cell?,h];rfl
theorem zAd {W:World} {g:Nat} {cur:Array Value} {e:TypeId} (h:W.heap[g]? =some (.cells cur e (0,0)))(j:Nat):W.frozen? ⟨g,j,none⟩=false:=by
 simp[World.frozen?,h]
theorem Ow.rd {base:Nat} {W:World} {sv:Value} {zs:List Int} :Ow base W sv zs→Rd W.heap.size W sv zs
 | .inl ⟨e,hz⟩=> .inl ⟨none,0,e,hz,by omega,fun _=>rfl⟩
 | .inr ⟨g,cap,cur,e,hb,hl,hs,hm,hh,hc⟩=>by
  have hg:=(eS hh);by_cases h0:zs=[]
  ·subst h0
   exact .inl ⟨_,cap,e,rfl,hm,fun h=>by cases h⟩
  ·refine .inr ⟨g,0,cap,e,h0,hl,hm,hg,fun j hj=> ?_⟩
   rw[Nat.zero_add,zAa hh];exact cur_at hc j hj
theorem Ow.below {base n:Nat} {W W':World} {sv:Value} {zs:List Int} (h:Ow base W sv zs)(hb:Below n W W')(hn:W.heap.size≤n):Ow base W' sv zs:=by
 rcases h with e|⟨g,cap,cur,e,hg,hl,hs,hm,hh,hc⟩
 ·exact .inl e
 ·exact .inr ⟨g,cap,cur,e,hg,hl,hs,hm,(hb.block g (Nat.lt_of_lt_of_le (eS hh) hn)).trans hh,hc⟩
theorem Ow.mono {base base':Nat} {W:World} {sv:Value} {zs:List Int} (h:Ow base W sv zs)(hb:base'≤base):Ow base' W sv zs:=by
 rcases h with e|⟨g,cap,cur,e,hg,r⟩
 ·exact .inl e
 ·exact .inr ⟨g,cap,cur,e,Nat.le_trans hb hg,r⟩
theorem Ow.of_row {base n:Nat} {W:World} {v:Value} {zs:List Int} (h:W.ownsRow base 5 1 v n (zs.map (Value.int .u8))):Ow base W v zs:=by
 obtain⟨hlen,h2⟩:=h;obtain rfl:zs.length=n:=by simpa using hlen
 rcases h2 with⟨e,h0⟩|⟨g,cap,cur,e,hg,hh,hl,hm,hs,hc⟩
 ·exact .inl ⟨e,by simpa using h0⟩
 ·exact .inr ⟨g,cap,cur,e,hg,hl,by omega,by simpa[maxLen]using hm,hh,by simpa using hc⟩
theorem Ow.slice {base:Nat} {W:World} {sv:Value} {zs:List Int} (h:Ow base W sv zs):∃a cap,sv= .slice a zs.length cap∧zs.length≤cap∧cap≤9223372036854775807:=h.rd.slice
theorem Ow.at {base:Nat} {W:World} {a:Option Addr} {len cap:Nat} {zs:List Int} (h:Ow base W (.slice a len cap) zs)(hne:0<zs.length):∃g,a=some ⟨g,0,none⟩∧len=zs.length∧base≤g∧(∀j,j<zs.length→W.cell? ⟨g,j,none⟩=some (.int .u8 (zs[j]?.getD 0))∧W.frozen? ⟨g,j,none⟩=false)∧
  ∀j v,j<zs.length→Ow base (W.setCell ⟨g,j,none⟩ (.int .u8 v)) (.slice a len cap) (zs.set j v):=by
 rcases h with⟨e,hz⟩|⟨g,cap',cur,e,hg,hl,hs,hm,hh,hc⟩
 ·subst hz;simp at hne
 ·cases e
  refine⟨g,rfl,rfl,hg,fun j hj=>⟨by rw[zAa hh];exact cur_at hc j hj,zAd hh j⟩,fun j v hj=> .inr ⟨g,cap,cur.set! j (.int .u8 v),by simp,hg,by simpa using hl,by simpa using hs,hm,?_,?_⟩⟩
  ·obtain ⟨hlt,hk⟩:=Array.getElem?_eq_some_iff.1 hh
   show(W.heap.modify g _)[g]? =_
   rw[Array.getElem?_eq_getElem (by rw[Array.size_modify];exact hlt),Array.getElem_modify_self,hk];simp
  ·simp only[Array.set!_eq_setIfInBounds,Array.toList_setIfInBounds,List.length_set,List.take_set,hc,List.map_set]
theorem Ow.cut {base:Nat} {W:World} {a:Option Addr} {len cap:Nat} {zs:List Int} (h:Ow base W (.slice a len cap) zs):Ow base W (.slice a len len) zs:=by
 rcases h with⟨e,hz⟩|⟨g,cap',cur,e,hg,hl,hs,hm,hh,hc⟩
 ·cases e
  exact .inl ⟨rfl,hz⟩
 ·cases e
  exact .inr ⟨g,zs.length,cur,rfl,hg,Nat.le_refl _,Nat.le_trans hl hs,Nat.le_trans hl hm,hh,hc⟩
section
variable {P:Program}
theorem zD8 {ops:Array Oper} {rest:List Oper} {o:Oper} {a:Act} {Q:Exit→Act→World→Prop} (w:World)(hgd:o.guard=none)(s x:Operand)(t:TypeId)
  (ho:o.op= .call { callee:= .builtin .append,args:=#[s,x],argTypes:=#[t,t] })
  (base:Nat)(e:TypeId)(i:TypeInfo)(ht:P.underlying t=some (.slice e))(hi:P.info? e=some i)(hz:i.zero=some (.int .u8 0))(hsize:i.size=1)(hby:i.bytes=1)
  (v:Value)(ys:List Int)(hs:a.eval s=v)(hown:w.ownsRow base e 1 v ys.length (ys.map (Value.int .u8)))
  (n₀:Nat)(sx:Value)(zs:List Int)(hx:a.eval x=sx)(hI:Rd n₀ w sx zs)(hbd:ys.length+zs.length≤140737488355328)(hbase:base≤w.heap.size)
  (h:∀v' w',w'.ownsRow base e 1 v' (ys++zs).length ((ys++zs).map (Value.int .u8))→w.grownBy w' v.ownBlock→wpList P ops Q rest (a.put o.dst v') w'):wpList P ops Q (o::rest) a w:=by
 rcases hI with⟨ao,cap,rfl,rfl,hm,hn⟩|⟨b,off,cap,rfl,hne,hl,hm,hb,hc⟩
 ·cases ao with
  |none=>
   obtain rfl:=hn rfl;refine wpList_append_own_none hgd s x t ho base e i 1 ht hi v _ _ hs hown hx (h v w (by simpa using hown) ⟨rfl,rfl,rfl,Nat.le_refl _,fun _ _ _=>rfl⟩)
  |some ad=>
   refine wpList_append_own w hgd s x t ho base e i (.int .u8 0) 1 1 ht hi hz hsize hby rfl (by decide) v _ _ hs hown ad 0 cap [] hx rfl (fun j u hj=>by simp at hj) (fun u hu=>by simp at hu) (by unfold maxLen;omega) (by omega) hbase ?_;intro v' w' hown' hg _
   exact h v' w' (by simpa using hown') hg
 ·refine wpList_append_own w hgd s x t ho base e i (.int .u8 0) 1 1 ht hi hz hsize hby rfl (by decide) v _ _ hs hown ⟨b,off,none⟩ zs.length cap (zs.map (Value.int .u8)) hx (by simp) ?_ ?_ (by unfold maxLen;omega) (by omega) hbase ?_
  ·intro j u hj
   have hj':j<zs.length:=by have:=(List.getElem?_eq_some_iff.1 hj).1;simpa using this
   rw[show (⟨b,off,none⟩:Addr).add j=⟨b,off+j,none⟩from by unfold Addr.add;split<;>simp_all,hc j hj',←hj];simp[hj']
  ·intro u hu
   obtain⟨z,_,rfl⟩:=List.mem_map.1 hu;rfl
  ·intro v' w' hown' hg _
   exact h v' w' (by simpa using hown') hg
end
theorem zEz {B base n size:Nat} {e:TypeId} {a W W':World} {v:Value} {xs:List Value} (hb:Below B a W)(ho:W.ownsRow base e size v n xs)(hg:W.grownBy W' v.ownBlock)(h1:B≤base)(h2:B≤W.heap.size):Below B a W':=
 hb.grown hg h2 (fun k e=>Nat.le_trans h1 (ho.lt k e).1)
theorem own_made {W:World} {base n:Nat} {e:TypeId} {v:Value} (h:W.ownsRow base e 1 v n (madeCells (Value.int .u8 0).cells (n*1)).toList):W.ownsRow base e 1 v (List.replicate n (0:Int)).length ((List.replicate n (0:Int)).map (Value.int .u8)):=by
 rw[show (Value.int .u8 0).cells=#[Value.int .u8 0]from rfl,toList_madeCells_one,Nat.mul_one]at h;rw[List.length_replicate,List.map_replicate];exact h
theorem zHz(w:World)(e:TypeId):(w.alloc (.cells #[] e)).ownsRow w.heap.size e 1 (.slice (some ⟨w.heap.size,0,none⟩) 0 0) ([]:List Int).length (([]:List Int).map (Value.int .u8)):=
 World.ownsRow_made w #[] 0 (Nat.le_refl _) (by simp) rfl
theorem zDq(sv:Value)(zs:List Int)(w:World)(hl:zs.length≤140737488355328)(hI:Rd w.heap.size w sv zs):
  Calls Tryz.prog 120 #[sv] w fun e w'=>∃a,e= .returned (.slice a zs.length zs.length)∧Ow w.heap.size w' (.slice a zs.length zs.length) zs∧Below w.heap.size w w':=by
 obtain⟨i0,hi,hz0,hz1,hz2⟩:=info_parts zBi;obtain⟨a,cap,rfl,hl1,hm⟩:=hI.slice;go_enter Tryz.func120,Tryz.ntmps120;go_wp2_with (at_builtin;refine zD8 _ rfl _ _ 26 rfl w.heap.size 5 i0 Tryz.underlying26 hi hz0 hz1 hz2 _ [] rfl (World.ownsRow_nil _ _ _ _) w.heap.size _ zs rfl hI ?c1 ?c2 ?_)
 case c1=>simp;omega
 case c2=>exact Nat.le_refl _
 intro v' w1 hown hgrow
 have hOw:=Ow.of_row hown;have hB1:Below w.heap.size w w1:=(Below.refl _ w).grown hgrow (Nat.le_refl _) (fun j e=>by cases e);obtain⟨a1,cap1,rfl,hl2,hm2⟩:=hOw.slice;have hcut:=hOw.cut;clear hown hgrow hOw hI;go_wp2
 go_ret
 exact⟨_,rfl,hcut,hB1⟩
theorem zO3(g off len cap:Nat)(p:Nat)(v:Int)(x y:Value)(w:World)(hl:len≤9223372036854775807)(h1:p+1<len)(hv:0≤v∧v≤65535)
  (hc0:w.cell? ⟨g,off+p,none⟩=some x)(hc1:w.cell? ⟨g,off+(p+1),none⟩=some y)(hf0:w.frozen? ⟨g,off+p,none⟩=false)(hf1:w.frozen? ⟨g,off+(p+1),none⟩=false):
  Calls Tryz.prog 121 #[.slice (some ⟨g,off,none⟩) len cap,.int .i64 p,.int .u16 v] w fun e w'=>e= .returned (.tuple #[])∧w'=(w.setCell ⟨g,off+p,none⟩ (.int .u8 (v/256))).setCell ⟨g,off+(p+1),none⟩ (.int .u8 (v % 256)):=by
 have hi1:(p:Int)<len:=by omega
 have hi2:(p:Int)+1<len:=by omega
 go_enter Tryz.func121,Tryz.ntmps121;go_wp2
 go_end0
 exact⟨rfl,rfl⟩
theorem zEs(base:Nat)(a:Option Addr)(len cap:Nat)(zs:List Int)(p:Nat)(v:Int)(w:World)(hO:Ow base w (.slice a len cap) zs)(h1:p+1<zs.length)(hv:0≤v∧v≤65535):
  Calls Tryz.prog 121 #[.slice a len cap,.int .i64 p,.int .u16 v] w fun e w'=>e= .returned (.tuple #[])∧Ow base w' (.slice a len cap) (Mt.put2 zs p v)∧Below base w w':=by
 obtain⟨a',cap',e',hl1,hm⟩:=hO.slice;obtain⟨g,rfl,rfl,hg,hcf,hset⟩:=hO.at (by omega);obtain⟨c0,f0⟩:=hcf p (by omega);obtain⟨c1,f1⟩:=hcf (p+1) (by omega);have hs1:=hset p (v/256) (by omega);cases e'
 refine(zO3 g 0 zs.length cap p v _ _ w (by omega) h1 hv (by rw[Nat.zero_add];exact c0) (by rw[Nat.zero_add];exact c1) (by rw[Nat.zero_add];exact f0) (by rw[Nat.zero_add];exact f1)).mono ?_;rintro e w' ⟨rfl,rfl⟩;rw[Nat.zero_add,Nat.zero_add];obtain⟨g',hg1,_,_,_,hset2⟩:=hs1.at (by simp;omega);cases hg1
 refine⟨rfl,?_,((Below.refl _ _).setCell (p:=⟨g,p,none⟩) hg _).setCell (p:=⟨g,p+1,none⟩) hg _⟩;have:=hset2 (p+1) (v % 256) (by simpa using h1);simpa[Mt.put2]using this
def zKc (zs:List Int) (k:Nat) (v:Int):List Int:=Mt.put2 (Mt.put2 zs k (v/65536)) (k+2) (v % 65536)
theorem zB2(zs:List Int)(k:Nat)(v:Int):(zKc zs k v).length=zs.length:=by simp[zKc,Mt.put2_length]
theorem By_put4 {zs:List Int} (h:Mt.By zs)(k:Nat) {v:Int} (hv:0≤v∧v≤4294967295):Mt.By (zKc zs k v):=(h.put2 k (by omega)).put2 (k+2) (by omega)
theorem zG0(base:Nat)(a:Option Addr)(len cap:Nat)(zs:List Int)(p:Nat)(v:Int)(w:World)(hO:Ow base w (.slice a len cap) zs)(h1:p+3<zs.length)(hv:0≤v∧v≤4294967295):
  Calls Tryz.prog 177 #[.slice a len cap,.int .i64 p,.int .u32 v] w fun e w'=>e= .returned (.tuple #[])∧Ow base w' (.slice a len cap) (zKc zs p v)∧Below base w w':=by
 obtain⟨a',cap',e',hl1,hm⟩:=hO.slice;cases e'
 have hp:p≤9223372036854775803:=by omega
 go_enter Tryz.func177,Tryz.ntmps177;go_wp2_with fail;refine(zEs base a zs.length cap zs p (v/65536) w hO (by omega) (by omega)).mono ?_;rintro e w1 ⟨rfl,hO1,hb1⟩;go_wp2_with fail;rw[IntKind.wrap_u16,show((p:Int)+2)=((p+2:Nat):Int)from by omega];refine(zEs base a zs.length cap _ (p+2) (v % 65536) w1 hO1 (by rw[Mt.put2_length];omega) (by omega)).mono ?_;rintro e w2 ⟨rfl,hO2,hb2⟩;go_wp2
 go_end0
 exact⟨rfl,hO2,hb1.trans hb2⟩
def zAq (zs:List Int) (p:Int) (v:Int):List Int:=if 0≤p∧p+2≤zs.length then Mt.put2 zs p.toNat v else zs
def zBw (zs:List Int) (p:Int) (v:Int):List Int:=if 0≤p∧p+4≤zs.length then zKc zs p.toNat v else zs
theorem zBp(zs:List Int)(p v:Int):(zAq zs p v).length=zs.length:=by unfold zAq;split<;>simp[Mt.put2_length]
theorem zBq(zs:List Int)(p v:Int):(zBw zs p v).length=zs.length:=by unfold zBw;split<;>simp[zB2]
theorem zE0 {zs:List Int} (h:Mt.By zs)(p:Int) {v:Int} (hv:0≤v∧v≤65535):Mt.By (zAq zs p v):=by unfold zAq;split;exact h.put2 _ hv;exact h
theorem zH0 {zs:List Int} (h:Mt.By zs)(p:Int) {v:Int} (hv:0≤v∧v≤4294967295):Mt.By (zBw zs p v):=by unfold zBw;split;exact By_put4 h _ hv;exact h
theorem zBf(sv:Value)(zs:List Int)(p v:Int)(w:World)(hl:zs.length≤140737488355328)(hI:Rd w.heap.size w sv zs)(hv:0≤v∧v≤65535):
  Calls Tryz.prog 62 #[sv,.int .i64 p,.int .u16 v] w fun e w'=>∃a,e= .returned (.slice a zs.length zs.length)∧Ow w.heap.size w' (.slice a zs.length zs.length) (zAq zs p v)∧Below w.heap.size w w':=by
 obtain⟨a,cap,rfl,hl1,hm⟩:=hI.slice;by_cases hp:0≤p∧p+2≤zs.length
 ·have HP:Hid (zAq zs p v=Mt.put2 zs p.toNat v):=by show _=_;unfold zAq;rw[if_pos hp]
  obtain⟨n,rfl⟩:=Int.eq_ofNat_of_zero_le hp.1;rw[Int.toNat_natCast]at HP;have hp2:=hp.2;clear hp;go_enter Tryz.func62,Tryz.ntmps62;go_wp2_with fail;refine(zDq _ zs w hl hI).mono ?_;rintro e w1 ⟨a1,rfl,hO1,hb1⟩;go_wp2_with fail;refine(zDn _ _ _ _ _ _ (by omega) (by omega) (by omega) hp2).mono ?_;rintro e w2 ⟨rfl,rfl⟩;go_wp2_with fail;refine(zEs w.heap.size a1 zs.length zs.length zs n v _ hO1 (by omega) hv).mono ?_;rintro e w3 ⟨rfl,hO2,hb2⟩;go_wp2
  go_ret
  exact⟨_,rfl,by rw[HP.out];exact hO2,hb1.trans hb2⟩
 ·have HP:Hid (zAq zs p v=zs):=by show _=_;unfold zAq;rw[if_neg hp]
  have hp':p<0∨(zs.length:Int)<p+2:=by omega
  clear hp;go_enter Tryz.func62,Tryz.ntmps62;go_wp2_with fail;refine(zDq _ zs w hl hI).mono ?_;rintro e w1 ⟨a1,rfl,hO1,hb1⟩;go_wp2_with fail;refine(zEr _ _ _ _ _ _ (by omega) (by omega) (by omega) hp').mono ?_;rintro e w2 ⟨rfl,rfl⟩;clear hp';go_wp2
  go_ret
  exact⟨_,rfl,by rw[HP.out];exact hO1,hb1⟩
theorem zCs(sv:Value)(zs:List Int)(p v:Int)(w:World)(hl:zs.length≤140737488355328)(hI:Rd w.heap.size w sv zs)(hv:0≤v∧v≤4294967295):
  Calls Tryz.prog 126 #[sv,.int .i64 p,.int .u32 v] w fun e w'=>∃a,e= .returned (.slice a zs.length zs.length)∧Ow w.heap.size w' (.slice a zs.length zs.length) (zBw zs p v)∧Below w.heap.size w w':=by
 obtain⟨a,cap,rfl,hl1,hm⟩:=hI.slice;by_cases hp:0≤p∧p+4≤zs.length
 ·have HP:Hid (zBw zs p v=zKc zs p.toNat v):=by show _=_;unfold zBw;rw[if_pos hp]
  obtain⟨n,rfl⟩:=Int.eq_ofNat_of_zero_le hp.1;rw[Int.toNat_natCast]at HP;have hp2:=hp.2;clear hp;go_enter Tryz.func126,Tryz.ntmps126;go_wp2_with fail;refine(zDq _ zs w hl hI).mono ?_;rintro e w1 ⟨a1,rfl,hO1,hb1⟩;go_wp2_with fail;refine(zDn _ _ _ _ _ _ (by omega) (by omega) (by omega) hp2).mono ?_;rintro e w2 ⟨rfl,rfl⟩;go_wp2_with fail;refine(zG0 w.heap.size a1 zs.length zs.length zs n v _ hO1 (by omega) hv).mono ?_;rintro e w3 ⟨rfl,hO2,hb2⟩;go_wp2
  go_ret
  exact⟨_,rfl,by rw[HP.out];exact hO2,hb1.trans hb2⟩
 ·have HP:Hid (zBw zs p v=zs):=by show _=_;unfold zBw;rw[if_neg hp]
  have hp':p<0∨(zs.length:Int)<p+4:=by omega
  clear hp;go_enter Tryz.func126,Tryz.ntmps126;go_wp2_with fail;refine(zDq _ zs w hl hI).mono ?_;rintro e w1 ⟨a1,rfl,hO1,hb1⟩;go_wp2_with fail;refine(zEr _ _ _ _ _ _ (by omega) (by omega) (by omega) hp').mono ?_;rintro e w2 ⟨rfl,rfl⟩;clear hp';go_wp2
  go_ret
  exact⟨_,rfl,by rw[HP.out];exact hO1,hb1⟩
theorem Rd.drew {n₀:Nat} {w:World} {sv:Value} {zs:List Int} (q:Nat)(h:Rd n₀ w sv zs):Rd n₀ (w.drewN q) sv zs:=h.below (zAm (Below.refl _ _) q)
theorem Ow.drew {base:Nat} {w:World} {sv:Value} {zs:List Int} (q:Nat)(h:Ow base w sv zs):Ow base (w.drewN q) sv zs:=h.below (zAm (Below.refl w.heap.size _) q) (Nat.le_refl _)
theorem Rd.cells {n₀:Nat} {w:World} {sv:Value} {zs:List Int} (h:Rd n₀ w sv zs)(hne:0<zs.length):∃b off cap,sv= .slice (some ⟨b,off,none⟩) zs.length cap∧zs.length≤cap∧cap≤9223372036854775807∧b<n₀∧∀j,j<zs.length→w.cell? ⟨b,off+j,none⟩=some (.int .u8 (zs[j]?.getD 0)):=by
 rcases h with⟨a,cap,e,hz,_⟩|⟨b,off,cap,e,_,hl,hm,hb,hc⟩
 ·subst hz;simp at hne
 ·exact ⟨b,off,cap,e,hl,hm,hb,hc⟩
theorem zBh {n₀:Nat} (sv:Value)(zs:List Int)(hB:Mt.By zs)(p:Nat)(h:p+1<zs.length)(w:World)(hI:Rd n₀ w sv zs):
  Calls Tryz.prog 39 #[sv,.int .i64 p] w fun e w'=>e= .returned (.int .u16 (wat zs p))∧∃n,w'=w.drewN n:=by
 obtain⟨b,off,cap,rfl,hl,hm,_,hc⟩:=hI.cells (by omega);exact zHy b off zs.length cap _ _ p w (by omega) h (hB.at p) (hB.at (p+1)) (hc p (by omega)) (hc (p+1) h)
theorem zO4(x y:Int)(hx:0≤x∧x≤65535)(hy:0≤y∧y≤65535):bits .or .u32 (x*65536) y=x*65536+y:=by
 rw[u32_or _ _ (by omega) (by omega) (by omega) (by omega)];have:=nat_join 16 (x*65536).toNat y.toNat (by omega) (by omega);omega
def zAx (zs:List Int) (p:Nat):Int:=wat zs p*65536+wat zs (p+2)
theorem zDr {n₀:Nat} (sv:Value)(zs:List Int)(hB:Mt.By zs)(p:Nat)(h:p+3<zs.length)(w:World)(hI:Rd n₀ w sv zs):
  Calls Tryz.prog 70 #[sv,.int .i64 p] w fun e w'=>e= .returned (.int .u32 (zAx zs p))∧∃n,w'=w.drewN n:=by
 obtain⟨a,cap,rfl,hl,hm⟩:=hI.slice;have HW:Hid (zAx zs p=wat zs p*65536+wat zs (p+2)):=rfl;have b0:=zDa hB p;have b1:=zDa hB (p+2);go_enter Tryz.func70,Tryz.ntmps70;go_wp2_with fail;refine(zDn _ _ _ _ _ _ (by omega) (by omega) (by omega) (by omega)).mono ?_;rintro e w1 ⟨rfl,rfl⟩;go_wp2_with fail;refine(zBh _ zs hB p (by omega) _ hI).mono ?_;rintro e w2 ⟨rfl,q,rfl⟩;go_wp2_with fail;rw[show ((p:Int)+2)=((p+2:Nat):Int)from by omega];refine(zBh _ zs hB (p+2) (by omega) _ (hI.drew q)).mono ?_;rintro e w2 ⟨rfl,q2,rfl⟩;generalize wat zs p=x at*;generalize wat zs (p+2)=y at*;go_wp2
 rw[zO4 x y b0 b1];go_ret
 exact⟨by rw[HW.out];rfl,_,rfl⟩
theorem get32_no(a:Option Addr)(len cap:Nat)(p:Int)(w:World)(hl:len≤9223372036854775807)(h1:p<0∨(len:Int)<p+4):
  Calls Tryz.prog 70 #[.slice a len cap,.int .i64 p] w fun e w'=>e= .returned (.int .u32 0)∧w'=w:=by
 go_enter Tryz.func70,Tryz.ntmps70;go_wp2_with (go_at_call 81;refine(zEr _ _ _ _ _ _ hl (by omega) (by omega) h1).mono ?_;rintro e w' ⟨rfl,rfl⟩)
 go_ret
 exact⟨rfl,rfl⟩
theorem zMd(zs:List Int)(k:Nat)(v:Int)(h:k+1<zs.length)(_hv:0≤v):wat (Mt.put2 zs k v) k=v:=by
 obtain⟨e0,e1⟩:=Mt.put2_at zs k v h;unfold wat;rw[e0,e1];omega
theorem zBg(zs:List Int)(k j:Nat)(v:Int)(h1:j+1<k∨k+1<j):wat (Mt.put2 zs k v) j=wat zs j:=by
 unfold wat;rw[Mt.put2_other _ _ _ _ (by omega) (by omega),Mt.put2_other _ _ _ _ (by omega) (by omega)]
theorem zE1(tos id ttl proto src dst:Int)(keep:Bool)(ao ad:Option Addr)(lo co ld cd:Nat)(w:World)(h1:lo≤140737488355328)(h2:ld≤140737488355328):
  Calls Tryz.prog 125 #[.agg #[.int .u8 tos,.int .u16 id,.bool keep,.int .u8 ttl,.int .u8 proto,.int .u32 src,.int .u32 dst,.slice ao lo co,.slice ad ld cd]] w fun e w'=>e= .returned (.agg #[.int .i64 (20+lo),.int .i64 (20+lo+ld)])∧Below w.heap.size w w':=by
 go_enter Tryz.func125,Tryz.ntmps125;go_wp2
 exact bodyPost_ret (v:= .agg #[.int .i64 (20+lo),.int .i64 (20+lo+ld)]) (by simp[results,Tryz.results125,go_sem]) rfl ⟨rfl,(bA _ _).alloc (by simp) _⟩
theorem zO5(a b:Int)(w:World):(Instr.field 256 (.agg #[.int .i64 a,.int .i64 b]) 1).run Tryz.prog w= .ok (.int .i64 b) w:=by kernel_rfl
def flt (lo ld:Nat):Int:=if 40<lo∨lo % 4≠0 then 4 else if 65535<20+lo+ld then 8 else 0
theorem zH1(tos id ttl proto src dst:Int)(keep:Bool)(ao ad:Option Addr)(lo co ld cd:Nat)(w:World)(h1:lo≤140737488355328)(h2:ld≤140737488355328):
  Calls Tryz.prog 65 #[.agg #[.int .u8 tos,.int .u16 id,.bool keep,.int .u8 ttl,.int .u8 proto,.int .u32 src,.int .u32 dst,.slice ao lo co,.slice ad ld cd]] w fun e w'=>e= .returned (.int .i64 (flt lo ld))∧Below w.heap.size w w':=by
 have hbox:Below w.heap.size w (w.alloc (.cells #[.int .u8 tos,.int .u16 id,.bool keep,.int .u8 ttl,.int .u8 proto,.int .u32 src,.int .u32 dst,.slice ao lo co,.slice ad ld cd] 40)):=bA _ _;by_cases c1:40<lo
 ·have t1:(40:Int)<lo:=by omega
  have HF:Hid (flt lo ld=4):=by show _=_;unfold flt;rw[if_pos (.inl c1)]
  go_enter Tryz.func65,Tryz.ntmps65;go_wp2
  go_ret
  exact⟨by rw[HF.out];rfl,hbox⟩
 ·have t1:¬(40:Int)<lo:=by omega
  by_cases c2:lo % 4=0
  ·have t2:((lo:Int) % 4 !=0)=false:=by simp;omega
   by_cases c3:65535<20+lo+ld
   ·have t3:(65535:Int)<20+lo+ld:=by omega
    have HF:Hid (flt lo ld=8):=by show _=_;unfold flt;rw[if_neg (by omega),if_pos c3]
    go_enter Tryz.func65,Tryz.ntmps65;go_wp2_with fail;refine(zE1 tos id ttl proto src dst keep ao ad lo co ld cd _ h1 h2).mono ?_;rintro e w1 ⟨rfl,hb1⟩;have hfl:=zO5 (20+lo) (20+lo+ld) w1;clear c1 c2 c3 h1 h2;go_wp2
    go_ret
    exact⟨by rw[HF.out];rfl,hbox.trans (hb1.mono (by simp))⟩
   ·have t3:¬(65535:Int)<20+lo+ld:=by omega
    have HF:Hid (flt lo ld=0):=by show _=_;unfold flt;rw[if_neg (by omega),if_neg c3]
    go_enter Tryz.func65,Tryz.ntmps65;go_wp2_with fail;refine(zE1 tos id ttl proto src dst keep ao ad lo co ld cd _ h1 h2).mono ?_;rintro e w1 ⟨rfl,hb1⟩;have hfl:=zO5 (20+lo) (20+lo+ld) w1;clear c1 c2 c3 h1 h2;go_wp2
    go_ret
    exact⟨by rw[HF.out];rfl,hbox.trans (hb1.mono (by simp))⟩
  ·have t2:((lo:Int) % 4 !=0)=true:=by simp;omega
   have HF:Hid (flt lo ld=4):=by show _=_;unfold flt;rw[if_pos (.inr c2)]
   go_enter Tryz.func65,Tryz.ntmps65;go_wp2
   go_ret
   exact⟨by rw[HF.out];rfl,hbox⟩
theorem zE2 {P:Program} (w:World)(t ty e:TypeId)(base:Nat)(i:TypeInfo)(ht:P.underlying t=some (.slice e))(hi:P.info? e=some i)(hz:i.zero=some (.int .u8 0))(hsize:i.size=1)(hby:i.bytes=1)
  (v:Value)(ys:List Int)(hown:w.ownsRow base e 1 v ys.length (ys.map (Value.int .u8)))
  (n₀:Nat)(sx:Value)(zs:List Int)(hI:Rd n₀ w sx zs)(hbd:ys.length+zs.length≤140737488355328)(hbase:base≤w.heap.size):
  ∃v' w',(Builtin.append_ #[t,t] ty #[v,sx]).run P w= .ok v' w'∧w'.ownsRow base e 1 v' (ys++zs).length ((ys++zs).map (Value.int .u8))∧w.grownBy w' v.ownBlock:=by
 rcases hI with⟨ao,cap,rfl,rfl,hm,hn⟩|⟨b,off,cap,rfl,hne,hl,hm,hb,hc⟩
 ·cases ao with
  |none=>
   obtain rfl:=hn rfl;exact⟨v,w,run_append_owned_none w base t ty e i 1 ht hi v _ _ hown,by simpa using hown,⟨rfl,rfl,rfl,Nat.le_refl _,fun _ _ _=>rfl⟩⟩
  |some ad=>
   obtain⟨v',w',hr,h2,h3,_⟩:=run_append_own (P:=P) w base t ty e i (.int .u8 0) 1 1 ht hi hz hsize hby rfl (by decide) v _ _ hown ad 0 cap [] rfl (fun j u hj=>by simp at hj) (fun u hu=>by simp at hu) (by unfold maxLen;omega) (by omega) hbase;exact⟨v',w',hr,by simpa using h2,h3⟩
 ·obtain ⟨v',w',hr,h2,h3,_⟩:=run_append_own (P:=P) w base t ty e i (.int .u8 0) 1 1 ht hi hz hsize hby rfl (by decide) v _ _ hown ⟨b,off,none⟩ zs.length cap (zs.map (Value.int .u8)) (by simp)
   (fun j u hj=>by
    have hj':j<zs.length:=by have:=(List.getElem?_eq_some_iff.1 hj).1;simpa using this
    rw[show (⟨b,off,none⟩:Addr).add j=⟨b,off+j,none⟩from by unfold Addr.add;split<;>simp_all,hc j hj',←hj];simp[hj'])
   (fun u hu=>by obtain⟨z,_,rfl⟩:=List.mem_map.1 hu;rfl) (by unfold maxLen;omega) (by omega) hbase
  exact⟨v',w',hr,by simpa using h2,h3⟩
theorem zMe {P:Program} {ops:Array Oper} {o:Oper} {a:Act} {w:World} {K:Act→World→Prop} {Q:Exit→Act→World→Prop} {E:Prop}
  (hg:o.guard=none)(s x:Operand)(t:TypeId)(hop:o.op=Op.call { callee:=Callee.builtin Builtin.append,args:=#[s,x],argTypes:=#[t,t] })
  (v sx:Value)(hs:a.eval s=v)(hx:a.eval x=sx)(v':Value)(w':World)(hrun:(Builtin.append_ #[t,t] o.type #[v,sx]).run P w= .ok v' w')(hK:K (a.put o.dst v') w'):
  if Region.wanted o (yielded ops a.tmps)=true then Oper.wp P o a w K Q else E:=by
 have hw:Region.wanted o (yielded ops a.tmps)=true:=by simp[Region.wanted,hg]
 rw[if_pos hw];unfold Oper.wp;simp[execOp,hop,resolve,invoke,builtin,hs,hx,hrun,Result.andThen]
 exact hK
theorem or64(x:Int)(h0:0≤x)(h1:x≤15):bits .or .i64 64 x=64+x:=by
 have:x=0∨x=1∨x=2∨x=3∨x=4∨x=5∨x=6∨x=7∨x=8∨x=9∨x=10∨x=11∨x=12∨x=13∨x=14∨x=15:=by omega
 rcases this with rfl|rfl|rfl|rfl|rfl|rfl|rfl|rfl|rfl|rfl|rfl|rfl|rfl|rfl|rfl|rfl<;>decide+kernel
theorem sets4 {base:Nat} {w4:World} {g n cap:Nat} {l0:List Int} (hO:Ow base w4 (.slice (some ⟨g,0,none⟩) n cap) l0)(hl:9<l0.length)(x0 x1 x8 x9:Int):
  Ow base ((((w4.setCell ⟨g,0,none⟩ (.int .u8 x0)).setCell ⟨g,1,none⟩ (.int .u8 x1)).setCell ⟨g,8,none⟩ (.int .u8 x8)).setCell ⟨g,9,none⟩ (.int .u8 x9)).drew (.slice (some ⟨g,0,none⟩) n cap) ((((l0.set 0 x0).set 1 x1).set 8 x8).set 9 x9)∧
  Below base w4 ((((w4.setCell ⟨g,0,none⟩ (.int .u8 x0)).setCell ⟨g,1,none⟩ (.int .u8 x1)).setCell ⟨g,8,none⟩ (.int .u8 x8)).setCell ⟨g,9,none⟩ (.int .u8 x9)).drew:=by
 obtain⟨g0,e0,_,hb,_,h0⟩:=hO.at (by omega);cases e0
 obtain⟨g1,e1,_,_,_,h1⟩:=(h0 0 x0 (by omega)).at (by simp;omega);cases e1
 obtain⟨g2,e2,_,_,_,h2⟩:=(h1 1 x1 (by simp;omega)).at (by simp;omega);cases e2
 obtain⟨g3,e3,_,_,_,h3⟩:=(h2 8 x8 (by simp;omega)).at (by simp;omega);cases e3
 have h4:=h3 9 x9 (by simp;omega);exact⟨h4.drew 1,zAm (((((Below.refl base w4).setCell (p:=⟨g,0,none⟩) hb _).setCell (p:=⟨g,1,none⟩) hb _).setCell (p:=⟨g,8,none⟩) hb _).setCell (p:=⟨g,9,none⟩) hb _) 1⟩
def hd1 (tos id:Int) (keep:Bool) (ttl proto src dst:Int) (l0:List Int) (x0 all:Int):List Int:=
 zBw (zBw (if keep then zAq (zAq (zAq ((((l0.set 0 x0).set 1 tos).set 8 ttl).set 9 proto) 2 all) 4 id) 6 16384 else zAq (zAq ((((l0.set 0 x0).set 1 tos).set 8 ttl).set 9 proto) 2 all) 4 id) 12 src) 16 dst
def hd0 (tos id:Int) (keep:Bool) (ttl proto src dst:Int) (zo:List Int) (all:Int):List Int:=
 hd1 tos id keep ttl proto src dst (List.replicate 20 (0:Int)++zo) (64+(20+(zo.length:Int))/4) all
def hdr (tos id:Int) (keep:Bool) (ttl proto src dst:Int) (zo:List Int) (all:Int):List Int:=
 zAq (hd0 tos id keep ttl proto src dst zo all) 10 (Mt.cks (hd0 tos id keep ttl proto src dst zo all))
theorem zF1(tos id:Int)(keep:Bool)(ttl proto src dst:Int)(zo:List Int)(all:Int):(hd0 tos id keep ttl proto src dst zo all).length=20+zo.length:=by
 unfold hd0 hd1;simp only[zBq];split<;>simp only[zBp,List.length_set,List.length_append,List.length_replicate]
theorem By_hd0(tos id:Int)(keep:Bool)(ttl proto src dst:Int)(zo:List Int)(all:Int)(hO:Mt.By zo)(hl:zo.length≤40)(ht:0≤tos∧tos≤255)(hid:0≤id∧id≤65535)(htt:0≤ttl∧ttl≤255)(hpr:0≤proto∧proto≤255)(hsr:0≤src∧src≤4294967295)(hds:0≤dst∧dst≤4294967295)(hal:0≤all∧all≤65535):
  Mt.By (hd0 tos id keep ttl proto src dst zo all):=by
 have hz:Mt.By (List.replicate 20 (0:Int)):=fun z hz=>by rw[(List.mem_replicate.1 hz).2];omega
 have h1:=(((((hz.append hO).set 0 (v:=64+(20+(zo.length:Int))/4) (by omega)).set 1 ht).set 8 htt).set 9 hpr);have h2:=zE0 (zE0 h1 2 hal) 4 hid;unfold hd0 hd1;refine zH0 (zH0 ?_ 12 hsr) 16 hds;cases keep
 ·exact h2
 ·exact zE0 h2 6 (by omega)
theorem make20(w:World):(Instr.makeSlice 26 (.int .i64 20) (.int .i64 20)).run Tryz.prog w= .ok (.slice (some ⟨w.heap.size,0,none⟩) 20 20) (w.alloc (.cells #[.int .u8 0,.int .u8 0,.int .u8 0,.int .u8 0,.int .u8 0,.int .u8 0,.int .u8 0,.int .u8 0,.int .u8 0,.int .u8 0,.int .u8 0,.int .u8 0,.int .u8 0,.int .u8 0,.int .u8 0,.int .u8 0,.int .u8 0,.int .u8 0,.int .u8 0,.int .u8 0] 5)):=by kernel_rfl
theorem own20(w:World):(w.alloc (.cells #[.int .u8 0,.int .u8 0,.int .u8 0,.int .u8 0,.int .u8 0,.int .u8 0,.int .u8 0,.int .u8 0,.int .u8 0,.int .u8 0,.int .u8 0,.int .u8 0,.int .u8 0,.int .u8 0,.int .u8 0,.int .u8 0,.int .u8 0,.int .u8 0,.int .u8 0,.int .u8 0] 5)).ownsRow w.heap.size 5 1 (.slice (some ⟨w.heap.size,0,none⟩) 20 20) (List.replicate 20 (0:Int)).length ((List.replicate 20 (0:Int)).map (Value.int .u8)):=
 ⟨by simp,.inr ⟨w.heap.size,20,_,rfl,Nat.le_refl _,heap_alloc_new w _,Nat.le_refl _,by unfold maxLen;omega,rfl,rfl⟩⟩
theorem zNl(tos id ttl proto src dst:Int)(keep:Bool)(so:Value)(zo:List Int)(ad:Option Addr)(ld cd:Nat)(w:World)(hO:Mt.By zo)(hI:Rd w.heap.size w so zo)
  (hlo:zo.length≤40)(hlm:zo.length % 4=0)(hall:20+zo.length+ld≤65535)(ht:0≤tos∧tos≤255)(hid:0≤id∧id≤65535)(htt:0≤ttl∧ttl≤255)(hpr:0≤proto∧proto≤255)(hsr:0≤src∧src≤4294967295)(hds:0≤dst∧dst≤4294967295):
  Calls Tryz.prog 66 #[.agg #[.int .u8 tos,.int .u16 id,.bool keep,.int .u8 ttl,.int .u8 proto,.int .u32 src,.int .u32 dst,so,.slice ad ld cd]] w fun e w'=>∃a,e= .returned (.slice a (20+zo.length) (20+zo.length))∧Ow w.heap.size w' (.slice a (20+zo.length) (20+zo.length)) (hdr tos id keep ttl proto src dst zo (20+zo.length+ld))∧Below w.heap.size w w':=by
 obtain⟨i0,hi,hz0,hz1,hz2⟩:=info_parts zBi;obtain⟨ao,co,rfl,hl1,hm1⟩:=hI.slice;have hbox:Below w.heap.size w (w.alloc (.cells #[.int .u8 tos,.int .u16 id,.bool keep,.int .u8 ttl,.int .u8 proto,.int .u32 src,.int .u32 dst,.slice ao zo.length co,.slice ad ld cd] 40)):=bA _ _;have hcell:=zDp w #[.int .u8 tos,.int .u16 id,.bool keep,.int .u8 ttl,.int .u8 proto,.int .u32 src,.int .u32 dst,.slice ao zo.length co,.slice ad ld cd] 40;go_enter Tryz.func66,Tryz.ntmps66;go_wp2_with fail;refine(zE1 tos id ttl proto src dst keep ao ad zo.length co ld cd _ (by omega) (by omega)).mono ?_;rintro e w1 ⟨rfl,hb1⟩;have hbc:∀j,w1.cell? ⟨w.heap.size,j,none⟩=#[Value.int .u8 tos,.int .u16 id,.bool keep,.int .u8 ttl,.int .u8 proto,.int .u32 src,.int .u32 dst,.slice ao zo.length co,.slice ad ld cd][j]? :=fun j=>(hb1.cell (p:=⟨w.heap.size,j,none⟩) (by simp)).trans (hcell j);have hw1:=hbox.trans (hb1.mono (by simp));have hs1:=hb1.size;have hI1:=hI.below hw1;clear hcell hb1 hbox;have hk20:=make20;have hb2:Below w.heap.size w (w1.alloc (.cells #[.int .i64 (20+zo.length),.int .i64 (20+zo.length+ld)] 256)):=hw1.alloc hw1.size _;have hs2:∀j,(w1.alloc (.cells #[.int .i64 (20+zo.length),.int .i64 (20+zo.length+ld)] 256)).cell? ⟨w1.heap.size,j,none⟩=#[Value.int .i64 (20+zo.length),.int .i64 (20+zo.length+ld)][j]? :=zDp w1 _ _
 have hbc2:∀j,(w1.alloc (.cells #[.int .i64 (20+zo.length),.int .i64 (20+zo.length+ld)] 256)).cell? ⟨w.heap.size,j,none⟩=#[Value.int .u8 tos,.int .u16 id,.bool keep,.int .u8 ttl,.int .u8 proto,.int .u32 src,.int .u32 dst,.slice ao zo.length co,.slice ad ld cd][j]? :=fun j=>(((Below.refl w1.heap.size w1).alloc (Nat.le_refl _) _).cell (p:=⟨w.heap.size,j,none⟩) (by simp at hs1;simp;omega)).trans (hbc j);have hsz2:w.heap.size<w1.heap.size:=by simp at hs1;omega
 have hsz3:w1.heap.size<(w1.alloc (.cells #[.int .i64 (20+zo.length),.int .i64 (20+zo.length+ld)] 256)).heap.size:=by simp
 clear hbc hs1 hI1;go_wp2_with fail;generalize (w1.alloc (.cells #[.int .i64 (20+zo.length),.int .i64 (20+zo.length+ld)] 256))=W2 at*;have hI2:=hI.below hb2;have hb3:=hb2.alloc hb2.size (.cells #[.int .u8 0,.int .u8 0,.int .u8 0,.int .u8 0,.int .u8 0,.int .u8 0,.int .u8 0,.int .u8 0,.int .u8 0,.int .u8 0,.int .u8 0,.int .u8 0,.int .u8 0,.int .u8 0,.int .u8 0,.int .u8 0,.int .u8 0,.int .u8 0,.int .u8 0,.int .u8 0] 5);have hbox2:w.heap.size≤W2.heap.size:=hb2.size;obtain⟨v4,w4,hrun,hown4,hg4⟩:=zE2 (P:=Tryz.prog) (W2.alloc (.cells #[.int .u8 0,.int .u8 0,.int .u8 0,.int .u8 0,.int .u8 0,.int .u8 0,.int .u8 0,.int .u8 0,.int .u8 0,.int .u8 0,.int .u8 0,.int .u8 0,.int .u8 0,.int .u8 0,.int .u8 0,.int .u8 0,.int .u8 0,.int .u8 0,.int .u8 0,.int .u8 0] 5)).drew 26 26 5 W2.heap.size i0 Tryz.underlying26 hi hz0 hz1 hz2 _ (List.replicate 20 0) (own20 W2) w.heap.size _ zo ((hI.below hb3).drew 1) (by simp;omega) (by simp[World.drew]);have c7:=hbc2 7
 simp at c7
 have c7':(W2.alloc (.cells #[.int .u8 0,.int .u8 0,.int .u8 0,.int .u8 0,.int .u8 0,.int .u8 0,.int .u8 0,.int .u8 0,.int .u8 0,.int .u8 0,.int .u8 0,.int .u8 0,.int .u8 0,.int .u8 0,.int .u8 0,.int .u8 0,.int .u8 0,.int .u8 0,.int .u8 0,.int .u8 0] 5)).cell? ⟨w.heap.size,7,none⟩=some (.slice ao zo.length co):=(((Below.refl W2.heap.size W2).alloc (Nat.le_refl _) _).cell (p:=⟨w.heap.size,7,none⟩) (Nat.lt_trans hsz2 hsz3)).trans c7;have hO4:=Ow.of_row hown4;have hb4:Below W2.heap.size W2 w4:=zEz (zAm ((Below.refl _ W2).alloc (Nat.le_refl _) _) 1) (own20 W2) hg4 (Nat.le_refl _) (by simp);have hll:(List.replicate 20 (0:Int)++zo).length=20+zo.length:=by rw[List.length_append,List.length_replicate]
 have hcb:=Mt.cks_bd (hd0 tos id keep ttl proto src dst zo (20+zo.length+ld));have hBd:=By_hd0 tos id keep ttl proto src dst zo (20+zo.length+ld) hO hlo ht hid htt hpr hsr hds (by omega);have hld:=zF1 tos id keep ttl proto src dst zo (20+zo.length+ld);have HR:Hid (hdr tos id keep ttl proto src dst zo (20+zo.length+ld)=zAq (hd0 tos id keep ttl proto src dst zo (20+zo.length+ld)) 10 (Mt.cks (hd0 tos id keep ttl proto src dst zo (20+zo.length+ld)))):=rfl;have HD:Hid (hd0 tos id keep ttl proto src dst zo (20+zo.length+ld)=hd1 tos id keep ttl proto src dst (List.replicate 20 (0:Int)++zo) (64+(20+(zo.length:Int))/4) (20+zo.length+ld)):=rfl;generalize hd0 tos id keep ttl proto src dst zo (20+zo.length+ld)=dd at*;generalize List.replicate 20 (0:Int)++zo=l0 at*;obtain⟨a4,cap4,rfl,hl4,hm4⟩:=hO4.slice;obtain⟨g,hgg,_,hgW,hcf4,hset4⟩:=hO4.at (by omega);cases hgg
 obtain⟨hO5,hb5⟩:=sets4 hO4 (by omega) (64+(20+(zo.length:Int))/4) tos ttl proto;have hs3:∀j,w4.cell? ⟨w1.heap.size,j,none⟩=#[Value.int .i64 (20+zo.length),.int .i64 (20+zo.length+ld)][j]? :=fun j=>(hb4.cell (p:=⟨w1.heap.size,j,none⟩) hsz3).trans (hs2 j);have hbc3:∀j,w4.cell? ⟨w.heap.size,j,none⟩=#[Value.int .u8 tos,.int .u16 id,.bool keep,.int .u8 ttl,.int .u8 proto,.int .u32 src,.int .u32 dst,.slice ao zo.length co,.slice ad ld cd][j]? :=fun j=>(hb4.cell (p:=⟨w.heap.size,j,none⟩) (Nat.lt_trans hsz2 hsz3)).trans (hbc2 j);obtain⟨x0,f0⟩:=hcf4 0 (by omega);obtain⟨x1,f1⟩:=hcf4 1 (by omega);obtain⟨x8,f8⟩:=hcf4 8 (by omega);obtain⟨x9,f9⟩:=hcf4 9 (by omega);have b0:=hbc3 0;have b3:=hbc3 3;have b4:=hbc3 4;have s0:=hs3 0
 simp at b0 b3 b4 s0
 have hlen0:(1:Int)<l0.length:=by omega
 have hlen9:(9:Int)<l0.length:=by omega
 have hor:bits .or .i64 64 ((20+(zo.length:Int))/4)=64+(20+(zo.length:Int))/4:=or64 _ (by omega) (by omega);generalize l0[0]?.getD 0=y0 at x0;generalize l0[1]?.getD 0=y1 at x1;generalize l0[8]?.getD 0=y8 at x8;generalize l0[9]?.getD 0=y9 at x9;have HC:=zAc hcf4;have HS:=zAc hset4;have H1:=zAc hs3;have H2:=zAc hbc3;clear hcf4 hset4 hs3 hbc3 hbc2 hs2 hown4;go_region_law (refine zMe rfl (.tmp 7) (.tmp 9) 26 rfl _ _ rfl rfl _ w4 hrun ?_)
 all_goals clear hrun c7 c7' hg4 hk20
 all_goals go_wp2_with fail
 all_goals go_region
 all_goals
  rw[hll]at hO5;have H1':=zAc (fun j=>(hb5.cell (p:=⟨w1.heap.size,j,none⟩) hsz3).trans (zA8 H1 j));have H2':=zAc (fun j=>(hb5.cell (p:=⟨w.heap.size,j,none⟩) (Nat.lt_trans hsz2 hsz3)).trans (zA8 H2 j));have hz5:=hb5.size;have hbW5:Below w.heap.size w ((((w4.setCell ⟨g,0,none⟩ (.int .u8 (64+(20+(zo.length:Int))/4))).setCell ⟨g,1,none⟩ (.int .u8 tos)).setCell ⟨g,8,none⟩ (.int .u8 ttl)).setCell ⟨g,9,none⟩ (.int .u8 proto)).drew:=(hb2.trans (hb4.mono hb2.size)).trans (hb5.mono hb2.size);generalize ((((w4.setCell ⟨g,0,none⟩ (.int .u8 (64+(20+(zo.length:Int))/4))).setCell ⟨g,1,none⟩ (.int .u8 tos)).setCell ⟨g,8,none⟩ (.int .u8 ttl)).setCell ⟨g,9,none⟩ (.int .u8 proto)).drew=W5 at*;have hz4:=hb4.size;have hq5:w1.heap.size<W5.heap.size:=by omega
  have hq5':w.heap.size<W5.heap.size:=by omega
  have hl5:((((l0.set 0 (64+(20+(zo.length:Int))/4)).set 1 tos).set 8 ttl).set 9 proto).length=20+zo.length:=by simp only[List.length_set];exact hll
  unfold hd1 at HD;generalize (((l0.set 0 (64+(20+(zo.length:Int))/4)).set 1 tos).set 8 ttl).set 9 proto=l5 at*;have s1:=zA8 H1' 1;have b1:=zA8 H2' 1
  simp at s1 b1
  have hO5':=hO5.mono hbox2;clear x0 f0 x1 f1 x8 f8 x9 f9 b0 b3 b4 s0 H1 H2 HC HS hO4 hb5 hor hb4 hb3 hI2 hlen0 hlen9 hll hb2;go_wp2_with fail;refine(zBf _ l5 _ (20+zo.length+ld) _ (by omega) hO5.rd (by omega)).mono ?_;rintro e w6 ⟨a6,rfl,hO6,hb6⟩;rw[hl5]at hO6;have H1':=zAc (fun j=>(hb6.cell (p:=⟨w1.heap.size,j,none⟩) hq5).trans (zA8 H1' j));have H2':=zAc (fun j=>(hb6.cell (p:=⟨w.heap.size,j,none⟩) hq5').trans (zA8 H2' j));have hbW6:=hbW5.trans (hb6.mono hbW5.size);have hq6:=Nat.lt_of_lt_of_le hq5 hb6.size;have hq6':=Nat.lt_of_lt_of_le hq5' hb6.size;have hO6':=hO6.mono hbW5.size;have hl6:=(zBp l5 2 (20+zo.length+ld)).trans hl5;generalize zAq l5 2 (20+zo.length+ld)=l6 at*;clear hb6 hO5 hO5' hbW5;have b1:=zA8 H2' 1
  simp at b1
  go_wp2_with fail;refine(zBf _ l6 _ id _ (by omega) hO6.rd hid).mono ?_;rintro e w7 ⟨a7,rfl,hO7,hb7⟩;rw[hl6]at hO7;have H1':=zAc (fun j=>(hb7.cell (p:=⟨w1.heap.size,j,none⟩) hq6).trans (zA8 H1' j));have H2':=zAc (fun j=>(hb7.cell (p:=⟨w.heap.size,j,none⟩) hq6').trans (zA8 H2' j));have hbW7:=hbW6.trans (hb7.mono hbW6.size);have hq7:=Nat.lt_of_lt_of_le hq6 hb7.size;have hq7':=Nat.lt_of_lt_of_le hq6' hb7.size;have hO7':=hO7.mono hbW6.size;have hl7:=(zBp l6 4 id).trans hl6;generalize zAq l6 4 id=l7 at*;clear hb7 hO6 hO6' hbW6;have b2:=zA8 H2' 2
  simp at b2
  have b5:=zA8 H2' 5
  simp at b5
  cases keep
  ·rw[if_neg (by simp)]at HD
   go_wp2_with fail;refine(zCs _ l7 _ src _ (by omega) hO7.rd hsr).mono ?_;rintro e w8 ⟨a8,rfl,hO8,hb8⟩;rw[hl7]at hO8;have H1':=zAc (fun j=>(hb8.cell (p:=⟨w1.heap.size,j,none⟩) hq7).trans (zA8 H1' j));have H2':=zAc (fun j=>(hb8.cell (p:=⟨w.heap.size,j,none⟩) hq7').trans (zA8 H2' j));have hbW8:=hbW7.trans (hb8.mono hbW7.size);have hq8:=Nat.lt_of_lt_of_le hq7 hb8.size;have hq8':=Nat.lt_of_lt_of_le hq7' hb8.size;have hO8':=hO8.mono hbW7.size;have hl8:=(zBq l7 12 src).trans hl7;generalize zBw l7 12 src=l8 at*;clear hb8 hO7 hO7' hbW7;have b6:=zA8 H2' 6
   simp at b6
   go_wp2_with fail;refine(zCs _ l8 _ dst _ (by omega) hO8.rd hds).mono ?_;rintro e w9 ⟨a9,rfl,hO9,hb9⟩;rw[hl8]at hO9;have H1':=zAc (fun j=>(hb9.cell (p:=⟨w1.heap.size,j,none⟩) hq8).trans (zA8 H1' j));have H2':=zAc (fun j=>(hb9.cell (p:=⟨w.heap.size,j,none⟩) hq8').trans (zA8 H2' j));have hbW9:=hbW8.trans (hb9.mono hbW8.size);have hq9:=Nat.lt_of_lt_of_le hq8 hb9.size;have hq9':=Nat.lt_of_lt_of_le hq8' hb9.size;have hO9':=hO9.mono hbW8.size;have hl9:=(zBq l8 16 dst).trans hl8;generalize zBw l8 16 dst=l9 at*;clear hb9 hO8 hO8' hbW8;go_wp2_with fail;rw[←HD.out]at hO9 hl9;refine(zEy _ dd hBd (by omega) _ hO9.rd).mono ?_;rintro e w10 ⟨rfl,hb10⟩;have hO10:=hO9.below hb10 (Nat.le_refl _);have hbW10:=hbW9.trans (hb10.mono hbW9.size);clear HD;go_wp2_with fail;refine(zBf _ dd _ (Mt.cks dd) _ (by omega) hO10.rd hcb).mono ?_;rintro e w11 ⟨a11,rfl,hO11,hb11⟩;rw[hld]at hO11;go_wp2
   go_ret
   exact⟨_,rfl,by rw[HR.out];exact hO11.mono hbW10.size,hbW10.trans (hb11.mono hbW10.size)⟩
  ·rw[if_pos rfl]at HD
   go_wp2_with fail;refine(zBf _ l7 _ 16384 _ (by omega) hO7.rd (by omega)).mono ?_;rintro e w75 ⟨a75,rfl,hO75,hb75⟩;rw[hl7]at hO75;have H1':=zAc (fun j=>(hb75.cell (p:=⟨w1.heap.size,j,none⟩) hq7).trans (zA8 H1' j));have H2':=zAc (fun j=>(hb75.cell (p:=⟨w.heap.size,j,none⟩) hq7').trans (zA8 H2' j));have hbW75:=hbW7.trans (hb75.mono hbW7.size);have hq75:=Nat.lt_of_lt_of_le hq7 hb75.size;have hq75':=Nat.lt_of_lt_of_le hq7' hb75.size;have hO75':=hO75.mono hbW7.size;have hl75:=(zBp l7 6 16384).trans hl7;generalize zAq l7 6 16384=l75 at*;clear hb75 hO7 hO7' hbW7;have b5:=zA8 H2' 5
   simp at b5
   go_wp2_with fail;refine(zCs _ l75 _ src _ (by omega) hO75.rd hsr).mono ?_;rintro e w8 ⟨a8,rfl,hO8,hb8⟩;rw[hl75]at hO8;have H1':=zAc (fun j=>(hb8.cell (p:=⟨w1.heap.size,j,none⟩) hq75).trans (zA8 H1' j));have H2':=zAc (fun j=>(hb8.cell (p:=⟨w.heap.size,j,none⟩) hq75').trans (zA8 H2' j));have hbW8:=hbW75.trans (hb8.mono hbW75.size);have hq8:=Nat.lt_of_lt_of_le hq75 hb8.size;have hq8':=Nat.lt_of_lt_of_le hq75' hb8.size;have hO8':=hO8.mono hbW75.size;have hl8:=(zBq l75 12 src).trans hl75;generalize zBw l75 12 src=l8 at*;clear hb8 hO75 hO75' hbW75;have b6:=zA8 H2' 6
   simp at b6
   go_wp2_with fail;refine(zCs _ l8 _ dst _ (by omega) hO8.rd hds).mono ?_;rintro e w9 ⟨a9,rfl,hO9,hb9⟩;rw[hl8]at hO9;have H1':=zAc (fun j=>(hb9.cell (p:=⟨w1.heap.size,j,none⟩) hq8).trans (zA8 H1' j));have H2':=zAc (fun j=>(hb9.cell (p:=⟨w.heap.size,j,none⟩) hq8').trans (zA8 H2' j));have hbW9:=hbW8.trans (hb9.mono hbW8.size);have hq9:=Nat.lt_of_lt_of_le hq8 hb9.size;have hq9':=Nat.lt_of_lt_of_le hq8' hb9.size;have hO9':=hO9.mono hbW8.size;have hl9:=(zBq l8 16 dst).trans hl8;generalize zBw l8 16 dst=l9 at*;clear hb9 hO8 hO8' hbW8;go_wp2_with fail;rw[←HD.out]at hO9 hl9;refine(zEy _ dd hBd (by omega) _ hO9.rd).mono ?_;rintro e w10 ⟨rfl,hb10⟩;have hO10:=hO9.below hb10 (Nat.le_refl _);have hbW10:=hbW9.trans (hb10.mono hbW9.size);clear HD;go_wp2_with fail;refine(zBf _ dd _ (Mt.cks dd) _ (by omega) hO10.rd hcb).mono ?_;rintro e w11 ⟨a11,rfl,hO11,hb11⟩;rw[hld]at hO11;go_wp2
   go_ret
   exact⟨_,rfl,by rw[HR.out];exact hO11.mono hbW10.size,hbW10.trans (hb11.mono hbW10.size)⟩
theorem app_nil {P:Program} (w:World)(t ty e:TypeId)(i:TypeInfo)(ht:P.underlying t=some (.slice e))(hi:P.info? e=some i)(g n:Nat):(Builtin.append_ #[t,t] ty #[.slice (some ⟨g,0,none⟩) n n,.slice none 0 0]).run P w= .ok (.slice (some ⟨g,0,none⟩) n n) w:=by
 simp[Builtin.append_,run_underlying ht,sizeOf,typeInfo,hi,Builtin.lenOf,Builtin.firstCells,storeCells]
theorem zD9 {P:Program} (w:World)(t ty:TypeId)(base:Nat)(i:TypeInfo)(ht:P.underlying t=some (.slice 5))(hi:P.info? 5=some i)(hz:i.zero=some (.int .u8 0))(hsize:i.size=1)(hby:i.bytes=1)
  (a:Option Addr)(n:Nat)(ys:List Int)(hO:Ow base w (.slice a n n) ys)(hne:0<ys.length)
  (n₀:Nat)(sx:Value)(zs:List Int)(hI:Rd n₀ w sx zs)(hbd:ys.length+zs.length≤140737488355328)(hbase:base≤w.heap.size):
  ∃v' w',(Builtin.append_ #[t,t] ty #[.slice a n n,sx]).run P w= .ok v' w'∧Ow base w' v' (ys++zs)∧Below w.heap.size w w':=by
 obtain⟨g,rfl,rfl,hg,hcf,_⟩:=hO.at hne;rcases hI with⟨ao,cap,rfl,rfl,hm,hn⟩|⟨b,off,cap,rfl,hze,hl,hm,hb,hc⟩
 ·refine ⟨.slice (some ⟨g,0,none⟩) ys.length ys.length,w,?_,by rw[List.append_nil];exact hO,Below.refl _ _⟩
  cases ao with
  |none=>
   obtain rfl:=hn rfl;exact app_nil w t ty 5 i ht hi g _
  |some ad=>
   have:=run_append_room_cells (P:=P) w t ty 5 i ht hi g 0 ys.length ys.length ad 0 cap [] (by simp) (fun j u hj=>by simp at hj) (fun u hu=>by simp at hu) (by omega) (fun j hj=>by simp at hj) (fun j hj=>by simp at hj);exact this
 ·have hz0:0<zs.length:=by cases zs with|nil=>exact absurd rfl hze|cons _ _=>simp
  obtain⟨v',w',hr,h2,h3⟩:=run_append_arg_grows (P:=P) w t ty 5 i (.int .u8 0) 1 1 ht hi hz hsize hby rfl (by decide) ⟨g,0,none⟩ ys.length ys.length (ys.map (Value.int .u8)) (by simp)
   (fun j u hj=>by
    have hj':j<ys.length:=by have:=(List.getElem?_eq_some_iff.1 hj).1;simpa using this
    rw[show (⟨g,0,none⟩:Addr).add j=⟨g,j,none⟩from by unfold Addr.add;split<;>simp_all,(hcf j hj').1,←hj];simp[hj'])
   ⟨b,off,none⟩ zs.length cap (zs.map (Value.int .u8)) (by simp)
   (fun j u hj=>by
    have hj':j<zs.length:=by have:=(List.getElem?_eq_some_iff.1 hj).1;simpa using this
    rw[show (⟨b,off,none⟩:Addr).add j=⟨b,off+j,none⟩from by unfold Addr.add;split<;>simp_all,hc j hj',←hj];simp[hj'])
   (by omega) (by unfold maxLen;omega) (by omega)
  rw[←List.map_append]at h2;exact⟨v',w',hr,(Ow.of_row h2).mono hbase,(Below.refl _ w).grown h3 (Nat.le_refl _) (fun _ e=>by cases e)⟩
theorem zCg(tos id ttl proto src dst:Int)(keep:Bool)(so sd:Value)(zo zd:List Int)(w:World)(hBo:Mt.By zo)(hIo:Rd w.heap.size w so zo)(hId:Rd w.heap.size w sd zd)
  (hlo:zo.length≤40)(hlm:zo.length % 4=0)(hall:20+zo.length+zd.length≤65535)(ht:0≤tos∧tos≤255)(hid:0≤id∧id≤65535)(htt:0≤ttl∧ttl≤255)(hpr:0≤proto∧proto≤255)(hsr:0≤src∧src≤4294967295)(hds:0≤dst∧dst≤4294967295):
  Calls Tryz.prog 24 #[.agg #[.int .u8 tos,.int .u16 id,.bool keep,.int .u8 ttl,.int .u8 proto,.int .u32 src,.int .u32 dst,so,sd]] w fun e w'=>∃v,e= .returned (.tuple #[v,.int .i64 0])∧Ow w.heap.size w' v (hdr tos id keep ttl proto src dst zo (20+zo.length+zd.length)++zd)∧Below w.heap.size w w':=by
 obtain⟨i0,hi,hz0,hz1,hz2⟩:=info_parts zBi;obtain⟨ao,co,rfl,hl1,hm1⟩:=hIo.slice;obtain⟨ad,cd,rfl,hl2,hm2⟩:=hId.slice;have hbox:Below w.heap.size w (w.alloc (.cells #[.int .u8 tos,.int .u16 id,.bool keep,.int .u8 ttl,.int .u8 proto,.int .u32 src,.int .u32 dst,.slice ao zo.length co,.slice ad zd.length cd] 40)):=bA _ _;have hcell:=zDp w #[.int .u8 tos,.int .u16 id,.bool keep,.int .u8 ttl,.int .u8 proto,.int .u32 src,.int .u32 dst,.slice ao zo.length co,.slice ad zd.length cd] 40;have HF:Hid (flt zo.length zd.length=0):=by show _=_;unfold flt;rw[if_neg (by omega),if_neg (by omega)]
 have hlh:(hdr tos id keep ttl proto src dst zo (20+zo.length+zd.length)).length=20+zo.length:=by unfold hdr;rw[zBp,zF1]
 go_enter Tryz.func24,Tryz.ntmps24;go_wp2_with fail;refine(zH1 tos id ttl proto src dst keep ao ad zo.length co zd.length cd _ (by omega) (by omega)).mono ?_;rintro e w1 ⟨rfl,hb1⟩;rw[HF.out];have hbc:∀j,w1.cell? ⟨w.heap.size,j,none⟩=#[Value.int .u8 tos,.int .u16 id,.bool keep,.int .u8 ttl,.int .u8 proto,.int .u32 src,.int .u32 dst,.slice ao zo.length co,.slice ad zd.length cd][j]? :=fun j=>(hb1.cell (p:=⟨w.heap.size,j,none⟩) (by simp)).trans (hcell j);have hw1:=hbox.trans (hb1.mono (by simp));have hs1:w.heap.size<w1.heap.size:=by have:=hb1.size;simp at this;omega
 have hIo1:=(hIo.below hw1).mono hw1.size;have hId1:=(hId.below hw1).mono hw1.size;have b0:=hbc 0;have b1:=hbc 1;have b2:=hbc 2;have b3:=hbc 3;have b4:=hbc 4;have b5:=hbc 5;have b6:=hbc 6;have b7:=hbc 7;have b8:=hbc 8
 simp at b0 b1 b2 b3 b4 b5 b6 b7 b8
 clear hcell hbc hbox hb1 HF;go_wp2_with fail
 go_region_law (first
  |(refine zMe rfl (.tmp 11) (.tmp 13) 26 rfl _ _ rfl rfl v5 w5 hrun ?_)
  |(go_simp;go_at_call 66;refine(zNl tos id ttl proto src dst keep _ zo ad zd.length cd w1.drew hBo (hIo1.drew 1) hlo hlm hall ht hid htt hpr hsr hds).mono ?_;rintro e w4 ⟨a4,rfl,hO4,hb4⟩;have c8:w4.cell? ⟨w.heap.size,8,none⟩=some (.slice ad zd.length cd):=(hb4.cell (p:=⟨w.heap.size,8,none⟩) hs1).trans b8;obtain⟨v5,w5,hrun,hO5,hb5⟩:=zD9 (P:=Tryz.prog) w4 26 26 w1.heap.size i0 Tryz.underlying26 hi hz0 hz1 hz2 a4 (20+zo.length) _ hO4 (by omega) w1.heap.size _ zd ((hId1.drew 1).below hb4) (by omega) hb4.size;dsimp only))
 all_goals go_wp2
 all_goals go_ret2
 all_goals
  have hbW:=(zAm hw1 1).trans (hb4.mono hw1.size);exact⟨_,rfl,hO5.mono hw1.size,hbW.trans (hb5.mono hbW.size)⟩
theorem zG1(tos id ttl proto src dst:Int)(keep:Bool)(ao ad:Option Addr)(lo co ld cd:Nat)(w:World)(h1:lo≤140737488355328)(h2:ld≤140737488355328)(hf:flt lo ld≠0):
  Calls Tryz.prog 24 #[.agg #[.int .u8 tos,.int .u16 id,.bool keep,.int .u8 ttl,.int .u8 proto,.int .u32 src,.int .u32 dst,.slice ao lo co,.slice ad ld cd]] w fun e w'=>e= .returned (.tuple #[.slice none 0 0,.int .i64 (flt lo ld)])∧Below w.heap.size w w':=by
 have hbox:Below w.heap.size w (w.alloc (.cells #[.int .u8 tos,.int .u16 id,.bool keep,.int .u8 ttl,.int .u8 proto,.int .u32 src,.int .u32 dst,.slice ao lo co,.slice ad ld cd] 40)):=bA _ _;have hf':(flt lo ld !=0)=true:=by simp[hf]
 go_enter Tryz.func24,Tryz.ntmps24;go_wp2_with fail;refine(zH1 tos id ttl proto src dst keep ao ad lo co ld cd _ h1 h2).mono ?_;rintro e w1 ⟨rfl,hb1⟩;clear hf;go_wp2
 go_ret2
 exact⟨rfl,hbox.trans (hb1.mono (by simp))⟩
end Go.Proofs.YteaeilghamjjkaaGreatDoor
