import Derived.Test.YteaeilghamjjkaaGreatDoorX23
import Derived.ChangeKeysEq
import Derived.Laws.Cover3
namespace Go.Proofs.YteaeilghamjjkaaGreatDoor
set_option maxHeartbeats 4000000
open Go.RowKit Go.Shelf
set_option maxRecDepth 100000
set_option linter.unusedVariables false
set_option linter.unusedSimpArgs false
def tab:List Int:=[32,1,136,11,48,1,136,11,32,129,136,11,48,129,136,11]
def Tb (w:World):Prop:=∀i,i<16→w.cell? ⟨0,i,none⟩=some (.int .u8 (tab[i]?.getD 0))
theorem Tb.pos {w:World} (h:Tb w):0<w.heap.size:=World.block_lt_of_cell? w ⟨0,0,none⟩ (h 0 (by omega))
theorem Tb.below {w w':World} {n:Nat} (h:Tb w)(hb:Below n w w')(hn:0<n):Tb w':=fun i hi=>(hb.cell (p:=⟨0,i,none⟩) hn).trans (h i hi)
theorem equalIn_u8(dd:Nat)(x y:Int)(w:World):(Op.equalIn (dd+1) 5 (.int .u8 x) (.int .u8 y)).run Tryz.prog w= .ok (x==y) w:=by
 have hu:=Tryz.underlying5;simp[Op.equalIn,run_underlying hu]
theorem eqItems_u8(j:Nat)(is:List Nat)(xs ys:Array Value)(x y:Int)(w:World)(hx:xs[j]? =some (.int .u8 x))(hy:ys[j]? =some (.int .u8 y)):
  (Op.eqItems 9999 5 1 xs ys (j::is)).run Tryz.prog w=if(x==y)=true then(Op.eqItems 9999 5 1 xs ys is).run Tryz.prog w else .ok false w:=by
 obtain⟨i0,hi,hz0,hz1,hz2⟩:=info_parts zBt;have hu:=Tryz.underlying5
 have hpx:(part 5 xs (j*1)).run Tryz.prog w= .ok (.int .u8 x) w:=by
  obtain⟨hlt,hxe⟩:=Array.getElem?_eq_some_iff.1 hx;simp[part,run_sizeOf w hi,hz1,hx,hlt,hxe,go_sem]
 have hpy:(part 5 ys (j*1)).run Tryz.prog w= .ok (.int .u8 y) w:=by
  obtain⟨hlt,hxe⟩:=Array.getElem?_eq_some_iff.1 hy;simp[part,run_sizeOf w hi,hz1,hy,hlt,hxe,go_sem]
 have he:(Op.equalIn 9999 5 (.int .u8 x) (.int .u8 y)).run Tryz.prog w= .ok (x==y) w:=equalIn_u8 9998 x y w;simp only[Op.eqItems,Sem.run_bind,hpx,hpy,he,Result.andThen_ok];cases (x==y)<;>simp
theorem zPe(a b c d x y z u:Int)(w:World):(Op.equalIn 10000 167 (.agg #[.int .u8 a,.int .u8 b,.int .u8 c,.int .u8 d]) (.agg #[.int .u8 x,.int .u8 y,.int .u8 z,.int .u8 u])).run Tryz.prog w= .ok (a==x && (b==y && (c==z && d==u))) w:=by
 obtain⟨i0,hi,hz0,hz1,hz2⟩:=info_parts zBt;have hc:Tryz.prog.cellsOf 5=1:=by kernel_rfl
 have h:=run_equalIn_array (P:=Tryz.prog) (w:=w) 9999 #[.int .u8 a,.int .u8 b,.int .u8 c,.int .u8 d] #[.int .u8 x,.int .u8 y,.int .u8 z,.int .u8 u] Tryz.underlying167 hi;rw[hc,show List.range 4=[0,1,2,3]from rfl,eqItems_u8 0 _ _ _ a x w rfl rfl,eqItems_u8 1 _ _ _ b y w rfl rfl,eqItems_u8 2 _ _ _ c z w rfl rfl,eqItems_u8 3 _ _ _ d u w rfl rfl]at h;rw[h];cases (a==x)<;>cases (b==y)<;>cases (c==z)<;>cases (d==u)<;>simp[Op.eqItems]
theorem idx_0(w:World):(Instr.index 188 (.agg #[.int .u8 32,.int .u8 1,.int .u8 136,.int .u8 11,.int .u8 48,.int .u8 1,.int .u8 136,.int .u8 11,.int .u8 32,.int .u8 129,.int .u8 136,.int .u8 11,.int .u8 48,.int .u8 129,.int .u8 136,.int .u8 11]) (.int .i64 0)).run Tryz.prog w= .ok (.agg #[.int .u8 32,.int .u8 1,.int .u8 136,.int .u8 11]) w:=by kernel_rfl
theorem idx_1(w:World):(Instr.index 188 (.agg #[.int .u8 32,.int .u8 1,.int .u8 136,.int .u8 11,.int .u8 48,.int .u8 1,.int .u8 136,.int .u8 11,.int .u8 32,.int .u8 129,.int .u8 136,.int .u8 11,.int .u8 48,.int .u8 129,.int .u8 136,.int .u8 11]) (.int .i64 1)).run Tryz.prog w= .ok (.agg #[.int .u8 48,.int .u8 1,.int .u8 136,.int .u8 11]) w:=by kernel_rfl
theorem idx_2(w:World):(Instr.index 188 (.agg #[.int .u8 32,.int .u8 1,.int .u8 136,.int .u8 11,.int .u8 48,.int .u8 1,.int .u8 136,.int .u8 11,.int .u8 32,.int .u8 129,.int .u8 136,.int .u8 11,.int .u8 48,.int .u8 129,.int .u8 136,.int .u8 11]) (.int .i64 2)).run Tryz.prog w= .ok (.agg #[.int .u8 32,.int .u8 129,.int .u8 136,.int .u8 11]) w:=by kernel_rfl
theorem idx_3(w:World):(Instr.index 188 (.agg #[.int .u8 32,.int .u8 1,.int .u8 136,.int .u8 11,.int .u8 48,.int .u8 1,.int .u8 136,.int .u8 11,.int .u8 32,.int .u8 129,.int .u8 136,.int .u8 11,.int .u8 48,.int .u8 129,.int .u8 136,.int .u8 11]) (.int .i64 3)).run Tryz.prog w= .ok (.agg #[.int .u8 48,.int .u8 129,.int .u8 136,.int .u8 11]) w:=by kernel_rfl
def zHe (e0 e1 e2 e3:Bool):Nat:=bif e0 then 0 else bif e1 then 1 else bif e2 then 2 else bif e3 then 3 else 4
theorem pick4_le:∀(e0 e1 e2 e3:Bool),zHe e0 e1 e2 e3≤4:=by decide
theorem pick4_0:∀(e0 e1 e2 e3:Bool),0≤zHe e0 e1 e2 e3→e0=decide (zHe e0 e1 e2 e3=0):=by decide
theorem pick4_1:∀(e0 e1 e2 e3:Bool),1≤zHe e0 e1 e2 e3→e1=decide (zHe e0 e1 e2 e3=1):=by decide
theorem pick4_2:∀(e0 e1 e2 e3:Bool),2≤zHe e0 e1 e2 e3→e2=decide (zHe e0 e1 e2 e3=2):=by decide
theorem pick4_3:∀(e0 e1 e2 e3:Bool),3≤zHe e0 e1 e2 e3→e3=decide (zHe e0 e1 e2 e3=3):=by decide
def bgo (a b c d:Int):Nat:=zHe (a==32 && (b==1 && (c==136 && d==11))) (a==48 && (b==1 && (c==136 && d==11))) (a==32 && (b==129 && (c==136 && d==11))) (a==48 && (b==129 && (c==136 && d==11)))
def bgv (n:Nat):Int:=if n=4 then 0 else n
def bgk (n:Nat):Bool:=n !=4
theorem bgo_le(a b c d:Int):bgo a b c d≤4:=pick4_le _ _ _ _
theorem bgo_0(a b c d:Int)(h:0≤bgo a b c d):(a==32 && (b==1 && (c==136 && d==11)))=decide (bgo a b c d=0):=pick4_0 _ _ _ _ h
theorem bgo_1(a b c d:Int)(h:1≤bgo a b c d):(a==48 && (b==1 && (c==136 && d==11)))=decide (bgo a b c d=1):=pick4_1 _ _ _ _ h
theorem bgo_2(a b c d:Int)(h:2≤bgo a b c d):(a==32 && (b==129 && (c==136 && d==11)))=decide (bgo a b c d=2):=pick4_2 _ _ _ _ h
theorem bgo_3(a b c d:Int)(h:3≤bgo a b c d):(a==48 && (b==129 && (c==136 && d==11)))=decide (bgo a b c d=3):=pick4_3 _ _ _ _ h
theorem zQ3(a b c d:Int)(w:World)(hT:Tb w):
  Calls Tryz.prog 88 #[.agg #[.int .u8 a,.int .u8 b,.int .u8 c,.int .u8 d]] w fun e w'=>e= .returned (.tuple #[.int .i64 (bgv (bgo a b c d)),.bool (bgk (bgo a b c d))])∧Below w.heap.size w w':=by
 have hb0:Below w.heap.size w (w.alloc (.cells #[.int .u8 a,.int .u8 b,.int .u8 c,.int .u8 d] 167)):=bA _ _;have hk0:=heap_alloc_new w (.cells #[.int .u8 a,.int .u8 b,.int .u8 c,.int .u8 d] 167);have HK:=zAd hk0;clear hk0;have hT0:=hT.below hb0 hT.pos;have t0:=hT0 0 (by omega);have t1:=hT0 1 (by omega);have t2:=hT0 2 (by omega);have t3:=hT0 3 (by omega);have t4:=hT0 4 (by omega);have t5:=hT0 5 (by omega);have t6:=hT0 6 (by omega);have t7:=hT0 7 (by omega);have t8:=hT0 8 (by omega);have t9:=hT0 9 (by omega);have t10:=hT0 10 (by omega);have t11:=hT0 11 (by omega);have t12:=hT0 12 (by omega);have t13:=hT0 13 (by omega);have t14:=hT0 14 (by omega);have t15:=hT0 15 (by omega);simp[tab]at t0 t1 t2 t3 t4 t5 t6 t7 t8 t9 t10 t11 t12 t13 t14 t15
 have hle:=bgo_le a b c d;go_enter Tryz.func88,Tryz.ntmps88;go_wp2
 clear t0 t1 t2 t3 t4 t5 t6 t7 t8 t9 t10 t11 t12 t13 t14 t15
 go_loopw [7] (fun i wr=>∃k:Nat,k≤4∧i= .int .i64 (k:Int)∧k≤bgo a b c d∧wr.heap[w.heap.size]? =some (.cells #[.int .u8 a,.int .u8 b,.int .u8 c,.int .u8 d] 167 (0,0))∧Below w.heap.size w wr)
  (fun i _=>4-(intOf i).toNat)
 case atStart=>exact⟨0,by omega,rfl,by omega,HK.out,hb0⟩
 case round=>
  obtain⟨k,hk4,rfl,hkb,hbk,hnx⟩:=hrel;have hcase:k=4∨k=0∨k=1∨k=2∨k=3:=by omega
  rcases hcase with rfl|rfl|rfl|rfl|rfl
  ·have hd:bgo a b c d=4:=by omega
   have HD:=zAd hd;clear hd hle hkb;go_wp2
   go_ret2
   exact⟨by first|rfl|(rw[HD.out];rfl),hnx⟩
  ·have hE:=bgo_0 a b c d (by omega)
   have hq:=zPe a b c d 32 1 136 11 (wr.alloc (.cells #[.int .u8 32,.int .u8 1,.int .u8 136,.int .u8 11] 167));rw[hE]at hq;have hbA:=hnx.alloc hnx.size (.cells #[.int .u8 32,.int .u8 1,.int .u8 136,.int .u8 11] 167);have hkA:=(Below.heap_alloc wr (.cells #[.int .u8 32,.int .u8 1,.int .u8 136,.int .u8 11] 167) _ (bl9 hbk)).trans hbk;have K:=zAa hkA;have hix:=idx_0 wr;clear hE;by_cases hd:bgo a b c d=0
   ·rw[decide_eq_true hd]at hq
    have HD:=zAd hd;clear hd;go_wp2
    go_ret2
    exact⟨by first|rfl|(rw[HD.out];rfl),hbA⟩
   ·rw[decide_eq_false hd]at hq
    go_wp2
    go_roundw
    case rel=>exact⟨1,by omega,by go_num,by omega,hkA,hbA⟩
    case measure=>simp[intOf]
  ·have hE:=bgo_1 a b c d (by omega)
   have hq:=zPe a b c d 48 1 136 11 (wr.alloc (.cells #[.int .u8 48,.int .u8 1,.int .u8 136,.int .u8 11] 167));rw[hE]at hq;have hbA:=hnx.alloc hnx.size (.cells #[.int .u8 48,.int .u8 1,.int .u8 136,.int .u8 11] 167);have hkA:=(Below.heap_alloc wr (.cells #[.int .u8 48,.int .u8 1,.int .u8 136,.int .u8 11] 167) _ (bl9 hbk)).trans hbk;have K:=zAa hkA;have hix:=idx_1 wr;clear hE;by_cases hd:bgo a b c d=1
   ·rw[decide_eq_true hd]at hq
    have HD:=zAd hd;clear hd;go_wp2
    go_ret2
    exact⟨by first|rfl|(rw[HD.out];rfl),hbA⟩
   ·rw[decide_eq_false hd]at hq
    go_wp2
    go_roundw
    case rel=>exact⟨2,by omega,by go_num,by omega,hkA,hbA⟩
    case measure=>simp[intOf]
  ·have hE:=bgo_2 a b c d (by omega)
   have hq:=zPe a b c d 32 129 136 11 (wr.alloc (.cells #[.int .u8 32,.int .u8 129,.int .u8 136,.int .u8 11] 167));rw[hE]at hq;have hbA:=hnx.alloc hnx.size (.cells #[.int .u8 32,.int .u8 129,.int .u8 136,.int .u8 11] 167);have hkA:=(Below.heap_alloc wr (.cells #[.int .u8 32,.int .u8 129,.int .u8 136,.int .u8 11] 167) _ (bl9 hbk)).trans hbk;have K:=zAa hkA;have hix:=idx_2 wr;clear hE;by_cases hd:bgo a b c d=2
   ·rw[decide_eq_true hd]at hq
    have HD:=zAd hd;clear hd;go_wp2
    go_ret2
    exact⟨by first|rfl|(rw[HD.out];rfl),hbA⟩
   ·rw[decide_eq_false hd]at hq
    go_wp2
    go_roundw
    case rel=>exact⟨3,by omega,by go_num,by omega,hkA,hbA⟩
    case measure=>simp[intOf]
  ·have hE:=bgo_3 a b c d (by omega)
   have hq:=zPe a b c d 48 129 136 11 (wr.alloc (.cells #[.int .u8 48,.int .u8 129,.int .u8 136,.int .u8 11] 167));rw[hE]at hq;have hbA:=hnx.alloc hnx.size (.cells #[.int .u8 48,.int .u8 129,.int .u8 136,.int .u8 11] 167);have hkA:=(Below.heap_alloc wr (.cells #[.int .u8 48,.int .u8 129,.int .u8 136,.int .u8 11] 167) _ (bl9 hbk)).trans hbk;have K:=zAa hkA;have hix:=idx_3 wr;clear hE;by_cases hd:bgo a b c d=3
   ·rw[decide_eq_true hd]at hq
    have HD:=zAd hd;clear hd;go_wp2
    go_ret2
    exact⟨by first|rfl|(rw[HD.out];rfl),hbA⟩
   ·rw[decide_eq_false hd]at hq
    go_wp2
    go_roundw
    case rel=>exact⟨4,by omega,by go_num,by omega,hkA,hbA⟩
    case measure=>simp[intOf]
abbrev zf:List Value:=[.int .u16 0,.bool false,.bool false,.int .u32 0,.int .u32 0,.slice none 0 0]
theorem zMq(sv:Value)(zs:List Int)(hB:Mt.By zs)(w:World)(hI:Rd w.heap.size w sv zs):
  Calls Tryz.prog 89 #[sv,.int .i64 0] w fun e w'=>e= .returned (.tuple #[.agg #[.int .u16 (zAp zs 6),.bool false,.bool false,.int .u32 0,.int .u32 0,.slice none 0 0],.int .i64 8])∧Below w.heap.size w w':=by
 obtain⟨a,cap,rfl,hl1,hm1⟩:=hI.slice;have hb0:Below w.heap.size w (w.alloc (.cells zf.toArray 114)):=bA _ _;have r0:=heap_alloc_new w (.cells zf.toArray 114);have R0:=zAd r0;clear r0;have a1:bits .and .i64 0 1=0:=by decide+kernel
 have a2:bits .and .i64 0 2=0:=by decide+kernel
 go_enter Tryz.func89,Tryz.ntmps89;go_wp2_with fail;refine(zDt _ zs hB 6 _ (hI.below hb0)).mono ?_;rintro e w1 ⟨rfl,q1,hq1⟩;have hw1:Below w.heap.size w w1:=by rw[hq1];exact zAk hb0 q1
 have r1:w1.heap[w.heap.size]? =some (.cells zf.toArray 114 (0,0)):=by rw[hq1];exact R0.out
 have hs1:w.heap.size<w1.heap.size:=(bl9 r1);clear hq1 R0;have C1:=zAa r1;have D1:=zAc r1;go_wp2_with fail;generalize hV:World.setCell _ ⟨w.heap.size,5,none⟩ _=V8;have hV9:V8=zAi w1 w.heap.size 0 [.int .u16 (zAp zs 6),.bool false,.bool false,.int .u32 0,.int .u32 0,.slice none 0 0]:=hV.symm;have hb8:But (fun b=>b=w.heap.size) w1 V8:=by rw[hV9];exact zAf (E:=fun b=>b=w.heap.size) (n:=w.heap.size) rfl _ _ _ _ (But.refl _ _)
 have p8:=zAe [.int .u16 (zAp zs 6),.bool false,.bool false,.int .u32 0,.int .u32 0,.slice none 0 0] r1 rfl;rw[←hV9]at p8;clear hV hV9 C1 D1;have hw8:Below w.heap.size w V8:=hw1.trans (hb8.below hw1.size (fun k h e=>by omega));have p9:=(Below.heap_alloc V8 (.cells #[.int .u16 (zAp zs 6),.bool false,.bool false,.int .u32 0,.int .u32 0,.slice none 0 0] 114) _ (bl9 p8)).trans p8;have P9:=zAa p9;exact bodyPost_ret (v:= .tuple #[.agg #[.int .u16 (zAp zs 6),.bool false,.bool false,.int .u32 0,.int .u32 0,.slice none 0 0],.int .i64 8]) (by simp[results,Tryz.results89,go_sem,P9]) rfl ⟨rfl,hw8.alloc hw8.size _⟩
theorem zMr(sv:Value)(zs:List Int)(hB:Mt.By zs)(w:World)(hI:Rd w.heap.size w sv zs):
  Calls Tryz.prog 89 #[sv,.int .i64 1] w fun e w'=>e= .returned (.tuple #[.agg #[.int .u16 (zAp zs 6),.bool true,.bool false,.int .u32 (zAw zs 8),.int .u32 0,.slice none 0 0],.int .i64 12])∧Below w.heap.size w w':=by
 obtain⟨a,cap,rfl,hl1,hm1⟩:=hI.slice;have hb0:Below w.heap.size w (w.alloc (.cells zf.toArray 114)):=bA _ _;have r0:=heap_alloc_new w (.cells zf.toArray 114);have R0:=zAd r0;clear r0;have a1:bits .and .i64 1 1=1:=by decide+kernel
 have a2:bits .and .i64 1 2=0:=by decide+kernel
 go_enter Tryz.func89,Tryz.ntmps89;go_wp2_with fail;refine(zDt _ zs hB 6 _ (hI.below hb0)).mono ?_;rintro e w1 ⟨rfl,q1,hq1⟩;have hw1:Below w.heap.size w w1:=by rw[hq1];exact zAk hb0 q1
 have r1:w1.heap[w.heap.size]? =some (.cells zf.toArray 114 (0,0)):=by rw[hq1];exact R0.out
 have hs1:w.heap.size<w1.heap.size:=(bl9 r1);clear hq1 R0;have C1:=zAa r1;have D1:=zAc r1;have hA:=(Below.refl w1.heap.size w1).alloc (Nat.le_refl _) (.cells #[.int .u16 (zAp zs 6),.bool true,.bool false,.int .u32 0,.int .u32 0,.slice none 0 0] 114);have f2:=heap_alloc_new w1 (.cells #[.int .u16 (zAp zs 6),.bool true,.bool false,.int .u32 0,.int .u32 0,.slice none 0 0] 114);go_wp2_with fail;generalize w1.alloc (.cells #[.int .u16 (zAp zs 6),.bool true,.bool false,.int .u32 0,.int .u32 0,.slice none 0 0] 114)=w2 at*;have hw2:=hw1.trans (hA.mono hw1.size);have r2:=(hA.block w.heap.size hs1).trans r1;clear C1 D1;refine(zEl _ zs hB 8 _ (hI.below hw2)).mono ?_;rintro e w3 ⟨rfl,q3,hq3⟩;have hw3:Below w.heap.size w w3:=by rw[hq3];exact zAk hw2 q3
 have r3:w3.heap[w.heap.size]? =some (.cells zf.toArray 114 (0,0)):=by rw[hq3];exact r2
 have f3:w3.heap[w1.heap.size]? =some (.cells #[.int .u16 (zAp zs 6),.bool true,.bool false,.int .u32 0,.int .u32 0,.slice none 0 0] 114 (0,0)):=by rw[hq3];exact f2
 clear hq3;have K3:=zAa f3;have L3:=zAc f3;have f4:=zAh f3 3 (.int .u32 (zAw zs 8));have hw4:=hw3.setCell (p:=⟨w1.heap.size,3,none⟩) (Nat.le_of_lt hs1) (.int .u32 (zAw zs 8));have r4:=(Below.heap_setCell w3 ⟨w1.heap.size,3,none⟩ (.int .u32 (zAw zs 8)) w.heap.size (by simp;omega)).trans r3;have R4:=zAa r4;have S4:=zAc r4;have hne:¬w1.heap.size=w.heap.size:=by omega
 have hne2:¬w.heap.size=w1.heap.size:=by omega
 go_wp2_with fail;generalize w3.setCell ⟨w1.heap.size,3,none⟩ (.int .u32 (zAw zs 8))=w4 at*;clear K3 L3;generalize hV:World.setCell _ ⟨w.heap.size,5,none⟩ _=V8;have hV9:V8=zAi w4 w.heap.size 0 [.int .u16 (zAp zs 6),.bool true,.bool false,.int .u32 (zAw zs 8),.int .u32 0,.slice none 0 0]:=hV.symm;have hb8:But (fun b=>b=w.heap.size) w4 V8:=by rw[hV9];exact zAf (E:=fun b=>b=w.heap.size) (n:=w.heap.size) rfl _ _ _ _ (But.refl _ _)
 have p8:=zAe [.int .u16 (zAp zs 6),.bool true,.bool false,.int .u32 (zAw zs 8),.int .u32 0,.slice none 0 0] r4 rfl;rw[←hV9]at p8;clear hV hV9 R4 S4;have P8:=zAa p8;have hw8:Below w.heap.size w V8:=hw4.trans (hb8.below hw4.size (fun k h e=>by omega));exact bodyPost_ret (v:= .tuple #[.agg #[.int .u16 (zAp zs 6),.bool true,.bool false,.int .u32 (zAw zs 8),.int .u32 0,.slice none 0 0],.int .i64 12]) (by simp[results,Tryz.results89,go_sem,P8]) rfl ⟨rfl,hw8⟩
theorem zMs(sv:Value)(zs:List Int)(hB:Mt.By zs)(w:World)(hI:Rd w.heap.size w sv zs):
  Calls Tryz.prog 89 #[sv,.int .i64 2] w fun e w'=>e= .returned (.tuple #[.agg #[.int .u16 (zAp zs 6),.bool false,.bool true,.int .u32 0,.int .u32 (zAw zs 8),.slice none 0 0],.int .i64 12])∧Below w.heap.size w w':=by
 obtain⟨a,cap,rfl,hl1,hm1⟩:=hI.slice;have hb0:Below w.heap.size w (w.alloc (.cells zf.toArray 114)):=bA _ _;have r0:=heap_alloc_new w (.cells zf.toArray 114);have R0:=zAd r0;clear r0;have a1:bits .and .i64 2 1=0:=by decide+kernel
 have a2:bits .and .i64 2 2=2:=by decide+kernel
 go_enter Tryz.func89,Tryz.ntmps89;go_wp2_with fail;refine(zDt _ zs hB 6 _ (hI.below hb0)).mono ?_;rintro e w1 ⟨rfl,q1,hq1⟩;have hw1:Below w.heap.size w w1:=by rw[hq1];exact zAk hb0 q1
 have r1:w1.heap[w.heap.size]? =some (.cells zf.toArray 114 (0,0)):=by rw[hq1];exact R0.out
 have hs1:w.heap.size<w1.heap.size:=(bl9 r1);clear hq1 R0;have C1:=zAa r1;have D1:=zAc r1;have hA:=(Below.refl w1.heap.size w1).alloc (Nat.le_refl _) (.cells #[.int .u16 (zAp zs 6),.bool false,.bool true,.int .u32 0,.int .u32 0,.slice none 0 0] 114);have f2:=heap_alloc_new w1 (.cells #[.int .u16 (zAp zs 6),.bool false,.bool true,.int .u32 0,.int .u32 0,.slice none 0 0] 114);go_wp2_with fail;generalize w1.alloc (.cells #[.int .u16 (zAp zs 6),.bool false,.bool true,.int .u32 0,.int .u32 0,.slice none 0 0] 114)=w2 at*;have hw2:=hw1.trans (hA.mono hw1.size);have r2:=(hA.block w.heap.size hs1).trans r1;clear C1 D1;refine(zEl _ zs hB 8 _ (hI.below hw2)).mono ?_;rintro e w3 ⟨rfl,q3,hq3⟩;have hw3:Below w.heap.size w w3:=by rw[hq3];exact zAk hw2 q3
 have r3:w3.heap[w.heap.size]? =some (.cells zf.toArray 114 (0,0)):=by rw[hq3];exact r2
 have f3:w3.heap[w1.heap.size]? =some (.cells #[.int .u16 (zAp zs 6),.bool false,.bool true,.int .u32 0,.int .u32 0,.slice none 0 0] 114 (0,0)):=by rw[hq3];exact f2
 clear hq3;have K3:=zAa f3;have L3:=zAc f3;have f4:=zAh f3 4 (.int .u32 (zAw zs 8));have hw4:=hw3.setCell (p:=⟨w1.heap.size,4,none⟩) (Nat.le_of_lt hs1) (.int .u32 (zAw zs 8));have r4:=(Below.heap_setCell w3 ⟨w1.heap.size,4,none⟩ (.int .u32 (zAw zs 8)) w.heap.size (by simp;omega)).trans r3;have R4:=zAa r4;have S4:=zAc r4;have hne:¬w1.heap.size=w.heap.size:=by omega
 have hne2:¬w.heap.size=w1.heap.size:=by omega
 go_wp2_with fail;generalize w3.setCell ⟨w1.heap.size,4,none⟩ (.int .u32 (zAw zs 8))=w4 at*;clear K3 L3;generalize hV:World.setCell _ ⟨w.heap.size,5,none⟩ _=V8;have hV9:V8=zAi w4 w.heap.size 0 [.int .u16 (zAp zs 6),.bool false,.bool true,.int .u32 0,.int .u32 (zAw zs 8),.slice none 0 0]:=hV.symm;have hb8:But (fun b=>b=w.heap.size) w4 V8:=by rw[hV9];exact zAf (E:=fun b=>b=w.heap.size) (n:=w.heap.size) rfl _ _ _ _ (But.refl _ _)
 have p8:=zAe [.int .u16 (zAp zs 6),.bool false,.bool true,.int .u32 0,.int .u32 (zAw zs 8),.slice none 0 0] r4 rfl;rw[←hV9]at p8;clear hV hV9 R4 S4;have P8:=zAa p8;have hw8:Below w.heap.size w V8:=hw4.trans (hb8.below hw4.size (fun k h e=>by omega));exact bodyPost_ret (v:= .tuple #[.agg #[.int .u16 (zAp zs 6),.bool false,.bool true,.int .u32 0,.int .u32 (zAw zs 8),.slice none 0 0],.int .i64 12]) (by simp[results,Tryz.results89,go_sem,P8]) rfl ⟨rfl,hw8⟩
theorem zMt(sv:Value)(zs:List Int)(hB:Mt.By zs)(w:World)(hI:Rd w.heap.size w sv zs):
  Calls Tryz.prog 89 #[sv,.int .i64 3] w fun e w'=>e= .returned (.tuple #[.agg #[.int .u16 (zAp zs 6),.bool true,.bool true,.int .u32 (zAw zs 8),.int .u32 (zAw zs 12),.slice none 0 0],.int .i64 16])∧Below w.heap.size w w':=by
 obtain⟨a,cap,rfl,hl1,hm1⟩:=hI.slice;have hb0:Below w.heap.size w (w.alloc (.cells zf.toArray 114)):=bA _ _;have r0:=heap_alloc_new w (.cells zf.toArray 114);have R0:=zAd r0;clear r0;have a1:bits .and .i64 3 1=1:=by decide+kernel
 have a2:bits .and .i64 3 2=2:=by decide+kernel
 go_enter Tryz.func89,Tryz.ntmps89;go_wp2_with fail;refine(zDt _ zs hB 6 _ (hI.below hb0)).mono ?_;rintro e w1 ⟨rfl,q1,hq1⟩;have hw1:Below w.heap.size w w1:=by rw[hq1];exact zAk hb0 q1
 have r1:w1.heap[w.heap.size]? =some (.cells zf.toArray 114 (0,0)):=by rw[hq1];exact R0.out
 have hs1:w.heap.size<w1.heap.size:=(bl9 r1);clear hq1 R0;have C1:=zAa r1;have D1:=zAc r1;have hA:=(Below.refl w1.heap.size w1).alloc (Nat.le_refl _) (.cells #[.int .u16 (zAp zs 6),.bool true,.bool true,.int .u32 0,.int .u32 0,.slice none 0 0] 114);have f2:=heap_alloc_new w1 (.cells #[.int .u16 (zAp zs 6),.bool true,.bool true,.int .u32 0,.int .u32 0,.slice none 0 0] 114);go_wp2_with fail;generalize w1.alloc (.cells #[.int .u16 (zAp zs 6),.bool true,.bool true,.int .u32 0,.int .u32 0,.slice none 0 0] 114)=w2 at*;have hw2:=hw1.trans (hA.mono hw1.size);have r2:=(hA.block w.heap.size hs1).trans r1;clear C1 D1;refine(zEl _ zs hB 8 _ (hI.below hw2)).mono ?_;rintro e w3 ⟨rfl,q3,hq3⟩;have hw3:Below w.heap.size w w3:=by rw[hq3];exact zAk hw2 q3
 have r3:w3.heap[w.heap.size]? =some (.cells zf.toArray 114 (0,0)):=by rw[hq3];exact r2
 have f3:w3.heap[w1.heap.size]? =some (.cells #[.int .u16 (zAp zs 6),.bool true,.bool true,.int .u32 0,.int .u32 0,.slice none 0 0] 114 (0,0)):=by rw[hq3];exact f2
 clear hq3;have K3:=zAa f3;have L3:=zAc f3;have f4:=zAh f3 3 (.int .u32 (zAw zs 8));have hw4:=hw3.setCell (p:=⟨w1.heap.size,3,none⟩) (Nat.le_of_lt hs1) (.int .u32 (zAw zs 8));have r4:=(Below.heap_setCell w3 ⟨w1.heap.size,3,none⟩ (.int .u32 (zAw zs 8)) w.heap.size (by simp;omega)).trans r3;go_wp2_with fail;generalize w3.setCell ⟨w1.heap.size,3,none⟩ (.int .u32 (zAw zs 8))=w4 at*;clear K3 L3;refine(zEl _ zs hB 12 _ (hI.below hw4)).mono ?_;rintro e w5 ⟨rfl,q5,hq5⟩;have hw5:Below w.heap.size w w5:=by rw[hq5];exact zAk hw4 q5
 have r5:w5.heap[w.heap.size]? =some (.cells zf.toArray 114 (0,0)):=by rw[hq5];exact r4
 have f5:w5.heap[w1.heap.size]? =some (.cells #[.int .u16 (zAp zs 6),.bool true,.bool true,.int .u32 (zAw zs 8),.int .u32 0,.slice none 0 0] 114 (0,0)):=by rw[hq5];exact f4
 clear hq5;have K5:=zAa f5;have L5:=zAc f5;have f6:=zAh f5 4 (.int .u32 (zAw zs 12));have hw6:=hw5.setCell (p:=⟨w1.heap.size,4,none⟩) (Nat.le_of_lt hs1) (.int .u32 (zAw zs 12));have r6:=(Below.heap_setCell w5 ⟨w1.heap.size,4,none⟩ (.int .u32 (zAw zs 12)) w.heap.size (by simp;omega)).trans r5;have R6:=zAa r6;have S6:=zAc r6;have hne:¬w1.heap.size=w.heap.size:=by omega
 have hne2:¬w.heap.size=w1.heap.size:=by omega
 go_wp2_with fail;generalize w5.setCell ⟨w1.heap.size,4,none⟩ (.int .u32 (zAw zs 12))=w6 at*;clear K5 L5;generalize hV:World.setCell _ ⟨w.heap.size,5,none⟩ _=V8;have hV9:V8=zAi w6 w.heap.size 0 [.int .u16 (zAp zs 6),.bool true,.bool true,.int .u32 (zAw zs 8),.int .u32 (zAw zs 12),.slice none 0 0]:=hV.symm;have hb8:But (fun b=>b=w.heap.size) w6 V8:=by rw[hV9];exact zAf (E:=fun b=>b=w.heap.size) (n:=w.heap.size) rfl _ _ _ _ (But.refl _ _)
 have p8:=zAe [.int .u16 (zAp zs 6),.bool true,.bool true,.int .u32 (zAw zs 8),.int .u32 (zAw zs 12),.slice none 0 0] r6 rfl;rw[←hV9]at p8;clear hV hV9 R6 S6;have P8:=zAa p8;have hw8:Below w.heap.size w V8:=hw6.trans (hb8.below hw6.size (fun k h e=>by omega));exact bodyPost_ret (v:= .tuple #[.agg #[.int .u16 (zAp zs 6),.bool true,.bool true,.int .u32 (zAw zs 8),.int .u32 (zAw zs 12),.slice none 0 0],.int .i64 16]) (by simp[results,Tryz.results89,go_sem,P8]) rfl ⟨rfl,hw8⟩
def ghs (n:Nat):Bool:=n==1||n==3
def gha (n:Nat):Bool:=n==2||n==3
def ghd (n:Nat):Nat:=if n=0 then 8 else if n=3 then 16 else 12
def gsq (n:Nat) (zs:List Int):Int:=if n=1∨n=3 then zAw zs 8 else 0
def gak (n:Nat) (zs:List Int):Int:=if n=2 then zAw zs 8 else if n=3 then zAw zs 12 else 0
def bgz (zs:List Int):Nat:=bgo (zs[0]?.getD 0) (zs[1]?.getD 0) (zs[2]?.getD 0) (zs[3]?.getD 0)
theorem ghd_bd(n:Nat):8≤ghd n∧ghd n≤16:=by unfold ghd;split<;>(try split)<;>omega
def pge (proto:Int) (zs:List Int):Int:=if proto≠47 then 12 else if zs.length<8 then 3 else if bgz zs=4 then 4 else if(zs.length:Int)<ghd (bgz zs)+wat zs 4 then 3 else if(ghd (bgz zs):Int)+wat zs 4<zs.length then 4 else 0
theorem zI2(n:Nat)(hn:n≤3)(sv:Value)(zs:List Int)(hB:Mt.By zs)(w:World)(hI:Rd w.heap.size w sv zs):
  Calls Tryz.prog 89 #[sv,.int .i64 n] w fun e w'=>e= .returned (.tuple #[.agg #[.int .u16 (zAp zs 6),.bool (ghs n),.bool (gha n),.int .u32 (gsq n zs),.int .u32 (gak n zs),.slice none 0 0],.int .i64 (ghd n)])∧Below w.heap.size w w':=by
 have h:n=0∨n=1∨n=2∨n=3:=by omega
 rcases h with rfl|rfl|rfl|rfl
 ·exact zMq sv zs hB w hI
 ·exact zMr sv zs hB w hI
 ·exact zMs sv zs hB w hI
 ·exact zMt sv zs hB w hI
theorem zKq(tos id ttl proto src dst:Int)(keep:Bool)(so sd:Value)(zs:List Int)(w:World)(hT:Tb w)(hB:Mt.By zs)(hI:Rd w.heap.size w sd zs)(hl:zs.length≤140737488355328):
  Calls Tryz.prog 42 #[.agg #[.int .u8 tos,.int .u16 id,.bool keep,.int .u8 ttl,.int .u8 proto,.int .u32 src,.int .u32 dst,so,sd]] w fun e w'=>Below w.heap.size w w'∧((pge proto zs≠0∧e= .returned (.tuple #[.agg zf.toArray,.int .i64 (pge proto zs)]))∨
   (pge proto zs=0∧∃ad cd,e= .returned (.tuple #[.agg #[.int .u16 (zAp zs 6),.bool (ghs (bgz zs)),.bool (gha (bgz zs)),.int .u32 (gsq (bgz zs) zs),.int .u32 (gak (bgz zs) zs),.slice ad (zs.length-ghd (bgz zs)) cd],.int .i64 0])∧Ow w.heap.size w' (.slice ad (zs.length-ghd (bgz zs)) cd) (zs.drop (ghd (bgz zs))))):=by
 obtain⟨ad,cd,rfl,hl1,hm1⟩:=hI.slice;have hb0:Below w.heap.size w ((w.alloc (.cells #[.int .u8 tos,.int .u16 id,.bool keep,.int .u8 ttl,.int .u8 proto,.int .u32 src,.int .u32 dst,so,.slice ad zs.length cd] 40)).alloc (.cells zf.toArray 114)):=(bA _ _).alloc (by simp) _;have r0:((w.alloc (.cells #[.int .u8 tos,.int .u16 id,.bool keep,.int .u8 ttl,.int .u8 proto,.int .u32 src,.int .u32 dst,so,.slice ad zs.length cd] 40)).alloc (.cells zf.toArray 114)).heap[w.heap.size+1]? =some (.cells zf.toArray 114 (0,0)):=by have:=heap_alloc_new (w.alloc (.cells #[.int .u8 tos,.int .u16 id,.bool keep,.int .u8 ttl,.int .u8 proto,.int .u32 src,.int .u32 dst,so,.slice ad zs.length cd] 40)) (.cells zf.toArray 114);simpa using this
 have hs0:((w.alloc (.cells #[.int .u8 tos,.int .u16 id,.bool keep,.int .u8 ttl,.int .u8 proto,.int .u32 src,.int .u32 dst,so,.slice ad zs.length cd] 40)).alloc (.cells zf.toArray 114)).heap.size=w.heap.size+1+1:=by simp
 have R0:=zAd r0;have HS:=zAd hs0;clear r0 hs0;by_cases c1:proto=47
 ·have t1:(proto !=47)=false:=by simp[c1]
  have C1:=zAd c1;clear c1;by_cases c2:zs.length<8
  ·have t2:(zs.length:Int)<8:=by omega
   have HF:Hid (pge proto zs=3):=by show _=_;unfold pge;rw[if_neg (by simp[C1.out]),if_pos c2]
   go_enter Tryz.func42,Tryz.ntmps42;go_wp2_with fail;exact bodyPost_ret (v:= .tuple #[.agg zf.toArray,.int .i64 3]) (by simp[results,Tryz.results42,go_sem]) rfl ⟨hb0,.inl ⟨by rw[HF.out];decide,by rw[HF.out]⟩⟩
  ·have t2:¬(zs.length:Int)<8:=by omega
   have hT0:Tb ((w.alloc (.cells #[.int .u8 tos,.int .u16 id,.bool keep,.int .u8 ttl,.int .u8 proto,.int .u32 src,.int .u32 dst,so,.slice ad zs.length cd] 40)).alloc (.cells zf.toArray 114)):=hT.below hb0 hT.pos;go_enter Tryz.func42,Tryz.ntmps42;go_upto_region 6 with fail;generalize (w.alloc (.cells #[.int .u8 tos,.int .u16 id,.bool keep,.int .u8 ttl,.int .u8 proto,.int .u32 src,.int .u32 dst,so,.slice ad zs.length cd] 40)).alloc (.cells zf.toArray 114)=W0 at*;obtain⟨b,off,cap,e0,hlc,hmc,hbb,hcs⟩:=hI.cells (by omega);have hcl:=e0
   simp at hcl
   obtain⟨rfl,rfl⟩:=hcl;clear e0;have d0:=((hb0.cell (p:=⟨b,off+0,none⟩) hbb).trans (hcs 0 (by omega)));have d1:=((hb0.cell (p:=⟨b,off+1,none⟩) hbb).trans (hcs 1 (by omega)));have d2:=((hb0.cell (p:=⟨b,off+2,none⟩) hbb).trans (hcs 2 (by omega)));have d3:=((hb0.cell (p:=⟨b,off+3,none⟩) hbb).trans (hcs 3 (by omega)));rw[Nat.add_zero]at d0;have HZ0:Hid (bgz zs=bgo (zs[0]?.getD 0) (zs[1]?.getD 0) (zs[2]?.getD 0) (zs[3]?.getD 0)):=rfl;clear hcs;generalize zs[0]?.getD 0=z0 at*;generalize zs[1]?.getD 0=z1 at*;generalize zs[2]?.getD 0=z2 at*;generalize zs[3]?.getD 0=z3 at*;have har:=run_arrayAt (P:=Tryz.prog) (w:=W0) 167 5 4 (some ⟨b,off,none⟩) zs.length cd Tryz.underlying167 (by omega);go_wp2_with fail;refine(zQ3 z0 z1 z2 z3 W0 hT0).mono ?_;rw[←HZ0.out];obtain⟨n,HN⟩:∃n,Hid (bgz zs=n):=⟨_,rfl⟩;have hn4:n≤4:=by rw[←HN.out,HZ0.out];exact bgo_le _ _ _ _
   rw[HN.out];rintro e w1 ⟨rfl,hb1⟩;have hw1:Below w.heap.size w w1:=hb0.trans (hb1.mono hb0.size);have r1:=(hb1.block (w.heap.size+1) (by have:=HS.out;omega)).trans R0.out;have hs1:w.heap.size+1+1≤w1.heap.size:=by have:=hb1.size;have:=HS.out;omega
   clear d0 d1 d2 d3 har;by_cases c3:n=4
   ·subst c3
    have HF:Hid (pge proto zs=4):=by show _=_;unfold pge;rw[if_neg (by simp[C1.out]),if_neg c2,if_pos HN.out]
    rw[show bgk 4=false from rfl,show bgv 4=0 from rfl];have RR:=zAa r1;have SS:=zAc r1;go_wp2_with fail;generalize hV:World.setCell _ ⟨w.heap.size+1,5,none⟩ _=V8;have hV9:V8=zAi w1 (w.heap.size+1) 0 zf:=hV.symm;have hb8:But (fun b=>b=w.heap.size+1) w1 V8:=by rw[hV9];exact zAf (E:=fun b=>b=w.heap.size+1) (n:=w.heap.size+1) rfl _ _ _ _ (But.refl _ _)
    have p8:=zAe zf r1 rfl;rw[←hV9]at p8;clear hV hV9;have P8:=zAa p8;have hw8:Below w.heap.size w V8:=(hw1).trans (hb8.below (hw1).size (fun k h e=>by omega));exact bodyPost_ret (v:= .tuple #[.agg zf.toArray,.int .i64 4]) (by simp[results,Tryz.results42,go_sem,P8]) rfl (⟨hw8,.inl ⟨by rw[HF.out];decide,by rw[HF.out]⟩⟩)
   ·rw [show bgk n=true from by simp[bgk,c3],show bgv n=(n:Int)from by simp[bgv,c3]]
    have hn3:n≤3:=by omega
    clear c3;go_wp2_with fail;refine(zI2 n hn3 _ zs hB w1 ((hI.below hw1).mono hw1.size)).mono ?_;rintro e w2 ⟨rfl,hb2⟩;have hw2:Below w.heap.size w w2:=hw1.trans (hb2.mono hw1.size);have r2:=(hb2.block (w.heap.size+1) (by omega)).trans r1;have hs2:w.heap.size+1+1≤w2.heap.size:=Nat.le_trans hs1 hb2.size;have f3:=heap_alloc_new w2 (.cells #[.int .u16 (zAp zs 6),.bool (ghs n),.bool (gha n),.int .u32 (gsq n zs),.int .u32 (gak n zs),.slice none 0 0] 114);have hA:=(Below.refl w2.heap.size w2).alloc (Nat.le_refl _) (.cells #[.int .u16 (zAp zs 6),.bool (ghs n),.bool (gha n),.int .u32 (gsq n zs),.int .u32 (gak n zs),.slice none 0 0] 114);go_wp2_with fail;generalize w2.alloc (.cells #[.int .u16 (zAp zs 6),.bool (ghs n),.bool (gha n),.int .u32 (gsq n zs),.int .u32 (gak n zs),.slice none 0 0] 114)=w3 at*;have hw3:Below w.heap.size w w3:=hw2.trans (hA.mono hw2.size);have r3:=(hA.block (w.heap.size+1) (by omega)).trans r2;refine(zA4 _ zs hB 4 (by omega) w3 (hI.below hw3)).mono ?_;rintro e w4 ⟨rfl,q4,hq4⟩;have hw4:Below w.heap.size w w4:=by rw[hq4];exact zAk hw3 q4
    have r4:w4.heap[w.heap.size+1]? =some (.cells zf.toArray 114 (0,0)):=by rw[hq4];exact r3
    have f4:w4.heap[w2.heap.size]? =some (.cells #[.int .u16 (zAp zs 6),.bool (ghs n),.bool (gha n),.int .u32 (gsq n zs),.int .u32 (gak n zs),.slice none 0 0] 114 (0,0)):=by rw[hq4];exact f3
    clear hq4;have hgd:=ghd_bd n;have hwd:=zCp hB 4;obtain⟨hd,hhd⟩:∃hd,ghd n=hd:=⟨_,rfl⟩;have HHD:=zAd hhd;rw[hhd]at hgd⊢;clear hhd;have HW4:Hid (wat zs 4=wat zs 4):=rfl;obtain⟨wl,HWL⟩:∃wl,Hid (wat zs 4=wl):=⟨_,rfl⟩;rw[HWL.out]at hwd⊢;by_cases c4:(zs.length:Int)<hd+wl
    ·have HF:Hid (pge proto zs=3):=by show _=_;unfold pge;rw[if_neg (by simp[C1.out]),if_neg c2,HN.out,if_neg (by omega),HHD.out,HWL.out,if_pos c4]
     have RR:=zAa r4;have SS:=zAc r4;go_wp2_with fail;generalize hV:World.setCell _ ⟨w.heap.size+1,5,none⟩ _=V8;have hV9:V8=zAi w4 (w.heap.size+1) 0 zf:=hV.symm;have hb8:But (fun b=>b=w.heap.size+1) w4 V8:=by rw[hV9];exact zAf (E:=fun b=>b=w.heap.size+1) (n:=w.heap.size+1) rfl _ _ _ _ (But.refl _ _)
     have p8:=zAe zf r4 rfl;rw[←hV9]at p8;clear hV hV9;have P8:=zAa p8;have hw8:Below w.heap.size w V8:=(hw4).trans (hb8.below (hw4).size (fun k h e=>by omega));exact bodyPost_ret (v:= .tuple #[.agg zf.toArray,.int .i64 3]) (by simp[results,Tryz.results42,go_sem,P8]) rfl (⟨hw8,.inl ⟨by rw[HF.out];decide,by rw[HF.out]⟩⟩)
    ·by_cases c5:(hd:Int)+wl<zs.length
     ·have HF:Hid (pge proto zs=4):=by show _=_;unfold pge;rw[if_neg (by simp[C1.out]),if_neg c2,HN.out,if_neg (by omega),HHD.out,HWL.out,if_neg c4,if_pos c5]
      have RR:=zAa r4;have SS:=zAc r4;go_wp2_with fail;generalize hV:World.setCell _ ⟨w.heap.size+1,5,none⟩ _=V8;have hV9:V8=zAi w4 (w.heap.size+1) 0 zf:=hV.symm;have hb8:But (fun b=>b=w.heap.size+1) w4 V8:=by rw[hV9];exact zAf (E:=fun b=>b=w.heap.size+1) (n:=w.heap.size+1) rfl _ _ _ _ (But.refl _ _)
      have p8:=zAe zf r4 rfl;rw[←hV9]at p8;clear hV hV9;have P8:=zAa p8;have hw8:Below w.heap.size w V8:=(hw4).trans (hb8.below (hw4).size (fun k h e=>by omega));exact bodyPost_ret (v:= .tuple #[.agg zf.toArray,.int .i64 4]) (by simp[results,Tryz.results42,go_sem,P8]) rfl (⟨hw8,.inl ⟨by rw[HF.out];decide,by rw[HF.out]⟩⟩)
     ·have HF:Hid (pge proto zs=0):=by show _=_;unfold pge;rw[if_neg (by simp[C1.out]),if_neg c2,HN.out,if_neg (by omega),HHD.out,HWL.out,if_neg c4,if_neg c5]
      have i1:(hd:Int)≤zs.length:=by omega
      have i1n:hd≤zs.length:=by omega
      have i2:(zs.length:Int)≤cd:=by omega
      have i0:(0:Int)≤hd:=by omega
      by_cases hcd:cd=hd
      ·subst hcd
       have hcut:=(hI.below hw4).cutAt cd i1n;have hz:zs.length-cd=0:=by omega
       have HZZ:=zAd hz;rw[if_pos rfl,Nat.sub_self,hz]at hcut;clear hz;go_wp2_with fail;refine(zAx _ (zs.drop cd) w4 (by simp;omega) (hcut.mono hw4.size)).mono ?_;rw[List.length_drop,HZZ.out];rintro e w5 ⟨a5,c5,rfl,hO5,hb5⟩;have hw5:Below w.heap.size w w5:=hw4.trans (hb5.mono hw4.size);have hlt4:=(bl9 f4);have r5:=(hb5.block (w.heap.size+1) (by omega)).trans r4;have f5:=(hb5.block w2.heap.size hlt4).trans f4;have K5:=zAa f5;have L5:=zAc f5;have f6:=zAh f5 5 (.slice a5 0 c5);have hw6:=hw5.setCell (p:=⟨w2.heap.size,5,none⟩) (show w.heap.size≤w2.heap.size by omega) (.slice a5 0 c5);have r6:=(Below.heap_setCell w5 ⟨w2.heap.size,5,none⟩ (.slice a5 0 c5) (w.heap.size+1) (by simp;omega)).trans r5;have hE6:But (fun b=>b=w2.heap.size) w5 (w5.setCell ⟨w2.heap.size,5,none⟩ (.slice a5 0 c5)):=(But.refl (fun b=>b=w2.heap.size) w5).setCell (p:=⟨w2.heap.size,5,none⟩) rfl _;have hO6:=hO5.but hE6 (fun b h e=>by omega);have R6:=zAa r6;have S6:=zAc r6;have hne:¬w2.heap.size=w.heap.size+1:=by omega
       have hne2:¬w.heap.size+1=w2.heap.size:=by omega
       go_wp2_with fail;generalize w5.setCell ⟨w2.heap.size,5,none⟩ (.slice a5 0 c5)=w6 at*;clear K5 L5;have r6':w6.heap[w.heap.size+1]? =some (.cells zf.toArray 114 (0,0)):=r6;generalize hV:World.setCell _ ⟨w.heap.size+1,5,none⟩ _=V8;have hV9:V8=zAi w6 (w.heap.size+1) 0 [.int .u16 (zAp zs 6),.bool (ghs n),.bool (gha n),.int .u32 (gsq n zs),.int .u32 (gak n zs),.slice a5 0 c5]:=hV.symm;have hb8:But (fun b=>b=w.heap.size+1) w6 V8:=by rw[hV9];exact zAf (E:=fun b=>b=w.heap.size+1) (n:=w.heap.size+1) rfl _ _ _ _ (But.refl _ _)
       have p8:=zAe [.int .u16 (zAp zs 6),.bool (ghs n),.bool (gha n),.int .u32 (gsq n zs),.int .u32 (gak n zs),.slice a5 0 c5] r6 rfl;rw[←hV9]at p8;clear hV hV9;have P8:=zAa p8;have hw8:Below w.heap.size w V8:=(hw6).trans (hb8.below (hw6).size (fun k h e=>by omega));exact bodyPost_ret (v:= .tuple #[.agg #[.int .u16 (zAp zs 6),.bool (ghs n),.bool (gha n),.int .u32 (gsq n zs),.int .u32 (gak n zs),.slice a5 0 c5],.int .i64 0]) (by simp[results,Tryz.results42,go_sem,P8]) rfl (⟨hw8,.inr ⟨HF.out,a5,c5,by rw[HN.out,HHD.out,HZZ.out],by rw[HN.out,HHD.out,HZZ.out];exact(hO6.but hb8 (fun b h e=>by omega)).mono (by omega)⟩⟩)
      ·have hcut:=(hI.below hw4).cutAt hd i1n
       rw[if_neg hcd]at hcut;go_wp2_with fail;refine(zAx _ (zs.drop hd) w4 (by simp;omega) (hcut.mono hw4.size)).mono ?_;rw[List.length_drop];rintro e w5 ⟨a5,c5,rfl,hO5,hb5⟩;have hw5:Below w.heap.size w w5:=hw4.trans (hb5.mono hw4.size);have hlt4:=(bl9 f4);have r5:=(hb5.block (w.heap.size+1) (by omega)).trans r4;have f5:=(hb5.block w2.heap.size hlt4).trans f4;have K5:=zAa f5;have L5:=zAc f5;have f6:=zAh f5 5 (.slice a5 (zs.length-hd) c5);have hw6:=hw5.setCell (p:=⟨w2.heap.size,5,none⟩) (show w.heap.size≤w2.heap.size by omega) (.slice a5 (zs.length-hd) c5);have r6:=(Below.heap_setCell w5 ⟨w2.heap.size,5,none⟩ (.slice a5 (zs.length-hd) c5) (w.heap.size+1) (by simp;omega)).trans r5;have hE6:But (fun b=>b=w2.heap.size) w5 (w5.setCell ⟨w2.heap.size,5,none⟩ (.slice a5 (zs.length-hd) c5)):=(But.refl (fun b=>b=w2.heap.size) w5).setCell (p:=⟨w2.heap.size,5,none⟩) rfl _;have hO6:=hO5.but hE6 (fun b h e=>by omega);have R6:=zAa r6;have S6:=zAc r6;have hne:¬w2.heap.size=w.heap.size+1:=by omega
       have hne2:¬w.heap.size+1=w2.heap.size:=by omega
       go_wp2_with fail;generalize w5.setCell ⟨w2.heap.size,5,none⟩ (.slice a5 (zs.length-hd) c5)=w6 at*;clear K5 L5;have r6':w6.heap[w.heap.size+1]? =some (.cells zf.toArray 114 (0,0)):=r6;generalize hV:World.setCell _ ⟨w.heap.size+1,5,none⟩ _=V8;have hV9:V8=zAi w6 (w.heap.size+1) 0 [.int .u16 (zAp zs 6),.bool (ghs n),.bool (gha n),.int .u32 (gsq n zs),.int .u32 (gak n zs),.slice a5 (zs.length-hd) c5]:=hV.symm;have hb8:But (fun b=>b=w.heap.size+1) w6 V8:=by rw[hV9];exact zAf (E:=fun b=>b=w.heap.size+1) (n:=w.heap.size+1) rfl _ _ _ _ (But.refl _ _)
       have p8:=zAe [.int .u16 (zAp zs 6),.bool (ghs n),.bool (gha n),.int .u32 (gsq n zs),.int .u32 (gak n zs),.slice a5 (zs.length-hd) c5] r6 rfl;rw[←hV9]at p8;clear hV hV9;have P8:=zAa p8;have hw8:Below w.heap.size w V8:=(hw6).trans (hb8.below (hw6).size (fun k h e=>by omega));exact bodyPost_ret (v:= .tuple #[.agg #[.int .u16 (zAp zs 6),.bool (ghs n),.bool (gha n),.int .u32 (gsq n zs),.int .u32 (gak n zs),.slice a5 (zs.length-hd) c5],.int .i64 0]) (by simp[results,Tryz.results42,go_sem,P8]) rfl (⟨hw8,.inr ⟨HF.out,a5,c5,by rw[HN.out,HHD.out],by rw[HN.out,HHD.out];exact(hO6.but hb8 (fun b h e=>by omega)).mono (by omega)⟩⟩)
 ·have t1:(proto !=47)=true:=by simp[c1]
  have HF:Hid (pge proto zs=12):=by show _=_;unfold pge;rw[if_pos c1]
  clear c1;go_enter Tryz.func42,Tryz.ntmps42;go_wp2_with fail;exact bodyPost_ret (v:= .tuple #[.agg zf.toArray,.int .i64 12]) (by simp[results,Tryz.results42,go_sem]) rfl ⟨hb0,.inl ⟨by rw[HF.out];decide,by rw[HF.out]⟩⟩
theorem zFr(ty cde rest:Int)(sm:Value)(w:World):
  Calls Tryz.prog 280 #[.agg #[.int .u8 ty,.int .u8 cde,.int .u32 rest,sm]] w fun e w'=>e= .returned (.bool (ty==8 && cde==0))∧Below w.heap.size w w':=by
 have hbox:Below w.heap.size w (w.alloc (.cells #[.int .u8 ty,.int .u8 cde,.int .u32 rest,sm] 376)):=bA _ _;cases h1:(ty==8)
 ·go_enter Tryz.func280,Tryz.ntmps280
  go_wp2
  go_ret
  exact⟨rfl,hbox⟩
 ·go_enter Tryz.func280,Tryz.ntmps280
  go_wp2
  go_ret
  exact⟨rfl,hbox⟩
theorem zQ4(ty cde rest:Int)(sm:Value)(w:World):
  Calls Tryz.prog 306 #[.agg #[.int .u8 ty,.int .u8 cde,.int .u32 rest,sm]] w fun e w'=>e= .returned (.bool ((ty==8||ty==0) && cde==0))∧Below w.heap.size w w':=by
 have hbox:Below w.heap.size w (w.alloc (.cells #[.int .u8 ty,.int .u8 cde,.int .u32 rest,sm] 376)):=bA _ _;have hk:=heap_alloc_new w (.cells #[.int .u8 ty,.int .u8 cde,.int .u32 rest,sm] 376);have HK:=zAd hk;clear hk;cases h1:(ty==8)
 ·cases h2:(ty==0)
  ·go_enter Tryz.func306,Tryz.ntmps306
   go_wp2_with fail;refine(zFr ty cde rest sm _).mono ?_;rw[h1];rintro e w1 ⟨rfl,hb1⟩;have K1:=zAa ((hb1.block w.heap.size (by simp)).trans HK.out);go_wp2
   go_ret
   exact⟨rfl,hbox.trans (hb1.mono (by simp))⟩
  ·go_enter Tryz.func306,Tryz.ntmps306
   go_wp2_with fail;refine(zFr ty cde rest sm _).mono ?_;rw[h1];rintro e w1 ⟨rfl,hb1⟩;have K1:=zAa ((hb1.block w.heap.size (by simp)).trans HK.out);go_wp2
   go_ret
   exact⟨rfl,hbox.trans (hb1.mono (by simp))⟩
 ·have h2:(ty==0)=false:=by simp at h1⊢;omega
  cases h3:(cde==0)
  ·go_enter Tryz.func306,Tryz.ntmps306
   go_wp2_with fail;refine(zFr ty cde rest sm _).mono ?_;rw[h1,h3];rintro e w1 ⟨rfl,hb1⟩;have K1:=zAa ((hb1.block w.heap.size (by simp)).trans HK.out);go_wp2
   go_ret
   exact⟨rfl,hbox.trans (hb1.mono (by simp))⟩
  ·go_enter Tryz.func306,Tryz.ntmps306
   go_wp2_with fail;refine(zFr ty cde rest sm _).mono ?_;rw[h1,h3];rintro e w1 ⟨rfl,hb1⟩;have K1:=zAa ((hb1.block w.heap.size (by simp)).trans HK.out);go_wp2
   go_ret
   exact⟨rfl,hbox.trans (hb1.mono (by simp))⟩
theorem zTm(tos id ttl proto src dst:Int)(keep:Bool)(so sd:Value)(zd:List Int)(w:World)(hB:Mt.By zd)(hI:Rd w.heap.size w sd zd)(hl:12+zd.length≤140737488355328)(hsr:0≤src∧src≤4294967295)(hds:0≤dst∧dst≤4294967295):
  Calls Tryz.prog 224 #[.agg #[.int .u8 tos,.int .u16 id,.bool keep,.int .u8 ttl,.int .u8 proto,.int .u32 src,.int .u32 dst,so,sd]] w fun e w'=>Below w.heap.size w w'∧∃a b:Int,e= .returned (.tuple #[.agg #[.int .u16 a,.int .u16 b],.int .i64 (pte proto src dst zd)])∧(pte proto src dst zd=0→a=wat zd 0∧b=wat zd 2):=by
 obtain⟨ad,cd,rfl,_,_⟩:=hI.slice;have hb0:Below w.heap.size w ((w.alloc (.cells #[.int .u8 tos,.int .u16 id,.bool keep,.int .u8 ttl,.int .u8 proto,.int .u32 src,.int .u32 dst,so,.slice ad zd.length cd] 40)).alloc (.cells #[.int .u16 0,.int .u16 0] 317)):=(bA _ _).alloc (by simp) _;have r0:=heap_alloc_new (w.alloc (.cells #[.int .u8 tos,.int .u16 id,.bool keep,.int .u8 ttl,.int .u8 proto,.int .u32 src,.int .u32 dst,so,.slice ad zd.length cd] 40)) (.cells #[.int .u16 0,.int .u16 0] 317);rw[World.size_alloc]at r0;have R0:=zAd r0;clear r0;go_enter Tryz.func224,Tryz.ntmps224;go_wp2_with fail;generalize (w.alloc (.cells #[.int .u8 tos,.int .u16 id,.bool keep,.int .u8 ttl,.int .u8 proto,.int .u32 src,.int .u32 dst,so,.slice ad zd.length cd] 40)).alloc (.cells #[.int .u16 0,.int .u16 0] 317)=w0 at*;refine(zCk tos id ttl proto src dst keep _ _ zd w0 hB ((hI.below hb0).mono hb0.size) (by omega) hsr hds).mono ?_;rintro e w1 ⟨hb1,⟨hf,rfl⟩|⟨hf,os,aO,cO,a1,c1,_,rfl,hO,_⟩⟩
 ·rw[show zsg.toArray=#[.int .u16 0,.int .u16 0,.int .u32 0,.int .u32 0,.int .u8 0,.int .u16 0,.int .u16 0,.slice none 0 0,.slice none 0 0]from rfl]
  generalize hpu:pte proto src dst zd=f at*;have HPU:=zAd hpu;have HF:=zAd hf;clear hf hpu;have lq:Later w1 (w1.alloc (.cells #[.int .u16 0,.int .u16 0,.int .u32 0,.int .u32 0,.int .u8 0,.int .u16 0,.int .u16 0,.slice none 0 0,.slice none 0 0] 32)):=bA _ _;have l1:=Later.trans hb1 lq;have r1:=(l1.block _ (bl9 R0.out)).trans R0.out;have hw1:=hb0.trans (l1.mono hb0.size);have kX:=zAa r1;have fX:=zAc r1;go_wp2_with fail;generalize w1.alloc (.cells #[.int .u16 0,.int .u16 0,.int .u32 0,.int .u32 0,.int .u8 0,.int .u16 0,.int .u16 0,.slice none 0 0,.slice none 0 0] 32)=W at*;generalize hV:World.setCell _ ⟨w.heap.size+1,1,none⟩ _=V;have hV8:V=zAi W (w.heap.size+1) 0 [.int .u16 (0),.int .u16 (0)]:=hV.symm;have hbV:But (fun b=>b=w.heap.size+1) W V:=by rw[hV8];exact zAf (E:=fun b=>b=w.heap.size+1) (n:=w.heap.size+1) rfl _ _ _ _ (But.refl _ _)
  have pV:=zAe [Value.int .u16 (0),.int .u16 (0)] r1 rfl;rw[←hV8]at pV;clear hV hV8 kX fX;have PV:=zAa pV;have hwV:Below w.heap.size w V:=hw1.trans (hbV.below hw1.size (fun k hk e=>by omega));exact bodyPost_ret (v:= .tuple #[.agg #[.int .u16 (0),.int .u16 (0)],.int .i64 f]) (by simp[results,Tryz.results224,go_sem,PV]) rfl ⟨hwV,_,_,by rw[HPU.out],fun h=>absurd (HPU.out.symm.trans h) HF.out⟩
 ·have HF:=zAd hf
  clear hf;have lq:Later w1 (w1.alloc (.cells #[.int .u16 (wat zd 0),.int .u16 (wat zd 2),.int .u32 (zAs zd 4),.int .u32 (zAs zd 8),.int .u8 (zd[13]?.getD 0),.int .u16 (wat zd 14),.int .u16 (wat zd 18),.slice aO os.length cO,.slice a1 (zd.length-(thd zd).toNat) c1] 32)):=bA _ _;have l1:=Later.trans hb1 lq;have r1:=(l1.block _ (bl9 R0.out)).trans R0.out;have hw1:=hb0.trans (l1.mono hb0.size);have kX:=zAa r1;have fX:=zAc r1;go_wp2_with fail;generalize w1.alloc (.cells #[.int .u16 (wat zd 0),.int .u16 (wat zd 2),.int .u32 (zAs zd 4),.int .u32 (zAs zd 8),.int .u8 (zd[13]?.getD 0),.int .u16 (wat zd 14),.int .u16 (wat zd 18),.slice aO os.length cO,.slice a1 (zd.length-(thd zd).toNat) c1] 32)=W at*;generalize hV:World.setCell _ ⟨w.heap.size+1,1,none⟩ _=V;have hV8:V=zAi W (w.heap.size+1) 0 [.int .u16 (wat zd 0),.int .u16 (wat zd 2)]:=hV.symm;have hbV:But (fun b=>b=w.heap.size+1) W V:=by rw[hV8];exact zAf (E:=fun b=>b=w.heap.size+1) (n:=w.heap.size+1) rfl _ _ _ _ (But.refl _ _)
  have pV:=zAe [Value.int .u16 (wat zd 0),.int .u16 (wat zd 2)] r1 rfl;rw[←hV8]at pV;clear hV hV8 kX fX;have PV:=zAa pV;have hwV:Below w.heap.size w V:=hw1.trans (hbV.below hw1.size (fun k hk e=>by omega));exact bodyPost_ret (v:= .tuple #[.agg #[.int .u16 (wat zd 0),.int .u16 (wat zd 2)],.int .i64 0]) (by simp[results,Tryz.results224,go_sem,PV]) rfl ⟨hwV,_,_,by rw[HF.out],fun _=>⟨rfl,rfl⟩⟩
theorem zTn(tos id ttl proto src dst:Int)(keep:Bool)(so sd:Value)(zd:List Int)(w:World)(hT:Tb w)(hB:Mt.By zd)(hI:Rd w.heap.size w sd zd)(hl:12+zd.length≤140737488355328)(hsr:0≤src∧src≤4294967295)(hds:0≤dst∧dst≤4294967295):
  Calls Tryz.prog 229 #[.agg #[.int .u8 tos,.int .u16 id,.bool keep,.int .u8 ttl,.int .u8 proto,.int .u32 src,.int .u32 dst,so,sd]] w fun e w'=>Below w.heap.size w w'∧∃a b:Int,e= .returned (.tuple #[.agg #[.int .u16 a,.int .u16 b],.int .i64 (pge proto zd)])∧(pge proto zd=0→a=0∧b=zAp zd 6):=by
 obtain⟨ad,cd,rfl,_,_⟩:=hI.slice;have hb0:Below w.heap.size w ((w.alloc (.cells #[.int .u8 tos,.int .u16 id,.bool keep,.int .u8 ttl,.int .u8 proto,.int .u32 src,.int .u32 dst,so,.slice ad zd.length cd] 40)).alloc (.cells #[.int .u16 0,.int .u16 0] 317)):=(bA _ _).alloc (by simp) _;have r0:=heap_alloc_new (w.alloc (.cells #[.int .u8 tos,.int .u16 id,.bool keep,.int .u8 ttl,.int .u8 proto,.int .u32 src,.int .u32 dst,so,.slice ad zd.length cd] 40)) (.cells #[.int .u16 0,.int .u16 0] 317);rw[World.size_alloc]at r0;have R0:=zAd r0;clear r0;go_enter Tryz.func229,Tryz.ntmps229;go_wp2_with fail;generalize (w.alloc (.cells #[.int .u8 tos,.int .u16 id,.bool keep,.int .u8 ttl,.int .u8 proto,.int .u32 src,.int .u32 dst,so,.slice ad zd.length cd] 40)).alloc (.cells #[.int .u16 0,.int .u16 0] 317)=w0 at*;refine(zKq tos id ttl proto src dst keep _ _ zd w0 (hT.below hb0 hT.pos) hB ((hI.below hb0).mono hb0.size) (by omega)).mono ?_;rintro e w1 ⟨hb1,⟨hf,rfl⟩|⟨hf,a1,c1,rfl,hO⟩⟩
 ·rw[show zf.toArray=#[.int .u16 0,.bool false,.bool false,.int .u32 0,.int .u32 0,.slice none 0 0]from rfl]
  generalize hpu:pge proto zd=f at*;have HPU:=zAd hpu;have HF:=zAd hf;clear hf hpu;have lq:Later w1 (w1.alloc (.cells #[.int .u16 0,.bool false,.bool false,.int .u32 0,.int .u32 0,.slice none 0 0] 114)):=bA _ _;have l1:=Later.trans hb1 lq;have r1:=(l1.block _ (bl9 R0.out)).trans R0.out;have hw1:=hb0.trans (l1.mono hb0.size);have kX:=zAa r1;have fX:=zAc r1;go_wp2_with fail;generalize w1.alloc (.cells #[.int .u16 0,.bool false,.bool false,.int .u32 0,.int .u32 0,.slice none 0 0] 114)=W at*;generalize hV:World.setCell _ ⟨w.heap.size+1,1,none⟩ _=V;have hV8:V=zAi W (w.heap.size+1) 0 [.int .u16 (0),.int .u16 (0)]:=hV.symm;have hbV:But (fun b=>b=w.heap.size+1) W V:=by rw[hV8];exact zAf (E:=fun b=>b=w.heap.size+1) (n:=w.heap.size+1) rfl _ _ _ _ (But.refl _ _)
  have pV:=zAe [Value.int .u16 (0),.int .u16 (0)] r1 rfl;rw[←hV8]at pV;clear hV hV8 kX fX;have PV:=zAa pV;have hwV:Below w.heap.size w V:=hw1.trans (hbV.below hw1.size (fun k hk e=>by omega));exact bodyPost_ret (v:= .tuple #[.agg #[.int .u16 (0),.int .u16 (0)],.int .i64 f]) (by simp[results,Tryz.results229,go_sem,PV]) rfl ⟨hwV,_,_,by rw[HPU.out],fun h=>absurd (HPU.out.symm.trans h) HF.out⟩
 ·have HF:=zAd hf
  clear hf;have lq:Later w1 (w1.alloc (.cells #[.int .u16 (zAp zd 6),.bool (ghs (bgz zd)),.bool (gha (bgz zd)),.int .u32 (gsq (bgz zd) zd),.int .u32 (gak (bgz zd) zd),.slice a1 (zd.length-ghd (bgz zd)) c1] 114)):=bA _ _;have l1:=Later.trans hb1 lq;have r1:=(l1.block _ (bl9 R0.out)).trans R0.out;have hw1:=hb0.trans (l1.mono hb0.size);have kX:=zAa r1;have fX:=zAc r1;go_wp2_with fail;generalize w1.alloc (.cells #[.int .u16 (zAp zd 6),.bool (ghs (bgz zd)),.bool (gha (bgz zd)),.int .u32 (gsq (bgz zd) zd),.int .u32 (gak (bgz zd) zd),.slice a1 (zd.length-ghd (bgz zd)) c1] 114)=W at*;generalize hV:World.setCell _ ⟨w.heap.size+1,1,none⟩ _=V;have hV8:V=zAi W (w.heap.size+1) 0 [.int .u16 0,.int .u16 (zAp zd 6)]:=hV.symm;have hbV:But (fun b=>b=w.heap.size+1) W V:=by rw[hV8];exact zAf (E:=fun b=>b=w.heap.size+1) (n:=w.heap.size+1) rfl _ _ _ _ (But.refl _ _)
  have pV:=zAe [Value.int .u16 0,.int .u16 (zAp zd 6)] r1 rfl;rw[←hV8]at pV;clear hV hV8 kX fX;have PV:=zAa pV;have hwV:Below w.heap.size w V:=hw1.trans (hbV.below hw1.size (fun k hk e=>by omega));exact bodyPost_ret (v:= .tuple #[.agg #[.int .u16 0,.int .u16 (zAp zd 6)],.int .i64 0]) (by simp[results,Tryz.results229,go_sem,PV]) rfl ⟨hwV,_,_,by rw[HF.out],fun _=>⟨rfl,rfl⟩⟩
def ecb (ty cde:Int):Bool:=(ty==8||ty==0) && cde==0
def oie (zs:List Int):Int:=if pie 1 zs≠0 then pie 1 zs else if ecb (zs[0]?.getD 0) (zs[1]?.getD 0)=true then 0 else 12
theorem zKr(ty cde rest num:Int)(sm:Value)(w:World):
  Calls Tryz.prog 276 #[.agg #[.int .u8 ty,.int .u8 cde,.int .u32 rest,sm],.int .u16 num] w fun e w'=>Below w.heap.size w w'∧((ecb ty cde=true∧e= .returned (.tuple #[.agg #[.int .u16 num,.int .u16 num],.int .i64 0]))∨(ecb ty cde=false∧e= .returned (.tuple #[.agg #[.int .u16 0,.int .u16 0],.int .i64 12]))):=by
 have hb0:Below w.heap.size w ((w.alloc (.cells #[.int .u8 ty,.int .u8 cde,.int .u32 rest,sm] 376)).alloc (.cells #[.int .u16 0,.int .u16 0] 317)):=(bA _ _).alloc (by simp) _;have r0:=heap_alloc_new (w.alloc (.cells #[.int .u8 ty,.int .u8 cde,.int .u32 rest,sm] 376)) (.cells #[.int .u16 0,.int .u16 0] 317);rw[World.size_alloc]at r0;have R0:=zAd r0;clear r0;go_enter Tryz.func276,Tryz.ntmps276;go_wp2_with fail;generalize (w.alloc (.cells #[.int .u8 ty,.int .u8 cde,.int .u32 rest,sm] 376)).alloc (.cells #[.int .u16 0,.int .u16 0] 317)=w0 at*;refine(zQ4 ty cde rest sm w0).mono ?_;rintro e w1 ⟨rfl,hb1⟩;have hw1:=hb0.trans (hb1.mono hb0.size);have r1:=(Below.block hb1 _ (bl9 R0.out)).trans R0.out;have kX:=zAa r1;have fX:=zAc r1;have HE:Hid (ecb ty cde=((ty==8||ty==0) && cde==0)):=rfl;generalize ((ty==8||ty==0) && cde==0)=bq at*;cases bq with
 |true=>
  go_wp2_with fail;generalize hV:World.setCell _ ⟨w.heap.size+1,1,none⟩ _=V;have hV8:V=zAi w1 (w.heap.size+1) 0 [.int .u16 num,.int .u16 num]:=hV.symm;have hbV:But (fun b=>b=w.heap.size+1) w1 V:=by rw[hV8];exact zAf (E:=fun b=>b=w.heap.size+1) (n:=w.heap.size+1) rfl _ _ _ _ (But.refl _ _)
  have pV:=zAe [Value.int .u16 num,.int .u16 num] r1 rfl;rw[←hV8]at pV;clear hV hV8 kX fX;have PV:=zAa pV;have hwV:Below w.heap.size w V:=hw1.trans (hbV.below hw1.size (fun k hk e=>by omega));exact bodyPost_ret (v:= .tuple #[.agg #[.int .u16 num,.int .u16 num],.int .i64 0]) (by simp[results,Tryz.results276,go_sem,PV]) rfl ⟨hwV,.inl ⟨HE.out,rfl⟩⟩
 |false=>
  go_wp2_with fail;generalize hV:World.setCell _ ⟨w.heap.size+1,1,none⟩ _=V;have hV8:V=zAi w1 (w.heap.size+1) 0 [.int .u16 0,.int .u16 0]:=hV.symm;have hbV:But (fun b=>b=w.heap.size+1) w1 V:=by rw[hV8];exact zAf (E:=fun b=>b=w.heap.size+1) (n:=w.heap.size+1) rfl _ _ _ _ (But.refl _ _)
  have pV:=zAe [Value.int .u16 0,.int .u16 0] r1 rfl;rw[←hV8]at pV;clear hV hV8 kX fX;have PV:=zAa pV;have hwV:Below w.heap.size w V:=hw1.trans (hbV.below hw1.size (fun k hk e=>by omega));exact bodyPost_ret (v:= .tuple #[.agg #[.int .u16 0,.int .u16 0],.int .i64 12]) (by simp[results,Tryz.results276,go_sem,PV]) rfl ⟨hwV,.inr ⟨HE.out,rfl⟩⟩
theorem zQ5(tos id ttl src dst:Int)(keep:Bool)(so sd:Value)(zd:List Int)(w:World)(hB:Mt.By zd)(hI:Rd w.heap.size w sd zd)(hl:zd.length≤140737488355328):
  Calls Tryz.prog 227 #[.agg #[.int .u8 tos,.int .u16 id,.bool keep,.int .u8 ttl,.int .u8 1,.int .u32 src,.int .u32 dst,so,sd]] w fun e w'=>Below w.heap.size w w'∧∃a b:Int,e= .returned (.tuple #[.agg #[.int .u16 a,.int .u16 b],.int .i64 (oie zd)])∧(oie zd=0→a=wat zd 4∧b=wat zd 4):=by
 obtain⟨ad,cd,rfl,_,_⟩:=hI.slice;have hb0:Below w.heap.size w ((w.alloc (.cells #[.int .u8 tos,.int .u16 id,.bool keep,.int .u8 ttl,.int .u8 1,.int .u32 src,.int .u32 dst,so,.slice ad zd.length cd] 40)).alloc (.cells #[.int .u16 0,.int .u16 0] 317)):=(bA _ _).alloc (by simp) _;have r0:=heap_alloc_new (w.alloc (.cells #[.int .u8 tos,.int .u16 id,.bool keep,.int .u8 ttl,.int .u8 1,.int .u32 src,.int .u32 dst,so,.slice ad zd.length cd] 40)) (.cells #[.int .u16 0,.int .u16 0] 317);rw[World.size_alloc]at r0;have R0:=zAd r0;clear r0;go_enter Tryz.func227,Tryz.ntmps227;go_wp2_with fail;generalize (w.alloc (.cells #[.int .u8 tos,.int .u16 id,.bool keep,.int .u8 ttl,.int .u8 1,.int .u32 src,.int .u32 dst,so,.slice ad zd.length cd] 40)).alloc (.cells #[.int .u16 0,.int .u16 0] 317)=w0 at*;refine(zI1 tos id ttl 1 src dst keep _ _ zd w0 hB ((hI.below hb0).mono hb0.size) hl).mono ?_;rintro e w1 ⟨hb1,⟨hf,rfl⟩|⟨hf,a1,c1,rfl,hO⟩⟩
 ·rw[show zm.toArray=#[.int .u8 0,.int .u8 0,.int .u32 0,.slice none 0 0]from rfl]
  have HOE:Hid (oie zd=pie 1 zd):=if_pos hf;generalize hpu:pie 1 zd=f at*;have HF:=zAd hf;clear hpu;have hne:(f !=0)=true:=by simp[hf]
  clear hf;have lq:Later w1 (w1.alloc (.cells #[.int .u8 0,.int .u8 0,.int .u32 0,.slice none 0 0] 376)):=bA _ _;have l1:=Later.trans hb1 lq;have rX:=(l1.block _ (bl9 R0.out)).trans R0.out;have hwX:=hb0.trans (l1.mono hb0.size);have kX:=zAa rX;have fX:=zAc rX;go_wp2_with fail;generalize w1.alloc (.cells #[.int .u8 0,.int .u8 0,.int .u32 0,.slice none 0 0] 376)=W at*;generalize hV:World.setCell _ ⟨w.heap.size+1,1,none⟩ _=V;have hV8:V=zAi W (w.heap.size+1) 0 [.int .u16 0,.int .u16 0]:=hV.symm;have hbV:But (fun b=>b=w.heap.size+1) W V:=by rw[hV8];exact zAf (E:=fun b=>b=w.heap.size+1) (n:=w.heap.size+1) rfl _ _ _ _ (But.refl _ _)
  have pV:=zAe ([.int .u16 0,.int .u16 0]:List Value) rX rfl;rw[←hV8]at pV;clear hV hV8 kX fX;have PV:=zAa pV;have hwV:Below w.heap.size w V:=hwX.trans (hbV.below hwX.size (fun k hk e=>by omega));exact bodyPost_ret (v:= .tuple #[.agg #[.int .u16 0,.int .u16 0],.int .i64 f]) (by simp[results,Tryz.results227,go_sem,PV]) rfl ⟨hwV,_,_,by rw[HOE.out],fun h=>absurd (HOE.out.symm.trans h) HF.out⟩
 ·have HF:=zAd hf
  clear hf;have b4:=zCp hB 4;have b6:=zCp hB (4+2);have HW4:Hid (zAs zd 4/65536=wat zd 4):=by show _=_;unfold zAs;omega
  have hW4b:0≤zAs zd 4∧zAs zd 4≤4294967295:=by unfold zAs;omega
  have lq:Later w1 (w1.alloc (.cells #[.int .u8 (zd[0]?.getD 0),.int .u8 (zd[1]?.getD 0),.int .u32 (zAs zd 4),.slice a1 (zd.length-8) c1] 376)):=bA _ _;have l1:=Later.trans hb1 lq;have r1:=(l1.block _ (bl9 R0.out)).trans R0.out;have hw1:=hb0.trans (l1.mono hb0.size);go_wp2_with fail;rw[HW4.out];generalize w1.alloc (.cells #[.int .u8 (zd[0]?.getD 0),.int .u8 (zd[1]?.getD 0),.int .u32 (zAs zd 4),.slice a1 (zd.length-8) c1] 376)=W at*;refine(zKr (zd[0]?.getD 0) (zd[1]?.getD 0) (zAs zd 4) (wat zd 4) _ W).mono ?_;rintro e w2 ⟨hb2,⟨he,rfl⟩|⟨he,rfl⟩⟩
  ·have HOE:Hid (oie zd=0):=by show _=_;unfold oie;rw[if_neg (fun h=>h HF.out),if_pos he]
   clear he;have rX:=(Below.block hb2 _ (bl9 r1)).trans r1;have hwX:=hw1.trans (hb2.mono hw1.size);have kX:=zAa rX;have fX:=zAc rX;go_wp2_with fail;generalize hV:World.setCell _ ⟨w.heap.size+1,1,none⟩ _=V;have hV8:V=zAi w2 (w.heap.size+1) 0 [.int .u16 (wat zd 4),.int .u16 (wat zd 4)]:=hV.symm;have hbV:But (fun b=>b=w.heap.size+1) w2 V:=by rw[hV8];exact zAf (E:=fun b=>b=w.heap.size+1) (n:=w.heap.size+1) rfl _ _ _ _ (But.refl _ _)
   have pV:=zAe ([.int .u16 (wat zd 4),.int .u16 (wat zd 4)]:List Value) rX rfl;rw[←hV8]at pV;clear hV hV8 kX fX;have PV:=zAa pV;have hwV:Below w.heap.size w V:=hwX.trans (hbV.below hwX.size (fun k hk e=>by omega));exact bodyPost_ret (v:= .tuple #[.agg #[.int .u16 (wat zd 4),.int .u16 (wat zd 4)],.int .i64 0]) (by simp[results,Tryz.results227,go_sem,PV]) rfl ⟨hwV,_,_,by rw[HOE.out],fun _=>⟨rfl,rfl⟩⟩
  ·have HOE:Hid (oie zd=12):=by show _=_;unfold oie;rw[if_neg (fun h=>h HF.out),if_neg (by rw[he];decide)]
   clear he;have rX:=(Below.block hb2 _ (bl9 r1)).trans r1;have hwX:=hw1.trans (hb2.mono hw1.size);have kX:=zAa rX;have fX:=zAc rX;go_wp2_with fail;generalize hV:World.setCell _ ⟨w.heap.size+1,1,none⟩ _=V;have hV8:V=zAi w2 (w.heap.size+1) 0 [.int .u16 0,.int .u16 0]:=hV.symm;have hbV:But (fun b=>b=w.heap.size+1) w2 V:=by rw[hV8];exact zAf (E:=fun b=>b=w.heap.size+1) (n:=w.heap.size+1) rfl _ _ _ _ (But.refl _ _)
   have pV:=zAe ([.int .u16 0,.int .u16 0]:List Value) rX rfl;rw[←hV8]at pV;clear hV hV8 kX fX;have PV:=zAa pV;have hwV:Below w.heap.size w V:=hwX.trans (hbV.below hwX.size (fun k hk e=>by omega));exact bodyPost_ret (v:= .tuple #[.agg #[.int .u16 0,.int .u16 0],.int .i64 12]) (by simp[results,Tryz.results227,go_sem,PV]) rfl ⟨hwV,_,_,by rw[HOE.out],fun h=>by rw[HOE.out]at h;exact absurd h (by decide)⟩
theorem zGj {z:Int} (hz:z≠6∧z≠17∧z≠1∧z≠47) {w:World} {b:Nat} (hb:w.heap[b]? =some (.map rdE 4)):(Instr.lookup 314 (.map (some b)) (.int .u8 z) true).run Tryz.prog w= .ok (.tuple #[.agg #[.nilFunc,.nilFunc],.bool false]) w:=
 zDf Tryz.underlying314 Tryz.underlying5 hb z _ false (.inr ⟨by
  obtain⟨h1,h2,h3,h4⟩:=hz;have e1:(z==6)=false:=by simp[h1]
  have e2:(z==17)=false:=by simp[h2]
  have e3:(z==1)=false:=by simp[h3]
  have e4:(z==47)=false:=by simp[h4]
  simp[rdE,Instr.findNow,Instr.sameNow,e1,e2,e3,e4],by kernel_rfl,rfl⟩)
theorem zDh(P:Program)(w:World)(a:Addr)(m:Mode):(store a .nilFunc m).run P w=stored P w a .nilFunc m:=run_store P w a _ m rfl
theorem of_other(pr:Int)(tos id ttl src dst:Int)(keep:Bool)(so:Value)(ad:Option Addr)(ld cd:Nat)(w:World)
  (hpr:pr≠6∧pr≠17∧pr≠1∧pr≠47):
  Calls Tryz.prog 112 #[.agg #[.int .u8 tos,.int .u16 id,.bool keep,.int .u8 ttl,.int .u8 pr,.int .u32 src,.int .u32 dst,so,.slice ad ld cd]] w fun e w'=>Below w.heap.size w w'∧e= .returned (.tuple #[.agg #[.int .u8 0,.int .u32 0,.int .u32 0,.int .u16 0,.int .u16 0],.int .i64 12]):=by
 have hb0:Below w.heap.size w ((w.alloc (.cells #[.int .u8 tos,.int .u16 id,.bool keep,.int .u8 ttl,.int .u8 pr,.int .u32 src,.int .u32 dst,so,.slice ad ld cd] 40)).alloc (.cells #[.int .u8 0,.int .u32 0,.int .u32 0,.int .u16 0,.int .u16 0] 103)):=(bA _ _).alloc (by simp) _;have p0:((w.alloc (.cells #[.int .u8 tos,.int .u16 id,.bool keep,.int .u8 ttl,.int .u8 pr,.int .u32 src,.int .u32 dst,so,.slice ad ld cd] 40)).alloc (.cells #[.int .u8 0,.int .u32 0,.int .u32 0,.int .u16 0,.int .u16 0] 103)).heap[w.heap.size]? =some (.cells #[.int .u8 tos,.int .u16 id,.bool keep,.int .u8 ttl,.int .u8 pr,.int .u32 src,.int .u32 dst,so,.slice ad ld cd] 40):=(Below.heap_alloc _ _ _ (by simp)).trans (heap_alloc_new w _);have r0:=heap_alloc_new (w.alloc (.cells #[.int .u8 tos,.int .u16 id,.bool keep,.int .u8 ttl,.int .u8 pr,.int .u32 src,.int .u32 dst,so,.slice ad ld cd] 40)) (.cells #[.int .u8 0,.int .u32 0,.int .u32 0,.int .u16 0,.int .u16 0] 103);rw[World.size_alloc]at r0;have hs0:((w.alloc (.cells #[.int .u8 tos,.int .u16 id,.bool keep,.int .u8 ttl,.int .u8 pr,.int .u32 src,.int .u32 dst,so,.slice ad ld cd] 40)).alloc (.cells #[.int .u8 0,.int .u32 0,.int .u32 0,.int .u16 0,.int .u16 0] 103)).heap.size=w.heap.size+2:=by simp
 have HS0:=zAd hs0;have P0:=zAd p0;have R0:=zAd r0;clear r0 hs0 p0;go_enter Tryz.func112,Tryz.ntmps112;go_upto_region 1 with fail;generalize (w.alloc (.cells #[.int .u8 tos,.int .u16 id,.bool keep,.int .u8 ttl,.int .u8 pr,.int .u32 src,.int .u32 dst,so,.slice ad ld cd] 40)).alloc (.cells #[.int .u8 0,.int .u32 0,.int .u32 0,.int .u16 0,.int .u16 0] 103)=w0 at*;have hlt0:w.heap.size+1<w0.heap.size:=by have:=HS0.out;omega
 have p0:=P0.out;go_cut [4,5] (fun q x wx=>∃g,q= .pointer (some ⟨g,0,none⟩)∧x= .bool false∧wx.heap[g]? =some (.cells #[.nilFunc,.nilFunc] 312 (0,0))∧Below w0.heap.size w0 wx)
 case first=>
  refine zAl (R:=But (fun b=>w0.heap.size≤b)) 10 rfl (by kernel_rfl) ?_;have hd:Later w0 w0.drew:=Later.drew w0;have pd:=(hd.block w.heap.size (bl9 p0)).trans p0;have bd:Below w0.heap.size w0 w0.drew:=hd;generalize w0.drew=Wd at*;have ha:∀v1,But (fun b=>w0.heap.size≤b) Wd v1→∀i,v1.cell? ⟨w.heap.size,i,none⟩=#[Value.int .u8 tos,.int .u16 id,.bool keep,.int .u8 ttl,.int .u8 pr,.int .u32 src,.int .u32 dst,so,.slice ad ld cd][i]? :=fun v1 h=>zAa ((h.block w.heap.size (bl9 pd) (by omega)).trans pd);have hz:w0.heap.size≤Wd.heap.size:=bd.size;refine tX (But.pre _) 1 ?_;refine tX (But.pre _) 2 ?_;refine zBv 0 7 rfl rfl (by kernel_rfl) rfl rfl ?_ ?_
  ·skip
   refine zAj 167 #[] (by go_simp) ?_;refine(zC4 Wd).mono ?_;rintro e W3 ⟨m,rfl,hb3,hM3⟩;have l3:Later Wd W3:=hb3;refine⟨But.of l3,?_⟩;simp only[Act.put,sA,sB,sC];have hlk:=zGj hpr hM3;refine zBv 3 7 rfl rfl (by kernel_rfl) rfl rfl ?_ ?_
   ·unfold Oper.wp
    go_simp;refine⟨But.refl _ _,?_⟩;clear hlk;refine tX (But.pre _) 4 ?_;refine tX (But.pre _) 5 ?_;refine tX (But.pre _) 6 ?_;refine tO 7 ?_;unfold Oper.wp;go_simp;have l4:Later W3 (W3.alloc (.cells #[.nilFunc,.nilFunc] 312)):=bA _ _;have g4:=heap_alloc_new W3 (.cells #[.nilFunc,.nilFunc] 312);have b4:Below w0.heap.size w0 (W3.alloc (.cells #[.nilFunc,.nilFunc] 312)):=(bd.trans (l3.mono hz)).trans (l4.mono (Nat.le_trans hz l3.size));have hge:w0.heap.size≤W3.heap.size:=Nat.le_trans hz l3.size;refine⟨But.of l4,?_⟩;generalize W3.alloc (.cells #[.nilFunc,.nilFunc] 312)=W4 at*;generalize W3.heap.size=g at*;have kg:=zAa g4;have fg:=zAc g4;have hsf:=zDh Tryz.prog;refine tO 8 ?_;unfold Oper.wp;go_simp;generalize hV:World.setCell _ ⟨g,1,none⟩ _=V;have hV8:V=zAi W4 (g) 0 [.nilFunc,.nilFunc]:=hV.symm;have hbV:But (fun b=>w0.heap.size≤b) W4 V:=by rw[hV8];exact zAf (E:=fun b=>w0.heap.size≤b) (n:=g) hge _ _ _ _ (But.refl _ _)
    have pV:=zAe [Value.nilFunc,.nilFunc] g4 rfl;rw[←hV8]at pV;clear hV hV8 kg fg hsf;refine⟨hbV,?_⟩;refine tO 9 ?_;unfold Oper.wp;go_simp;refine⟨But.refl _ _,?_⟩;refine tD ?_;have hbl:Below w0.heap.size w0 V:=b4.trans (hbV.below b4.size (fun k hk e=>by omega));clear ha;go_wp2_with fail;go_meet
    exact⟨_,rfl,rfl,pV,hbl⟩
   ·unfold Oper.wp
    go_simp;have l4:Later W3 (W3.alloc (.cells #[.nilFunc,.nilFunc] 312)):=bA _ _;have g4:=heap_alloc_new W3 (.cells #[.nilFunc,.nilFunc] 312);have b4:Below w0.heap.size w0 (W3.alloc (.cells #[.nilFunc,.nilFunc] 312)):=(bd.trans (l3.mono hz)).trans (l4.mono (Nat.le_trans hz l3.size));have hge:w0.heap.size≤W3.heap.size:=Nat.le_trans hz l3.size;have hM4:=(l4.block m (bl9 hM3)).trans hM3;refine⟨But.of l4,?_⟩;clear hlk;generalize W3.alloc (.cells #[.nilFunc,.nilFunc] 312)=W4 at*;generalize W3.heap.size=g at*;have hlk:=zGj hpr hM4;refine tO 3 ?_;unfold Oper.wp;go_simp;refine⟨But.refl _ _,?_⟩;clear hlk;refine tX (But.pre _) 4 ?_;refine tX (But.pre _) 5 ?_;refine tX (But.pre _) 6 ?_;have kg:=zAa g4;have fg:=zAc g4;have hsf:=zDh Tryz.prog;refine tO 8 ?_;unfold Oper.wp;go_simp;generalize hV:World.setCell _ ⟨g,1,none⟩ _=V;have hV8:V=zAi W4 (g) 0 [.nilFunc,.nilFunc]:=hV.symm;have hbV:But (fun b=>w0.heap.size≤b) W4 V:=by rw[hV8];exact zAf (E:=fun b=>w0.heap.size≤b) (n:=g) hge _ _ _ _ (But.refl _ _)
    have pV:=zAe [Value.nilFunc,.nilFunc] g4 rfl;rw[←hV8]at pV;clear hV hV8 kg fg hsf;refine⟨hbV,?_⟩;refine tO 9 ?_;unfold Oper.wp;go_simp;refine⟨But.refl _ _,?_⟩;refine tD ?_;have hbl:Below w0.heap.size w0 V:=b4.trans (hbV.below b4.size (fun k hk e=>by omega));clear ha;go_wp2_with fail;go_meet
    exact⟨_,rfl,rfl,pV,hbl⟩
  ·unfold Oper.wp
   go_simp;have l4:Later Wd (Wd.alloc (.cells #[.nilFunc,.nilFunc] 312)):=bA _ _;have g4:=heap_alloc_new Wd (.cells #[.nilFunc,.nilFunc] 312);have b4:Below w0.heap.size w0 (Wd.alloc (.cells #[.nilFunc,.nilFunc] 312)):=bd.trans (l4.mono hz);refine⟨But.of l4,?_⟩;have hge:w0.heap.size≤Wd.heap.size:=hz;generalize Wd.alloc (.cells #[.nilFunc,.nilFunc] 312)=W4 at*;generalize Wd.heap.size=g at*;refine tO 0 ?_;refine zAj 167 #[] (by go_simp) ?_;refine(zC4 W4).mono ?_;rintro e W5 ⟨m,rfl,hb5,hM5⟩;have l5:Later W4 W5:=hb5;have g5:=(l5.block g (bl9 g4)).trans g4;have b5:Below w0.heap.size w0 W5:=b4.trans (l5.mono b4.size);refine⟨But.of l5,?_⟩;simp only[Act.put,sA,sB,sC];have hlk:=zGj hpr hM5;refine tO 3 ?_;unfold Oper.wp;go_simp;refine⟨But.refl _ _,?_⟩;clear hlk;refine tX (But.pre _) 4 ?_;refine tX (But.pre _) 5 ?_;refine tX (But.pre _) 6 ?_;have kg:=zAa g5;have fg:=zAc g5;have hsf:=zDh Tryz.prog;refine tO 8 ?_;unfold Oper.wp;go_simp;generalize hV:World.setCell _ ⟨g,1,none⟩ _=V;have hV8:V=zAi W5 (g) 0 [.nilFunc,.nilFunc]:=hV.symm;have hbV:But (fun b=>w0.heap.size≤b) W5 V:=by rw[hV8];exact zAf (E:=fun b=>w0.heap.size≤b) (n:=g) hge _ _ _ _ (But.refl _ _)
   have pV:=zAe [Value.nilFunc,.nilFunc] g5 rfl;rw[←hV8]at pV;clear hV hV8 kg fg hsf;refine⟨hbV,?_⟩;refine tO 9 ?_;unfold Oper.wp;go_simp;refine⟨But.refl _ _,?_⟩;refine tD ?_;have hbl:Below w0.heap.size w0 V:=b5.trans (hbV.below b5.size (fun k hk e=>by omega));clear ha;go_wp2_with fail;go_meet
   exact⟨_,rfl,rfl,pV,hbl⟩
 case rest=>
  obtain⟨g,rfl,rfl,hg,hbc⟩:=hcut;have rX:=(hbc.block _ (bl9 R0.out)).trans R0.out;have hwX:=hb0.trans (hbc.mono hb0.size);have kX:=zAa rX;have fX:=zAc rX;go_wp2_with fail;generalize hV:World.setCell _ ⟨w.heap.size+1,4,none⟩ _=V;have hV8:V=zAi wc (w.heap.size+1) 0 [.int .u8 0,.int .u32 0,.int .u32 0,.int .u16 0,.int .u16 0]:=hV.symm;have hbV:But (fun b=>b=w.heap.size+1) wc V:=by rw[hV8];exact zAf (E:=fun b=>b=w.heap.size+1) (n:=w.heap.size+1) rfl _ _ _ _ (But.refl _ _)
  have pV:=zAe ([.int .u8 0,.int .u32 0,.int .u32 0,.int .u16 0,.int .u16 0]:List Value) rX rfl;rw[←hV8]at pV;clear hV hV8 kX fX;have PV:=zAa pV;have hwV:Below w.heap.size w V:=hwX.trans (hbV.below hwX.size (fun k hk e=>by omega));exact bodyPost_ret (v:= .tuple #[.agg #[.int .u8 0,.int .u32 0,.int .u32 0,.int .u16 0,.int .u16 0],.int .i64 12]) (by simp[results,Tryz.results112,go_sem,PV]) rfl ⟨hwV,rfl⟩
end Go.Proofs.YteaeilghamjjkaaGreatDoor
