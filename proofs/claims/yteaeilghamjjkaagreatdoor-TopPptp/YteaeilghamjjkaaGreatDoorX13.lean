import Derived.Deep.DeepCutAuto
import Derived.Deep.CutBlock
import Derived.Test.YteaeilghamjjkaaGreatDoorX14
import Derived.OrdersIn
import Derived.RangeFuncCalls
import Derived.MapKept
namespace Go.Proofs.YteaeilghamjjkaaGreatDoor
open Go.RowKit Go.Shelf
set_option maxRecDepth 100000
set_option linter.unusedVariables false
set_option linter.unusedSimpArgs false
def fb (fl k:Int):Int:=bits .and .u8 fl k
def bgn (fl:Int):Bool:=bits .and .u8 fl 23==2
theorem zGh(fl:Int)(w:World):Calls Tryz.prog 236 #[.int .u8 fl] w fun e w'=>e= .returned (.bool (bgn fl))∧w'=w:=by
 go_enter Tryz.func236,Tryz.ntmps236;go_wp2_with fail;go_ret
 exact⟨rfl,rfl⟩
def nwsS (b:Bool) (fl:Int):Int:=if b then 3 else if bgn fl then 2 else 4
theorem zHf(b:Bool)(fl:Int)(w:World):Calls Tryz.prog 321 #[.bool b,.int .u8 fl] w fun e w'=>e= .returned (.int .i64 (nwsS b fl))∧w'=w:=by
 cases b
 ·go_enter Tryz.func321,Tryz.ntmps321
  go_wp2_with fail;refine(zGh fl _).mono ?_;rintro e w1 ⟨rfl,rfl⟩;rcases Bool.eq_false_or_eq_true (bgn fl)with h|h
  ·rw[h];go_wp2_with fail;go_ret;exact⟨by simp[nwsS,h],rfl⟩
  ·rw[h];go_wp2_with fail;go_ret;exact⟨by simp[nwsS,h],rfl⟩
 ·go_enter Tryz.func321,Tryz.ntmps321
  go_wp2_with fail;go_ret
  exact⟨rfl,rfl⟩
def nws (b:Bool) (fl:Int):Int:=if(fb fl 4 !=0)then 1 else if(fb fl 2 !=0)then nwsS b fl else if(fb fl 1 !=0)then 5 else if(fb fl 16 !=0)then 6 else 0
theorem nws_bd(b:Bool)(fl:Int):nws b fl=0∨nws b fl=1∨nws b fl=2∨nws b fl=3∨nws b fl=4∨nws b fl=5∨nws b fl=6:=by
 unfold nws nwsS;repeat' split
 all_goals simp
theorem zN5(b:Bool)(fl:Int)(w:World):Calls Tryz.prog 294 #[.bool b,.int .u8 fl] w fun e w'=>e= .returned (.int .i64 (nws b fl))∧w'=w:=by
 unfold nws fb;rcases Bool.eq_false_or_eq_true (bits .and .u8 fl 4 !=0)with h4|h4
 ·rw[h4]
  go_enter Tryz.func294,Tryz.ntmps294;go_wp2_with fail;go_ret
  exact⟨rfl,rfl⟩
 rcases Bool.eq_false_or_eq_true (bits .and .u8 fl 2 !=0)with h2|h2
 ·rw[h4,h2]
  go_enter Tryz.func294,Tryz.ntmps294;go_wp2_with fail;refine(zHf b fl _).mono ?_;rintro e w1 ⟨rfl,rfl⟩;go_wp2_with fail;go_ret
  exact⟨rfl,rfl⟩
 rcases Bool.eq_false_or_eq_true (bits .and .u8 fl 1 !=0)with h1|h1
 ·rw[h4,h2,h1]
  go_enter Tryz.func294,Tryz.ntmps294;go_wp2_with fail;go_ret
  exact⟨rfl,rfl⟩
 rcases Bool.eq_false_or_eq_true (bits .and .u8 fl 16 !=0)with h16|h16
 ·rw[h4,h2,h1,h16]
  go_enter Tryz.func294,Tryz.ntmps294;go_wp2_with fail;go_ret
  exact⟨rfl,rfl⟩
 ·rw[h4,h2,h1,h16]
  go_enter Tryz.func294,Tryz.ntmps294;go_wp2_with fail;go_ret
  exact⟨rfl,rfl⟩
def nx (s:Int) (b:Bool) (fl:Int):Int:=if(fb fl 7==3)then 0 else(row7 s)[(nws b fl).toNat]?.getD 0
theorem zK6(s:Int):(row7 s).length=7:=by unfold row7;repeat' (first|rfl|split)
theorem row7_eq(s:Int):∃a0 a1 a2 a3 a4 a5 a6,row7 s=[a0,a1,a2,a3,a4,a5,a6]:=by
 have:=zK6 s;match row7 s,this with
 | [a0,a1,a2,a3,a4,a5,a6],_=>exact⟨_,_,_,_,_,_,_,rfl⟩
set_option maxHeartbeats 4000000 in
theorem next_any(s:Int)(b:Bool)(fl:Int)(w:World):Calls Tryz.prog 243 #[.int .i64 s,.bool b,.int .u8 fl] w fun e w'=>e= .returned (.tuple #[.int .i64 (nx s b fl),.bool (nx s b fl !=0)])∧Below w.heap.size w w':=by
 unfold nx fb;rcases Bool.eq_false_or_eq_true (bits .and .u8 fl 7==3)with h7|h7
 ·rw[h7]
  go_enter Tryz.func243,Tryz.ntmps243;go_wp2_with fail;exact bodyPost_ret (v:= .tuple #[.int .i64 0,.bool false]) (by simp[results,Tryz.results243,go_sem]) rfl ⟨rfl,Below.refl _ _⟩
 ·rw[h7]
  obtain⟨a0,a1,a2,a3,a4,a5,a6,hrow⟩:=row7_eq s;have hL:∀(W:World) (b:Nat),W.heap[b]? =some (.map tabE 8)→(Instr.lookup 426 (.map (some b)) (.int .i64 s) false).run Tryz.prog W= .ok (.agg #[.int .i64 a0,.int .i64 a1,.int .i64 a2,.int .i64 a3,.int .i64 a4,.int .i64 a5,.int .i64 a6]) W:=fun W b hb=>by rw[look7 hb s,hrow];rfl
  go_enter Tryz.func243,Tryz.ntmps243;go_upto_region 3 with fail;go_cut [8] (fun v wx=>v= .int .i64 ((row7 s)[(nws b fl).toNat]?.getD 0)∧Below w.heap.size w wx)
  case first=>
   refine zAn (R:=Later) Later.pre Later.drew 8 rfl (by kernel_rfl) (fun W1 hW1=> ?_);refine rX Later.pre 1 ?_;refine rX Later.pre 3 ?_;refine rX Later.pre 4 ?_;refine rO 0 (fun W2 hW2=> ?_);refine zAi 293 #[] (by go_simp) ?_;refine(zK5 W2).mono ?_;rintro e W3 ⟨m,rfl,hb3,hM3⟩;refine⟨hb3,?_⟩;simp only[Act.put,sA,sB,sC];refine anyR_val Later.pre 2 rfl (by kernel_rfl) (by kernel_rfl) (by kernel_rfl) (fun _ _ _ _ h=>h) rfl ?_;refine⟨.agg #[.int .i64 a0,.int .i64 a1,.int .i64 a2,.int .i64 a3,.int .i64 a4,.int .i64 a5,.int .i64 a6],fun w1 hw1=> ?_,?_⟩
   ·have:=hL w1 m ((hw1.block m (eS hM3)).trans hM3)
    go_simp
   simp only[Act.put,sA,sB,sC];refine rO 5 (fun W4 hW4=> ?_);refine zAi 294 #[.bool b,.int .u8 fl] (by go_simp) ?_;refine(zN5 b fl W4).mono ?_;rintro e W5 ⟨rfl,rfl⟩;refine⟨Later.refl _,?_⟩;simp only[Act.put,sA,sB,sC];have hbel:∀W6,Later W5 W6→Below w.heap.size w W6:=fun W6 h=>(((hW1.trans hW2).trans hb3).trans hW4).trans h;clear hL;rcases nws_bd b fl with h|h|h|h|h|h|h<;>
   ·rw[h]
    refine rX Later.pre 6 ?_;refine rX Later.pre 7 ?_;refine rD (fun W6 hW6=> ?_);have hB6:=hbel W6 hW6;clear hbel;go_wp2_with fail;go_meet
    rw[hrow,h];refine⟨?_,hB6⟩;first|rfl|kernel_rfl
  case rest=>
   obtain⟨rfl,hbx⟩:=hcut;clear hL hrow;generalize hr:(row7 s)[(nws b fl).toNat]?.getD 0=r;have HR:=zAc hr;clear hr;go_wp2_with fail;exact bodyPost_ret (v:= .tuple #[.int .i64 r,.bool (r !=0)]) (by simp[results,Tryz.results243,go_sem]) rfl ⟨by rw[HR.out],hbx⟩
structure Gs where
 lo:Int
 hi:Int
 now:Int
 ls:List Ru
 gr:Nat
 gf:Nat
 gt:Nat
 gb:Nat
 gp:Nat
 vr:Value
 ve:Value
 cf:Nat
 cp:Nat
def gtc (s:Gs):List Value:=[.int .u16 s.lo,.int .u16 s.hi,.int .i64 s.now,.int .i64 0,.pointer (some ⟨s.gr,0,none⟩),.map (some s.gf),.pointer (some ⟨s.gt,0,none⟩),.pointer (some ⟨s.gb,0,none⟩),.map (some s.gp)]
structure GI (base:Nat) (W:World) (g:Nat) (s:Gs):Prop where
 bs:base≤g
 gc:W.heap[g]? =some (.cells (gtc s).toArray 91 (0,0))
 rl:RL 285 base W s.gr s.vr s.ls
 tb:TB base W s.gt 128 0 0 (fun _=>[])
 bl:BL 174 base W s.gb s.ve []
 fl:W.heap[s.gf]? =some (.map #[] s.cf)
 pl:W.heap[s.gp]? =some (.map #[] s.cp)
theorem TB.laterD {base:Nat} {A B:World} {b:Nat} {lim cnt trn:Int} {ls:Nat→List Rw} (h:TB base A b lim cnt trn ls)(l:Later A B):TB base B b lim cnt trn ls:=let⟨vs,h⟩:=h;⟨vs,h.later l⟩
theorem GI.later {base:Nat} {A B:World} {g:Nat} {s:Gs} (h:GI base A g s)(l:Later A B):GI base B g s:=
 ⟨h.bs,zAb l h.gc,h.rl.later l,h.tb.laterD l,h.bl.later l,zAb l h.fl,zAb l h.pl⟩
def calmQ (Q:Act→World→Prop):Exit→Act→World→Prop:=fun e a w=>e= .normal∧Q a w
variable {P:Program} {R:World→World→Prop} {w:World} {a:Act} {ops:List Oper}
theorem anyU_two {R1 R2:World→World→Prop} {D:List Nat} {fuel:Nat} {listed:Array Bool} {Q:Exit→Act→World→Prop} (i j:Nat) {oi oj:Oper} (hi:zBn ops i=some oi)(hj:zBn ops j=some oj)(hr:Region.ready .any ops.toArray listed=[i,j])(gi:Region.wanted oi (yielded ops.toArray a.tmps)=true)(gj:Region.wanted oj (yielded ops.toArray a.tmps)=true)
  (h1:oi.wp P a w (fun a' w''=>Rj R1 R2 D i w w''∧zA9 P .any ops.toArray Q R1 R2 D fuel (listed.setIfInBounds i true) a' w'') Q)
  (h2:oj.wp P a w (fun a' w''=>Rj R1 R2 D j w w''∧zA9 P .any ops.toArray Q R1 R2 D fuel (listed.setIfInBounds j true) a' w'') Q):
  zA9 P .any ops.toArray Q R1 R2 D (fuel+1) listed a w:=by
 have hi':ops.toArray[i]? =some oi:=by rw[←hi,zAz];simp
 have hj':ops.toArray[j]? =some oj:=by rw[←hj,zAz];simp
 refine⟨fun h0=>(by rw[hr]at h0;cases h0),fun k hk=> ?_⟩;rw[hr]at hk;unfold wpOp;rcases List.mem_cons.1 hk with rfl|hk
 ·rw[hi'];simp only[gi,if_true];exact .inl h1
 ·obtain rfl:k=j:=by simpa using hk
  rw[hj'];simp only[gj,if_true];exact .inl h2
theorem wp_appT {o:Oper} {K:Act→World→Prop} {Q:Exit→Act→World→Prop} (s x:Operand)(t u:TypeId)(hop:o.op=Op.call { callee:=Callee.builtin Builtin.append,args:=#[s,x],argTypes:=#[t,u] })
  (v sx:Value)(hs:a.eval s=v)(hx:a.eval x=sx)(v':Value)(w':World)(hrun:(Builtin.append_ #[t,u] o.type #[v,sx]).run P w= .ok v' w')(hK:K (a.put o.dst v') w'):o.wp P a w K Q:=by
 unfold Oper.wp;simp[execOp,hop,resolve,invoke,builtin,hs,hx,hrun,Result.andThen]
 exact hK
end Go.Proofs.YteaeilghamjjkaaGreatDoor
namespace Go.Proofs.YteaeilghamjjkaaGreatDoor
open Go.RowKit Go.Shelf
set_option maxRecDepth 100000
set_option linter.unusedVariables false
set_option linter.unusedSimpArgs false
theorem zC6 {P:Program} {c:Code} {Q:Exit→Act→World→Prop} {a:Act} {w:World} (h:c.wp P (calmQ (Q .normal)) a w):c.wp P Q a w:=wp_mono h (fun e a w h=>by obtain⟨rfl,h⟩:=h;exact h)
theorem zCk(p:Value)(a:Option Addr)(cap:Nat)(w:World):Calls Tryz.prog 51 #[p,.slice a 0 cap] w fun e w'=>e= .returned (.tuple #[])∧w'=w:=by
 go_enter Tryz.func51,Tryz.ntmps51;go_upto_region 1 with fail;go_loopw [8] (fun iv wr=>iv= .int .i64 0∧wr=w) (fun _ _=>0)
 case atStart=>exact⟨rfl,rfl⟩
 case round=>
  obtain⟨rfl,hw⟩:=hrel;go_wp2_with fail;go_end0
  exact⟨rfl,rfl⟩
theorem zCp {W W':World} {base:Nat} {e t:TypeId} {size:Nat} {v:Value} {n:Nat} {xs:List Value} (h:W.ownsRow base e size v n xs) {g:Nat} (hb:But (fun b=>b=g) W W') {cur:Array Value} {f:Nat × Nat} (hg:W.heap[g]? =some (.cells cur t f))(hne:e≠t):W'.ownsRow base e size v n xs:=by
 obtain⟨h1,h2|⟨b,cap,cur',e',hb',hh,r⟩⟩:=h
 ·exact ⟨h1,.inl h2⟩
 ·refine ⟨h1,.inr ⟨b,cap,cur',e',hb',(hb.block b (eS hh) (fun eq=> ?_)).trans hh,r⟩⟩
  have eq':b=g:=eq;rw[eq',hg]at hh;cases hh
  exact hne rfl
theorem zC7 {W W':World} {g b:Nat} {o:Obj} (hb:But (fun b=>b=g) W W')(h:W.heap[b]? =some o) {cur:Array Value} {t:TypeId} {f:Nat × Nat} (hg:W.heap[g]? =some (.cells cur t f))(hne:o≠ .cells cur t f):W'.heap[b]? =some o:=
 (hb.block b (eS h) (fun eq=>by
  have eq':b=g:=eq;rw[eq',hg]at h;cases h
  exact hne rfl)).trans h
def GsK (base:Nat) (lo hi:Int) (s:Gs):Prop:=s.lo=lo∧s.hi=hi∧(0≤s.now∧s.now≤549755813888)∧s.gf≠s.gp∧base≤s.gf∧base≤s.gp
def SmG (s s':Gs):Prop:=s'.gb=s.gb∧∀b lo hi,GsK b lo hi s→GsK b lo hi s'
theorem zCl {W:World} {base base':Nat} {e:TypeId} {size:Nat} {v:Value} {n:Nat} {xs:List Value} (h:W.ownsRow base e size v n xs)(hb:base'≤base):W.ownsRow base' e size v n xs:=by
 obtain⟨h1,h2|⟨b,cap,cur,e',hb',r⟩⟩:=h
 ·exact ⟨h1,.inl h2⟩
 ·exact ⟨h1,.inr ⟨b,cap,cur,e',Nat.le_trans hb hb',r⟩⟩
theorem BL.monoG {t:TypeId} {base base':Nat} {W:World} {b:Nat} {v:Value} {l:List Ex} (h:BL t base W b v l)(hb:base'≤base):BL t base' W b v l:=⟨Nat.le_trans hb h.1,h.2.1,zCl h.2.2 hb⟩
theorem TB.monoG {base base':Nat} {W:World} {b:Nat} {lim cnt trn:Int} {ls:Nat→List Rw} (h:TB base W b lim cnt trn ls)(hb:base'≤base):TB base' W b lim cnt trn ls:=by
 obtain⟨vs,q1,q2,q3,q4,q5⟩:=h;exact⟨vs,q1,Nat.le_trans hb q2,q3,fun i hi=>zCl (q4 i hi) hb,q5⟩
end Go.Proofs.YteaeilghamjjkaaGreatDoor
