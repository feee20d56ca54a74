import Derived.Test.YteaeilghamjjkaaGreatDoorX20
import Derived.Deep.DeepCutAuto
import Derived.MapKept
import Derived.Laws.IdiomRangeMap
import Derived.Maps.RangeRun
namespace Go.Proofs.YteaeilghamjjkaaGreatDoor
open Go.RowKit Go.Shelf
set_option maxRecDepth 100000
set_option linter.unusedVariables false
set_option linter.unusedSimpArgs false
theorem zFa(p:Value)(a:Option Addr)(cap:Nat)(w:World):Calls Tryz.prog 51 #[p,.slice a 0 cap] w fun e w'=>e= .returned (.tuple #[])∧w'=w:=by
 go_enter Tryz.func51,Tryz.ntmps51;go_upto_region 1 with fail;go_loopw [8] (fun iv wr=>iv= .int .i64 0∧wr=w) (fun _ _=>0)
 case atStart=>exact⟨rfl,rfl⟩
 case round=>
  obtain⟨rfl,hw⟩:=hrel;go_wp2_with fail;go_end0
  exact⟨rfl,rfl⟩
theorem zPi {W W':World} {base:Nat} {e t:TypeId} {size:Nat} {v:Value} {n:Nat} {xs:List Value} (h:W.ownsRow base e size v n xs) {g:Nat} (hb:But (fun b=>b=g) W W') {cur:Array Value} {f:Nat × Nat} (hg:W.heap[g]? =some (.cells cur t f))(hne:e≠t):W'.ownsRow base e size v n xs:=by
 obtain⟨h1,h2|⟨b,cap,cur',e',hb',hh,r⟩⟩:=h
 ·exact ⟨h1,.inl h2⟩
 ·refine ⟨h1,.inr ⟨b,cap,cur',e',hb',(hb.block b (eS hh) (fun eq=> ?_)).trans hh,r⟩⟩
  have eq':b=g:=eq;rw[eq',hg]at hh;cases hh
  exact hne rfl
theorem zQ8 {W W':World} {g b:Nat} {o:Obj} (hb:But (fun b=>b=g) W W')(h:W.heap[b]? =some o) {cur:Array Value} {t:TypeId} {f:Nat × Nat} (hg:W.heap[g]? =some (.cells cur t f))(hne:o≠ .cells cur t f):W'.heap[b]? =some o:=
 (hb.block b (eS h) (fun eq=>by
  have eq':b=g:=eq;rw[eq',hg]at h;cases h
  exact hne rfl)).trans h
def GsK (base:Nat) (lo hi:Int) (s:Gs):Prop:=s.lo=lo∧s.hi=hi∧(0≤s.now∧s.now≤549755813888)∧s.gf≠s.gp∧base≤s.gf∧base≤s.gp
def SmG (s s':Gs):Prop:=s'.gb=s.gb∧∀b lo hi,GsK b lo hi s→GsK b lo hi s'
theorem zKs {W:World} {base base':Nat} {e:TypeId} {size:Nat} {v:Value} {n:Nat} {xs:List Value} (h:W.ownsRow base e size v n xs)(hb:base'≤base):W.ownsRow base' e size v n xs:=by
 obtain⟨h1,h2|⟨b,cap,cur,e',hb',r⟩⟩:=h
 ·exact ⟨h1,.inl h2⟩
 ·exact ⟨h1,.inr ⟨b,cap,cur,e',Nat.le_trans hb hb',r⟩⟩
theorem BL.monoG {t:TypeId} {base base':Nat} {W:World} {b:Nat} {v:Value} {l:List Ex} (h:BL t base W b v l)(hb:base'≤base):BL t base' W b v l:=⟨Nat.le_trans hb h.1,h.2.1,zKs h.2.2 hb⟩
theorem TB.monoG {base base':Nat} {W:World} {b:Nat} {lim cnt trn:Int} {ls:Nat→List Rw} (h:TB base W b lim cnt trn ls)(hb:base'≤base):TB base' W b lim cnt trn ls:=by
 obtain⟨vs,q1,q2,q3,q4,q5⟩:=h;exact⟨vs,q1,Nat.le_trans hb q2,q3,fun i hi=>zKs (q4 i hi) hb,q5⟩
def RuE (W:World) (E:Nat→Prop):Prop:=∀b,E b→∃cur t f,W.heap[b]? =some (.cells cur t f)∧(t=285∨t=125)
theorem RuE.keep {W W':World} {E:Nat→Prop} (hE:RuE W E)(hb:But E W W') {b:Nat} {o:Obj} (h:W.heap[b]? =some o)(ho:∀cur t f,o= .cells cur t f→t≠285∧t≠125):W'.heap[b]? =some o:=
 (hb.block b (eS h) (fun e=>by
  obtain⟨cur,t,f,h1,h2⟩:=hE b e;rw[h]at h1;have:=ho cur t f (Option.some.inj h1);rcases h2 with h2|h2
  ·exact this.1 h2
  ·exact this.2 h2)).trans h
theorem RuE.own {W W':World} {E:Nat→Prop} (hE:RuE W E)(hb:But E W W') {base:Nat} {e:TypeId} {size:Nat} {v:Value} {n:Nat} {xs:List Value} (h:W.ownsRow base e size v n xs)(h1:e≠285)(h2:e≠125):W'.ownsRow base e size v n xs:=by
 obtain⟨q1,q2|⟨b,cap,cur',e',hb',hh,r⟩⟩:=h
 ·exact ⟨q1,.inl q2⟩
 ·exact ⟨q1,.inr ⟨b,cap,cur',e',hb',hE.keep hb hh (fun c t f e=>by cases e;exact⟨h1,h2⟩),r⟩⟩
theorem GI.rules {base g:Nat} {W W':World} {s:Gs} (h:GI base W g s) {E:Nat→Prop} (hE:RuE W E)(hb:But E W W') {v:Value} {l:List Ru} (hl:RL 285 base W' s.gr v l):GI base W' g { s with vr:=v,ls:=l } :=by
 obtain⟨vs,q1,q2,q3,q4,q5⟩:=h.tb;exact⟨h.bs,hE.keep hb h.gc (fun c t f e=>by cases e;exact⟨by decide,by decide⟩),hl,⟨vs,q1,q2,hE.keep hb q3 (fun c t f e=>by cases e;exact⟨by decide,by decide⟩),fun i hi=>hE.own hb (q4 i hi) (by decide) (by decide),q5⟩,⟨h.bl.1,hE.keep hb h.bl.2.1 (fun c t f e=>by cases e;exact⟨by decide,by decide⟩),hE.own hb h.bl.2.2 (by decide) (by decide)⟩,hE.keep hb h.fl (fun c t f e=>by cases e),hE.keep hb h.pl (fun c t f e=>by cases e)⟩
theorem RL.ruE {base:Nat} {W:World} {b:Nat} {v:Value} {l:List Ru} (h:RL 285 base W b v l):RuE W (fun g=>g=b∨v.ownBlock=some g):=fun g hg=>by
 rcases hg with rfl|hg
 ·exact ⟨_,_,_,h.2.1,.inl rfl⟩
 ·obtain ⟨_,⟨rfl,_⟩|⟨g',cap,cur,rfl,_,hh,_⟩⟩:=h.2.2
  ·cases hg
  ·cases hg
   exact⟨_,_,_,hh,.inr rfl⟩
def mqR:Ru:=⟨1,0,167772160,8,16909060,0,0,0⟩
theorem mq_wf:wfR mqR:=by unfold wfR mqR;simp
theorem mq_ok:adE [] mqR=0:=by decide+kernel
theorem mq_list:adL [] mqR=[mqR]:=by rw[zSu mq_ok];rfl
theorem zTu(e:Bool)(p a:Int)(w:World):(Instr.checkKey e 10000 119 (.agg #[.int .u8 p,.int .u32 a])).run Tryz.prog w= .ok () w:=by kernel_rfl
theorem zTv(w:World):(zeroValue 117).run Tryz.prog w= .ok (.pointer none) w:=by kernel_rfl
theorem look_src {w:World} {b c:Nat} (hb:w.heap[b]? =some (.map #[] c))(p a:Int):(Instr.lookup 89 (.map (some b)) (.agg #[.int .u8 p,.int .u32 a]) false).run Tryz.prog w= .ok (.pointer none) w:=by
 have hf:(Instr.findKey 119 (.agg #[.int .u8 p,.int .u32 a]) []).run Tryz.prog w= .ok none w:=MapKept.run_findKey Tryz.underlying119 rfl;simp[Instr.lookup,run_underlying Tryz.underlying89,MapKept.run_getObj_map hb,zTu,hf,zTv,Result.andThen]
end Go.Proofs.YteaeilghamjjkaaGreatDoor
namespace Go.Proofs.YteaeilghamjjkaaGreatDoor.Pm
set_option maxRecDepth 100000
end Go.Proofs.YteaeilghamjjkaaGreatDoor.Pm
