import Derived.Deep.Quiet
import Derived.Below
import Derived.WalkKit
import Derived.Shelf.Abstract
import Derived.KernelRfl
import Derived.Defers
import Derived.Recover
import Derived.Laws.Pointers
import Derived.Test.YteaeilghamjjkaaGreatDoorX24
import Derived.Deep.Cut
namespace Go.Proofs.YteaeilghamjjkaaGreatDoor
set_option maxHeartbeats 4000000
open Go.RowKit Go.Shelf
set_option maxRecDepth 100000
set_option linter.unusedVariables false
theorem sA {α:Type} {l:List α} {i:Nat} {a:α} :l.toArray.setIfInBounds i a=(l.set i a).toArray:=by simp
theorem sB {α:Type} {x:α} {xs:List α} {a:α} :(x::xs).set 0 a=a::xs:=rfl
theorem sC {α:Type} {x:α} {xs:List α} {i:Nat} {a:α} :(x::xs).set (i+1) a=x::xs.set i a:=rfl
section
variable {P:Program} {ops:Array Oper} {Q:Exit→Act→World→Prop} {md:Region.Mode} {R:World→World→Prop}
def zE3 (P:Program) (R:World→World→Prop) (w:World) (v:Value):Result Next→Prop
 | .ok (.value u) w'=>R w w'∧u=v
 | .ok .skip w'=>R w w'∧v=undef
 | .ok (.enter f args) w'=>w'=w∧Calls P f args w (fun e w''=>e= .returned v∧R w w'')
 |_=>False
def GivesR (P:Program) (ops:Array Oper) (R:World→World→Prop) (o:Oper) (v:Value) (a:Act) (w:World):Prop:=
 (Region.wanted o (yielded ops a.tmps)=true∧∀w',R w w'→zE3 P R w' v ((execOp a.eval o).run P w'))∨
 (Region.wanted o (yielded ops a.tmps)=false∧v=undef)
theorem GivesR.of_same {o:Oper} {v:Value} {a a':Act} {w:World} (hy:GivesR P ops R o v a w)(he:execOp a'.eval o=execOp a.eval o)
  (hw:Region.wanted o (yielded ops a'.tmps)=Region.wanted o (yielded ops a.tmps)):GivesR P ops R o v a' w:=by
 unfold GivesR at*;rw[he,hw];exact hy
theorem GivesR.up {o:Oper} {v:Value} {a:Act} {w w':World} (ht:∀a b c,R a b→R b c→R a c)(hy:GivesR P ops R o v a w)(h:R w w'):GivesR P ops R o v a w':=
 hy.imp (fun⟨h1,h2⟩=>⟨h1,fun w'' h'=>h2 w'' (ht _ _ _ h h')⟩) id
theorem GivesR.wpOp {i:Nat} {o:Oper} {v:Value} {a:Act} {w:World} (hr:∀a,R a a)(hi:ops[i]? =some o)(hy:GivesR P ops R o v a w)
  {K:Act→World→Prop} {w':World} (hS:R w w')(h:∀w'',R w' w''→K (a.put o.dst v) w''):Go.wpOp P ops Q i K a w':=by
 unfold Go.wpOp;simp only[hi];rcases hy with⟨hw,hv⟩|⟨hw,rfl⟩
 ·simp only[hw,if_true]
  refine .inl ?_;have h3:=hv w' hS;unfold Oper.wp;generalize (execOp a.eval o).run P w'=r at*;cases r with
  |ok n w''=>
   cases n<;>simp only[zE3]at h3<;>simp only[Oper.upon]
   case value u=>obtain⟨e1,rfl⟩:=h3;exact h _ e1
   case skip=>obtain⟨e1,rfl⟩:=h3;exact h _ e1
   case enter f args=>obtain⟨rfl,hc⟩:=h3;exact hc.mono fun e w3 ⟨he,hw3⟩=>by subst he;exact h _ hw3
  |halt x w''=>simp only[zE3]at h3
 ·simp only[hw,Bool.false_eq_true,if_false];exact h _ (hr _)
def zAy (P:Program) (md:Region.Mode) (ops:Array Oper) (Q:Exit→Act→World→Prop) (R:World→World→Prop):Nat→Array Bool→Act→World→Prop
 |0,listed,a,w=>Region.ready md ops listed=[]∧∀w',R w w'→Q .normal a w'
 |fuel+1,listed,a,w=>
  (Region.ready md ops listed=[]→∀w',R w w'→Q .normal a w')∧
  ∀i∈Region.ready md ops listed,∀w',R w w'→wpOp P ops Q i (fun a' w''=>R w' w''∧zAy P md ops Q R fuel (listed.setIfInBounds i true) a' w'') a w'
theorem zH2(ht:∀a b c,R a b→R b c→R a c) {w w':World} (h:R w w'):∀(fuel:Nat) (listed:Array Bool) (a:Act),zAy P md ops Q R fuel listed a w→zAy P md ops Q R fuel listed a w'
 |0,_,_,H=>⟨H.1,fun w'' h'=>H.2 w'' (ht _ _ _ h h')⟩
 |_+1,_,_,H=>⟨fun h0 w'' h'=>H.1 h0 w'' (ht _ _ _ h h'),fun i hi w'' h'=>H.2 i hi w'' (ht _ _ _ h h')⟩
theorem zF2(hr:∀a,R a a):∀(fuel:Nat) (listed:Array Bool) (a:Act) (w:World),zAy P md ops Q R fuel listed a w→wpAny P md ops Q fuel listed a w
 |0,_,_,_,h=>⟨h.1,h.2 _ (hr _)⟩
 |fuel+1,_,_,_,h=>⟨fun h0=>h.1 h0 _ (hr _),fun i hi=>wpOp_mono (fun a' w' h'=>zF2 hr fuel _ a' w' h'.2) (h.2 i hi _ (hr _))⟩
theorem zO6 {j:Nat} {oi oj:Oper} {v:Value} (hj:ops[j]? =some oj)(hap:oi.apart ops oj=true)
  (hsi:∀cs b,oi.op≠ .select cs b)(hsj:∀cs b,oj.op≠ .select cs b)
  (hQ:∀c a w,Q (.panic c) (a.put oi.dst v) w→Q (.panic c) a w) {K:Act→World→Prop} {a:Act} {w w₀:World}
  (hy:GivesR P ops R oi v a w₀)(h:wpOp P ops Q j K (a.put oi.dst v) w):
  wpOp P ops Q j (fun a' w'=>GivesR P ops R oi v a' w₀∧K (a'.put oi.dst v) w') a w:=by
 obtain⟨h1,h2,h3⟩:=Oper.apart_spec hap
 have keep:∀(a:Act),GivesR P ops R oi v a w₀→∀u,GivesR P ops R oi v (a.put oj.dst u) w₀:=fun a hy u=>
  hy.of_same (execOp_put oi hsi a oj.dst u h3) (wanted_put oi a oj.dst u h3)
 have keepD:∀d,GivesR P ops R oi v { a with defers:=d::a.defers } w₀:=fun d=>hy.of_same rfl rfl;unfold wpOp at*;simp only[hj]at*;rw[wanted_put oj a oi.dst v h1]at h;split
 ·rename_i hw
  simp only[hw,if_true]at h;rcases h with h|⟨hasks,hlets⟩
  case inr=>exact .inr ⟨by unfold Oper.asks at*;rw[execOp_put oj hsj a oi.dst v h1]at hasks;exact hasks,hlets⟩
  refine .inl ?_;unfold Oper.wp at*;rw[execOp_put oj hsj a oi.dst v h1]at h;generalize (execOp a.eval oj).run P w=r at*;cases r with
  | ok n w'=>
   cases n<;>simp only[Oper.upon]at h⊢
   case value u=>exact⟨keep a hy u,by rw[←Act.put_comm a v u h2];exact h⟩
   case skip=>exact⟨keep a hy _,by rw[←Act.put_comm a v undef h2];exact h⟩
   case defer d=>
    refine⟨keep _ (keepD d) _,?_⟩;rw[←Act.put_comm _ v undef h2,←Act.put_defers];exact h
   case enter f args=>
    refine Calls.mono h fun e w'' he=> ?_;cases e with
    |returned u=>exact⟨keep a hy u,by rw[←Act.put_comm a v u h2];exact he⟩
    |panicked c=>exact hQ _ _ _ he
    |outgrown=>exact he
   case row row args=>exact Rows.mono h fun u w'' he=>⟨keep a hy u,by rw[←Act.put_comm a v u h2];exact he⟩
  |halt x w'=>
   cases x<;>simp only[Oper.upon]at h⊢
   case panic u=>exact hQ _ _ _ h
 ·rename_i hw
  simp only[hw]at h;exact⟨keep a hy _,by rw[←Act.put_comm a v undef h2];exact h⟩
theorem zB8(hre:∀a,R a a)(ht:∀a b c,R a b→R b c→R a c) {i:Nat} {oi:Oper} {v:Value} (hi:ops[i]? =some oi)(hsel:∀(j:Nat) (o:Oper) cs b,ops[j]? =some o→o.op≠ .select cs b)
  (hQ:∀c a w,Q (.panic c) (a.put oi.dst v) w→Q (.panic c) a w):
  ∀(fuel:Nat) (listed:Array Bool) (a:Act) (w:World),
   (∀j oj,ops[j]? =some oj→j≠i→listed.getD j true=false→(∀e∈oj.after,Region.binds md e=true→e.on≠i)→oi.apart ops oj=true)→
   i∈Region.ready md ops listed→GivesR P ops R oi v a w→
   zAy P md ops Q R fuel (listed.setIfInBounds i true) (a.put oi.dst v) w→zAy P md ops Q R (fuel+1) listed a w:=by
 intro fuel
 induction fuel with
 | zero=>
  intro listed a w _ hr hy H
  refine⟨fun h=>(by rw[h]at hr;cases hr),fun j hj w' hw'=> ?_⟩;by_cases hji:j=i
  ·subst hji;exact hy.wpOp hre hi hw' (fun w'' h''=>⟨h'',zH2 ht (ht _ _ _ hw' h'') _ _ _ H⟩)
  ·have:=ready_mono hj hji
   rw[H.1]at this;cases this
 | succ fuel ih=>
  intro listed a w hfree hr hy H
  refine⟨fun h=>(by rw[h]at hr;cases hr),fun j hj w' hw'=> ?_⟩;by_cases hji:j=i
  ·subst hji;exact hy.wpOp hre hi hw' (fun w'' h''=>⟨h'',zH2 ht (ht _ _ _ hw' h'') _ _ _ H⟩)
  ·have h1:=H.2 j (ready_mono hj hji) w' hw'
   obtain⟨hjun,oj,hoj,hall⟩:=mem_ready.1 hj
   have hnot:∀e∈oj.after,Region.binds md e=true→e.on≠i:=fun e he hb heq=>by
    have h1:=hall e he hb;have h0:=(mem_ready.1 hr).1;rw[heq]at h1;rcases Nat.lt_or_ge i listed.size with h'|h'
    ·simp[h']at h0 h1;rw[h0]at h1;cases h1
    ·simp[Array.getElem?_eq_none h']at h1
   have h2:=zO6 hoj (hfree j oj hoj hji hjun hnot) (fun cs b=>hsel i oi cs b hi) (fun cs b=>hsel j oj cs b hoj) hQ hy h1
   have hfree':∀k ok,ops[k]? =some ok→k≠i→(listed.setIfInBounds j true).getD k true=false→
     (∀e∈ok.after,Region.binds md e=true→e.on≠i)→oi.apart ops ok=true:=fun k ok hk hki hun hno=>by
    refine hfree k ok hk hki ?_ hno;by_cases hjk:j=k
    ·subst hjk;exact hjun
    ·rw[getD_set_ne true hjk]at hun;exact hun
   refine wpOp_mono (fun a' w'' h3=>⟨h3.2.1,ih (listed.setIfInBounds j true) a' w'' hfree' (ready_mono hr (Ne.symm hji)) (h3.1.up ht (ht _ _ _ hw' h3.2.1)) ?_⟩) h2;rw[Array.setIfInBounds_comm _ _ hji];exact h3.2.2
end
def Later (w w':World):Prop:=Below w.heap.size w w'
theorem Later.refl(w:World):Later w w:=Below.refl _ _
theorem Later.trans {a b c:World} (h:Later a b)(k:Later b c):Later a c:=Below.trans h (k.mono h.size)
theorem Later.cell {a b:World} (h:Later a b) {p:Addr} {v:Value} (hc:a.cell? p=some v):b.cell? p=some v:=(Below.cell h (World.block_lt_of_cell? a p hc)).trans hc
theorem Later.below {n:Nat} {a b c:World} (h:Below n a b)(hn:n≤a.heap.size)(k:Later b c):Below n a c:=h.trans (k.mono (Nat.le_trans hn h.size))
def Pre (R:World→World→Prop):Prop:=(∀a,R a a)∧∀a b c,R a b→R b c→R a c
theorem Later.pre:Pre Later:=⟨Later.refl,fun _ _ _=>Later.trans⟩
theorem Later.drew(w:World):Later w w.drew:=⟨rfl,rfl,rfl,Nat.le_refl _,fun _ _=>rfl⟩
structure But (E:Nat→Prop) (w w':World):Prop where
 os:w'.os=w.os
 tape:w'.tape=w.tape
 output:w'.output=w.output
 size:w.heap.size≤w'.heap.size
 block:∀k,k<w.heap.size→¬E k→w'.heap[k]? =w.heap[k]?
theorem But.pre(E:Nat→Prop):Pre (But E):=⟨fun _=>⟨rfl,rfl,rfl,Nat.le_refl _,fun _ _ _=>rfl⟩,fun _ _ _ h k=>⟨k.os.trans h.os,k.tape.trans h.tape,k.output.trans h.output,Nat.le_trans h.size k.size,fun i hi he=>(k.block i (Nat.lt_of_lt_of_le hi h.size) he).trans (h.block i hi he)⟩⟩
theorem But.refl(E:Nat→Prop)(w:World):But E w w:=(But.pre E).1 w
theorem But.trans {E:Nat→Prop} {a b c:World} (h:But E a b)(k:But E b c):But E a c:=(But.pre E).2 _ _ _ h k
theorem But.of {E:Nat→Prop} {a b:World} (h:Later a b):But E a b:=⟨h.os,h.tape,h.output,h.size,fun i hi _=>h.block i hi⟩
theorem But.below {E:Nat→Prop} {n:Nat} {a b:World} (h:But E a b)(hn:n≤a.heap.size)(hE:∀k,k<n→¬E k):Below n a b:=⟨h.os,h.tape,h.output,h.size,fun i hi=>h.block i (Nat.lt_of_lt_of_le hi hn) (hE i hi)⟩
theorem But.setCell {E:Nat→Prop} {a b:World} (h:But E a b) {p:Addr} (hp:E p.block)(u:Value):But E a (b.setCell p u):=
 ⟨h.os,h.tape,h.output,by simpa[World.setCell]using h.size,fun i hi he=>(Below.heap_setCell b p u i (fun e=>he (e▸hp))).trans (h.block i hi he)⟩
theorem But.cell {E:Nat→Prop} {a b:World} (h:But E a b) {p:Addr} {v:Value} (hc:a.cell? p=some v)(hE:¬E p.block):b.cell? p=some v:=(World.cell?_of_block (w:=a) (h.block p.block (World.block_lt_of_cell? a p hc) hE)).trans hc
def Keep (E:Nat→Prop) (G F:World→Prop) (w w':World):Prop:=But E w w'∧(G w→G w')∧(F w→F w')
theorem Keep.pre(E:Nat→Prop)(G F:World→Prop):Pre (Keep E G F):=⟨fun a=>⟨But.refl E a,id,id⟩,fun _ _ _ h k=>⟨h.1.trans k.1,fun g=>k.2.1 (h.2.1 g),fun g=>k.2.2 (h.2.2 g)⟩⟩
theorem Keep.trans {E:Nat→Prop} {G F:World→Prop} {a b c:World} (h:Keep E G F a b)(k:Keep E G F b c):Keep E G F a c:=(Keep.pre E G F).2 _ _ _ h k
theorem Keep.of {E:Nat→Prop} {G F:World→Prop} {w w':World} (hg:∀w w',Later w w'→G w→G w')(hf:∀w w',Later w w'→F w→F w')(l:Later w w'):Keep E G F w w':=⟨But.of l,hg _ _ l,hf _ _ l⟩
def Wr (n k:Nat) (t:TypeId) (w:World):Prop:=∃cur,w.heap[n]? =some (.cells cur t (0,0))∧cur.size=k
theorem Wr.later {n k:Nat} {t:TypeId} {w w':World} (h:Wr n k t w)(l:Later w w'):Wr n k t w':=by
 obtain⟨cur,h1,h2⟩:=h;exact⟨cur,(l.block n (eS h1)).trans h1,h2⟩
theorem zAh {W:World} {n:Nat} {cur:Array Value} {t:TypeId} (h:W.heap[n]? =some (.cells cur t (0,0)))(j:Nat)(v:Value):(W.setCell ⟨n,j,none⟩ v).heap[n]? =some (.cells (cur.setIfInBounds j v) t (0,0)):=by
 show(W.heap.modify n _)[n]? =_
 rw[Array.getElem?_modify,if_pos rfl,h];rfl
def zAj (W:World) (n:Nat):Nat→List Value→World
 |_,[]=>W
 |j,v::r=>zAj (W.setCell ⟨n,j,none⟩ v) n (j+1) r
theorem zAf {E:Nat→Prop} {n:Nat} (hE:E n):∀(vs:List Value) (j:Nat) (W V:World),But E V W→But E V (zAj W n j vs)
 | [],_,_,_,h=>h
 |v::r,j,W,V,h=>zAf hE r (j+1) _ V (h.setCell (p:=⟨n,j,none⟩) hE v)
theorem zE4 {n:Nat} {t:TypeId} :∀(vs pre post:List Value) (W:World),W.heap[n]? =some (.cells (pre++post).toArray t (0,0))→post.length=vs.length→(zAj W n pre.length vs).heap[n]? =some (.cells (pre++vs).toArray t (0,0))
 | [],pre,post,W,h,hl=>by
  have:post=[]:=List.length_eq_zero_iff.1 hl;subst this;exact h
 |v::r,pre,[],W,h,hl=>by simp at hl
 | v::r,pre,p::post,W,h,hl=>by
  have h1:=zAh h pre.length v
  have e:((pre++p::post).toArray.setIfInBounds pre.length v)=((pre++[v])++post).toArray:=by
   simp
  rw[e]at h1;have:=zE4 r (pre++[v]) post _ h1 (by simpa using hl);simpa[zAj]using this
theorem zAg {n:Nat} {t:TypeId} {W:World} {cur:Array Value} (vs:List Value)(h:W.heap[n]? =some (.cells cur t (0,0)))(hl:cur.size=vs.length):(zAj W n 0 vs).heap[n]? =some (.cells vs.toArray t (0,0)):=by
 have:=zE4 vs [] cur.toList W (by simpa using h) (by simpa using hl);simpa using this
theorem zEl {P:Program} {o:Oper} {a:Act} {w:World} {K:Act→World→Prop} {Q:Exit→Act→World→Prop} (s x:Operand)(t:TypeId)(hop:o.op=Op.call { callee:=Callee.builtin Builtin.append,args:=#[s,x],argTypes:=#[t,t] })
  (v sx:Value)(hs:a.eval s=v)(hx:a.eval x=sx)(v':Value)(w':World)(hrun:(Builtin.append_ #[t,t] o.type #[v,sx]).run P w= .ok v' w')(hK:K (a.put o.dst v') w'):o.wp P a w K Q:=by
 unfold Oper.wp;simp[execOp,hop,resolve,invoke,builtin,hs,hx,hrun,Result.andThen]
 exact hK
theorem zAi {P:Program} {o:Oper} {a:Act} {w:World} {K:Act→World→Prop} {Q:Exit→Act→World→Prop} (f:FuncId)(args:Array Value)(h:(execOp a.eval o).run P w= .ok (.enter f args) w)
  (hc:Calls P f args w fun| .returned v,w''=>K (a.put o.dst v) w''| .panicked c,w''=>Q (.panic c) a w''| .outgrown,_=>LetsOut Q):o.wp P a w K Q:=by
 unfold Oper.wp;rw[h];exact hc
theorem zG2 {P:Program} {o:Oper} {a:Act} {w w':World} {K:Act→World→Prop} {Q:Exit→Act→World→Prop} (v:Value)(h:(execOp a.eval o).run P w= .ok (.value v) w')
  (hk:K (a.put o.dst v) w'):o.wp P a w K Q:=by
 unfold Oper.wp;rw[h];exact hk
def zBn:List Oper→Nat→Option Oper
 | [],_=>none
 |o::_,0=>some o
 |_::r,n+1=>zBn r n
theorem zAz:∀(l:List Oper) (i:Nat),zBn l i=l[i]?
 | [],_=>rfl
 |_::_,0=>rfl
 |_::r,n+1=>by rw[zBn,zAz r n];rfl
section
variable {P:Program} {l:List Oper} {Q:Exit→Act→World→Prop} {fuel:Nat} {listed:Array Bool} {a:Act} {w:World} {R:World→World→Prop}
theorem zAr(hp:Pre R)(i:Nat) {oi:Oper} (v:Value)(hi:zBn l i=some oi)
  (hs:Region.noSelect l.toArray=true)(hf:Region.free .any l.toArray listed i=true)(hr:(Region.ready .any l.toArray listed).contains i=true)
  (hQ:∀c a w,Q (.panic c) (a.put oi.dst v) w→Q (.panic c) a w)(hg:oi.guard=none)
  (hy:∀w',R w w'→zE3 P R w' v ((execOp a.eval oi).run P w'))
  (h:zAy P .any l.toArray Q R fuel (listed.setIfInBounds i true) (a.put oi.dst v) w):zAy P .any l.toArray Q R (fuel+1) listed a w:=by
 have hi':l.toArray[i]? =some oi:=by rw[←hi,zAz];simp
 exact zB8 hp.1 hp.2 hi' (Region.noSelect_spec hs) hQ fuel listed a w (Region.free_spec hi' hf) (by simpa using hr) (.inl ⟨by simp[Region.wanted,hg],hy⟩) h
theorem zEt(hp:Pre R) {v:Value} {r:Result Next} {w':World} (h:r= .ok (.value v) w'):zE3 P R w' v r:=by rw[h];exact⟨hp.1 _,rfl⟩
theorem zAo {v:Value} {r:Result Next} {w':World} (f:FuncId)(args:Array Value)(h:r= .ok (.enter f args) w')(hc:Calls P f args w' fun e w''=>e= .returned v∧R w' w''):zE3 P R w' v r:=by rw[h];exact⟨rfl,hc⟩
theorem anyR_val(hp:Pre R)(i:Nat) {oi:Oper} (hi:zBn l i=some oi)
  (hs:Region.noSelect l.toArray=true)(hf:Region.free .any l.toArray listed i=true)(hr:(Region.ready .any l.toArray listed).contains i=true)
  (hQ:∀v c a w,Q (.panic c) (a.put oi.dst v) w→Q (.panic c) a w)(hg:oi.guard=none)
  (h:∃v,(∀w',R w w'→(execOp a.eval oi).run P w'= .ok (.value v) w')∧zAy P .any l.toArray Q R fuel (listed.setIfInBounds i true) (a.put oi.dst v) w):zAy P .any l.toArray Q R (fuel+1) listed a w:=
 let⟨v,h1,h2⟩:=h
 zAr hp i v hi hs hf hr (hQ v) hg (fun w' hw'=>zEt hp (h1 w' hw')) h2
theorem zAn(hp:Pre R)(hd:∀w:World,R w w.drew) {id:Nat} (n:Nat)(hn:l.length=n)(hm:P.follows .mixedOrders=true)
  (h:∀w₁,R w w₁→zAy P .any l.toArray Q R n (Array.replicate n false) a w₁):(Code.region id l.toArray true).wp P Q a w:=by
 subst hn;refine wp_region_any hm (zF2 hp.1 _ _ _ _ ?_);have:=h { w with drawn:=w.drawn+1 } (hd w);simpa using this
theorem zCh(hr:Region.ready .any l.toArray listed=[])(h:∀w',R w w'→Q .normal a w'):zAy P .any l.toArray Q R fuel listed a w:=by
 cases fuel with
 |zero=>exact⟨hr,h⟩
 |succ n=>exact⟨fun _=>h,by rw[hr];simp⟩
theorem anyR_one(i:Nat) {oi:Oper} (hi:zBn l i=some oi)(hr:Region.ready .any l.toArray listed=[i])(gi:oi.guard=none)
  (h1:∀w',R w w'→oi.wp P a w' (fun a' w''=>R w' w''∧zAy P .any l.toArray Q R fuel (listed.setIfInBounds i true) a' w'') Q):
  zAy P .any l.toArray Q R (fuel+1) listed a w:=by
 have hi':l.toArray[i]? =some oi:=by rw[←hi,zAz];simp
 refine⟨fun h0=>(by rw[hr]at h0;cases h0),fun k hk w' hw'=> ?_⟩;rw[hr]at hk;unfold wpOp;obtain rfl:k=i:=by simpa using hk
 rw[hi'];simp only[Region.wanted,gi];exact .inl (h1 w' hw')
theorem rX(hp:Pre R)(i:Nat) {oi:Oper} {v:Value} {p:Prop} (h:p)(hi:zBn l i=some oi:=by exact rfl)(hg:oi.guard=none:=by exact rfl)(h1:∀w',R w w'→(execOp a.eval oi).run P w'= .ok (.value v) w':=by intro v h;go_simp;rfl)(hn:zAy P .any l.toArray Q R fuel (listed.setIfInBounds i true) (a.put oi.dst v) w=p:=by conv=>lhs;simp only[Act.put,sA,sB,sC])(hs:Region.noSelect l.toArray=true:=by kernel_rfl)(hf:Region.free .any l.toArray listed i=true:=by kernel_rfl)(hr:(Region.ready .any l.toArray listed).contains i=true:=by kernel_rfl)(hQ:∀v c a w,Q (.panic c) (a.put oi.dst v) w→Q (.panic c) a w:=by intro _ _ _ _ h;first|exact h|cases h.1):zAy P .any l.toArray Q R (fuel+1) listed a w:=anyR_val hp i hi hs hf hr hQ hg ⟨v,h1,Eq.mpr hn h⟩
theorem rO(i:Nat) {oi:Oper} (h1:∀w',R w w'→oi.wp P a w' (fun a' w''=>R w' w''∧zAy P .any l.toArray Q R fuel (listed.setIfInBounds i true) a' w'') Q)(hi:zBn l i=some oi:=by exact rfl)(hr:Region.ready .any l.toArray listed=[i]:=by kernel_rfl)(gi:oi.guard=none:=by exact rfl):zAy P .any l.toArray Q R (fuel+1) listed a w:=anyR_one i hi hr gi h1
theorem rD(h:∀w',R w w'→Q .normal a w')(hr:Region.ready .any l.toArray listed=[]:=by kernel_rfl):zAy P .any l.toArray Q R fuel listed a w:=zCh hr h
end
set_option linter.unusedSimpArgs false
abbrev rfs (c:Int):Value:= .iface 260 (.agg #[.int .i64 c])
abbrev rfp (c:Int):List PanicEntry:=[{ v:=rfs c,recovered:=false }]
theorem zA0(c:Int)(w:World):
  Calls Tryz.prog 129 #[.bool false,.int .i64 c] w fun e w'=>e= .returned (.tuple #[])∧w=w':=by
 go_enter Tryz.func129,Tryz.ntmps129;go_wp2
 go_end0
 exact⟨rfl,rfl⟩
theorem zA2(c:Int)(w:World):
  Calls Tryz.prog 129 #[.bool true,.int .i64 c] w fun e w'=>e= .panicked (rfp c)∧w=w':=by
 go_enter Tryz.func129,Tryz.ntmps129;go_wp2
 exact⟨rfl,rfl,rfl⟩
def hl4 (zs:List Int):Int:=zs[0]?.getD 0 % 16*4
def msr (zs:List Int):Int:=
 if zs.length<20 then 3 else if zs[0]?.getD 0/16≠4 then 6 else if hl4 zs<20 then 4 else if(zs.length:Int)<hl4 zs then 3 else if wat zs 2<hl4 zs then 4 else 0
theorem and15(x:Int)(h:0≤x∧x≤255):bits .and .u8 x 15=x % 16:=by
 rw[u8_and x 15 h.1 (by omega) (by omega) (by omega)];have:x.toNat &&& (15:Int).toNat=x.toNat % 16:=Nat.and_two_pow_sub_one_eq_mod x.toNat 4;omega
theorem hl4_bd {zs:List Int} (h:Mt.By zs):0≤hl4 zs∧hl4 zs≤60:=by have:=h.at 0;unfold hl4;omega
theorem zKf(n₀ rb:Nat)(x y:Int)(sv:Value)(zs:List Int)(w:World)(hB:Mt.By zs)(hl:zs.length≤225000000000000)(hI:Rd n₀ w sv zs)(hn:n₀≤rb)
  (c0:w.cell? ⟨rb,0,none⟩=some (.int .i64 x))(c1:w.cell? ⟨rb,1,none⟩=some (.int .i64 y))(c2:w.cell? ⟨rb,2,none⟩=some sv)(f0:w.frozen? ⟨rb,0,none⟩=false)(f1:w.frozen? ⟨rb,1,none⟩=false):
  Calls Tryz.prog 128 #[.pointer (some ⟨rb,0,none⟩)] w fun e w'=>Below rb w w'∧
   ((msr zs≠0∧e= .panicked (rfp (msr zs)))∨(msr zs=0∧e= .returned (.tuple #[])∧w'.cell? ⟨rb,0,none⟩=some (.int .i64 (hl4 zs))∧w'.cell? ⟨rb,1,none⟩=some (.int .i64 (wat zs 2))∧w'.cell? ⟨rb,2,none⟩=some sv∧w'.frozen? ⟨rb,1,none⟩=false)):=by
 obtain⟨a,cap,rfl,hl1,hm1⟩:=hI.slice;have hrb:rb≤w.heap.size:=Nat.le_of_lt (World.block_lt_of_cell? w ⟨rb,0,none⟩ c0);have HM:Hid (msr zs=if zs.length<20 then 3 else if zs[0]?.getD 0/16≠4 then 6 else if hl4 zs<20 then 4 else if(zs.length:Int)<hl4 zs then 3 else if wat zs 2<hl4 zs then 4 else 0):=rfl;generalize msr zs=m at*;go_enter Tryz.func128,Tryz.ntmps128;go_wp2_with fail;by_cases h1:zs.length<20
 ·rw[show decide ((zs.length:Int)<20)=true from by simp;omega]
  refine(zA2 3 _).mono ?_;rintro e w' ⟨rfl,rfl⟩;have:=HM.out;rw[if_pos h1]at this;subst this;exact⟨rfl,Below.refl _ _,.inl ⟨by omega,rfl⟩⟩
 rw[show decide ((zs.length:Int)<20)=false from by simp;omega];refine(zA0 3 _).mono ?_;rintro e w' ⟨rfl,rfl⟩;obtain⟨b,off,cap',e',_,_,hb,hc⟩:=hI.cells (by omega);cases e'
 have d0:=hc 0 (by omega);have b0:=hB.at 0;have hlz:(0:Int)<zs.length:=by omega
 rw[Nat.add_zero]at d0;go_wp2_with fail;by_cases h2:zs[0]?.getD 0/16≠4
 ·rw[show (zs[0]?.getD 0/16 !=4)=true from by simpa using h2]
  refine(zA2 6 _).mono ?_;rintro e w' ⟨rfl,rfl⟩;have:=HM.out;rw[if_neg h1,if_pos h2]at this;subst this;exact⟨rfl,Below.refl _ _,.inl ⟨by omega,rfl⟩⟩
 rw[show (zs[0]?.getD 0/16 !=4)=false from by simpa using h2];refine(zA0 6 _).mono ?_;rintro e w' ⟨rfl,rfl⟩;have hand:bits .and .u8 (zs[0]?.getD 0) 15=zs[0]?.getD 0 % 16:=and15 _ b0;have HH:Hid (hl4 zs=zs[0]?.getD 0 % 16*4):=rfl;have hh:=hl4_bd hB;have hk1:Below rb w (w.setCell ⟨rb,0,none⟩ (.int .i64 (zs[0]?.getD 0 % 16*4))):=(Below.refl _ _).setCell (p:=⟨rb,0,none⟩) (Nat.le_refl _) _;have k0:(w.setCell ⟨rb,0,none⟩ (.int .i64 (zs[0]?.getD 0 % 16*4))).cell? ⟨rb,0,none⟩=some (.int .i64 (zs[0]?.getD 0 % 16*4)):=World.cell?_setCell_same _ _ _ c0;have k1:(w.setCell ⟨rb,0,none⟩ (.int .i64 (zs[0]?.getD 0 % 16*4))).cell? ⟨rb,1,none⟩=some (.int .i64 y):=(World.cell?_setCell_other _ _ _ _ (by simp)).trans c1;have k2:(w.setCell ⟨rb,0,none⟩ (.int .i64 (zs[0]?.getD 0 % 16*4))).cell? ⟨rb,2,none⟩=some (.slice (some ⟨b,off,none⟩) zs.length cap):=(World.cell?_setCell_other _ _ _ _ (by simp)).trans c2;have g1:(w.setCell ⟨rb,0,none⟩ (.int .i64 (zs[0]?.getD 0 % 16*4))).frozen? ⟨rb,1,none⟩=false:=by simpa using f1
 go_wp2_with fail;rw[←HH.out]at*;generalize w.setCell ⟨rb,0,none⟩ (.int .i64 (hl4 zs))=W1 at*;refine(zBh _ zs hB 2 (by omega) W1 (hI.below (hk1.mono hn))).mono ?_;rintro e w2 ⟨rfl,q,rfl⟩;have hw2:=zDa hB 2;generalize hnn:wat zs 2=nn at*;have HN:=zAc hnn;clear hnn;have hk2:Below rb w ((W1.drewN q).setCell ⟨rb,1,none⟩ (.int .i64 nn)):=(zAm hk1 q).setCell (p:=⟨rb,1,none⟩) (Nat.le_refl _) _;have l0:((W1.drewN q).setCell ⟨rb,1,none⟩ (.int .i64 nn)).cell? ⟨rb,0,none⟩=some (.int .i64 (hl4 zs)):=(World.cell?_setCell_other _ _ _ _ (by simp)).trans k0;have l1:((W1.drewN q).setCell ⟨rb,1,none⟩ (.int .i64 nn)).cell? ⟨rb,1,none⟩=some (.int .i64 nn):=World.cell?_setCell_same _ _ _ (show(W1.drewN q).cell? ⟨rb,1,none⟩=some _ from k1);have l2:((W1.drewN q).setCell ⟨rb,1,none⟩ (.int .i64 nn)).cell? ⟨rb,2,none⟩=some (.slice (some ⟨b,off,none⟩) zs.length cap):=(World.cell?_setCell_other _ _ _ _ (by simp)).trans k2;have m1:((W1.drewN q).setCell ⟨rb,1,none⟩ (.int .i64 nn)).frozen? ⟨rb,1,none⟩=false:=by rw[World.frozen?_setCell];exact g1
 go_wp2_with fail;generalize (W1.drewN q).setCell ⟨rb,1,none⟩ (.int .i64 nn)=W2 at*;clear k0 k1 k2 g1 hk1 c0 c1 c2 f0 f1 d0 hand;by_cases h3:hl4 zs<20
 ·rw[show decide (hl4 zs<20)=true from by simpa using h3]
  refine(zA2 4 _).mono ?_;rintro e w' ⟨rfl,rfl⟩;have:=HM.out;rw[if_neg h1,if_neg h2,if_pos h3]at this;subst this;exact⟨rfl,hk2,.inl ⟨by omega,rfl⟩⟩
 rw[show decide (hl4 zs<20)=false from by simpa using h3];refine(zA0 4 _).mono ?_;rintro e w' ⟨rfl,rfl⟩;go_wp2_with fail;refine zAn Later.pre Later.drew 12 rfl (by kernel_rfl) (fun W4 hL4=> ?_);have q0:∀w1,Later W4 w1→w1.cell? ⟨rb,0,none⟩=some (.int .i64 (hl4 zs)):=fun w1 h=>(hL4.trans h).cell l0;have q2:∀w1,Later W4 w1→w1.cell? ⟨rb,2,none⟩=some (.slice (some ⟨b,off,none⟩) zs.length cap):=fun w1 h=>(hL4.trans h).cell l2;refine rX Later.pre 0 ?_;refine rX Later.pre 1 ?_;refine rX Later.pre 2 ?_;refine rX Later.pre 3 ?_;refine rX Later.pre 4 ?_;refine rX Later.pre 5 ?_;refine rX Later.pre 6 ?_;refine rX Later.pre 7 ?_;refine rX Later.pre 8 ?_;refine rX Later.pre 9 ?_;refine rX Later.pre 10 ?_;refine rO 11 (fun W5 hL5=> ?_);have hk5:Below rb w W5:=Later.below hk2 hrb (hL4.trans hL5);by_cases h4:(zs.length:Int)<hl4 zs
 ·refine zAi 129 #[.bool true,.int .i64 3] (by go_simp) ((zA2 3 _).mono ?_)
  rintro e w' ⟨rfl,rfl⟩;have:=HM.out;rw[if_neg h1,if_neg h2,if_neg (by omega),if_pos h4]at this;subst this;exact⟨rfl,hk5,.inl ⟨by omega,rfl⟩⟩
 refine zAi 129 #[.bool false,.int .i64 3] (by go_simp) ((zA0 3 _).mono ?_);rintro e w' ⟨rfl,rfl⟩;refine⟨Later.refl _,zCh (by kernel_rfl) (fun W6 hL6=> ?_)⟩;simp only[Act.put,sA,sB,sC];have hL7:=(hL4.trans hL5).trans hL6;clear q0 q2;go_wp2_with fail;refine zAn Later.pre Later.drew 12 rfl (by kernel_rfl) (fun W8 hL8=> ?_);have q0:∀w1,Later W8 w1→w1.cell? ⟨rb,0,none⟩=some (.int .i64 (hl4 zs)):=fun w1 h=>((hL7.trans hL8).trans h).cell l0;have q2:∀w1,Later W8 w1→w1.cell? ⟨rb,1,none⟩=some (.int .i64 nn):=fun w1 h=>((hL7.trans hL8).trans h).cell l1;refine rX Later.pre 0 ?_;refine rX Later.pre 1 ?_;refine rX Later.pre 2 ?_;refine rX Later.pre 3 ?_;refine rX Later.pre 4 ?_;refine rX Later.pre 5 ?_;refine rX Later.pre 6 ?_;refine rX Later.pre 7 ?_;refine rX Later.pre 8 ?_;refine rX Later.pre 9 ?_;refine rX Later.pre 10 ?_;refine rO 11 (fun W9 hL9=> ?_);have hL10:=(hL7.trans hL8).trans hL9;have hk9:Below rb w W9:=Later.below hk2 hrb hL10;by_cases h5:nn<hl4 zs
 ·refine zAi 129 #[.bool true,.int .i64 4] (by go_simp) ((zA2 4 _).mono ?_)
  rintro e w' ⟨rfl,rfl⟩;have:=HM.out;rw[if_neg h1,if_neg h2,if_neg (by omega),if_neg (by omega),if_pos h5]at this;subst this;exact⟨rfl,hk9,.inl ⟨by omega,rfl⟩⟩
 refine zAi 129 #[.bool false,.int .i64 4] (by go_simp) ((zA0 4 _).mono ?_);rintro e w' ⟨rfl,rfl⟩;refine⟨Later.refl _,zCh (by kernel_rfl) (fun W11 hL11=> ?_)⟩;simp only[Act.put,sA,sB,sC];have hL12:=hL10.trans hL11;go_end0
 have:=HM.out;rw[if_neg h1,if_neg h2,if_neg (by omega),if_neg (by omega),if_neg h5]at this;refine⟨hk9.trans (hL11.mono (Nat.le_trans hrb hk9.size)),.inr ⟨this,rfl,hL12.cell l0,(hL12.cell l1).trans (by rw[HN.out]),hL12.cell l2,?_⟩⟩;exact(Below.frozen hL12 (p:=⟨rb,1,none⟩) (World.block_lt_of_cell? _ ⟨rb,1,none⟩ l1)).trans m1
def chk (zs:List Int):Int:=
 if Mt.cks (zs.take (hl4 zs).toNat)≠0 then 5 else if wat zs 6 % 16384≠0 then 7 else if 32768≤wat zs 6 then 4 else 0
theorem and14(x:Int)(h:0≤x∧x≤65535):bits .and .u16 x 16383=x % 16384:=by
 rw[u16_and x 16383 h.1 (by omega) (by omega) (by omega)];have:x.toNat &&& (16383:Int).toNat=x.toNat % 16384:=Nat.and_two_pow_sub_one_eq_mod x.toNat 14;omega
theorem zO7(n k:Nat):n &&& 2^k=if n/2^k % 2=1 then 2^k else 0:=by
 apply Nat.eq_of_testBit_eq
 intro i
 rw[Nat.testBit_and,Nat.testBit_two_pow];by_cases h:k=i
 ·subst h
  rw[Nat.testBit_eq_decide_div_mod_eq];split<;>simp_all
 ·split<;>simp[h,Nat.testBit_two_pow]
theorem and_top(x:Int)(h:0≤x∧x≤65535):bits .and .u16 x 32768=if 32768≤x then 32768 else 0:=by
 rw[u16_and x 32768 h.1 (by omega) (by omega) (by omega)];have:=zO7 x.toNat 15
 simp at this
 simp
 rw[this];split<;>split<;>omega
theorem and_keep(x:Int)(h:0≤x∧x≤65535):bits .and .u16 x 16384=if 16384≤x % 32768 then 16384 else 0:=by
 rw[u16_and x 16384 h.1 (by omega) (by omega) (by omega)];have:=zO7 x.toNat 14
 simp at this
 simp
 rw[this];split<;>split<;>omega
theorem zE5(rb:Nat)(sv:Value)(zs:List Int)(w:World)(hB:Mt.By zs)(hl:zs.length≤225000000000000)(hI:Rd w.heap.size w sv zs)(h20:20≤hl4 zs)(hle:hl4 zs≤zs.length)
  (c0:w.cell? ⟨rb,0,none⟩=some (.int .i64 (hl4 zs)))(c2:w.cell? ⟨rb,2,none⟩=some sv):
  Calls Tryz.prog 130 #[.pointer (some ⟨rb,0,none⟩)] w fun e w'=>Later w w'∧((chk zs≠0∧e= .panicked (rfp (chk zs)))∨(chk zs=0∧e= .returned (.tuple #[]))):=by
 obtain⟨a,cap,rfl,hl1,hm1⟩:=hI.slice;have HM:Hid (chk zs=if Mt.cks (zs.take (hl4 zs).toNat)≠0 then 5 else if wat zs 6 % 16384≠0 then 7 else if 32768≤wat zs 6 then 4 else 0):=rfl;generalize chk zs=m at*;have hff:=zDa hB 6;have ha1:=and14 _ hff;have ha2:=and_top _ hff;obtain⟨k,hk⟩:=Int.eq_ofNat_of_zero_le (show 0≤hl4 zs by omega);have hk60:k≤60:=by have:=hl4_bd hB;omega
 rw[hk]at h20 hle c0 HM;clear hk;simp only[Int.toNat_natCast]at HM;go_enter Tryz.func130,Tryz.ntmps130;go_wp2_with fail;refine(zBh _ zs hB 6 (by omega) w hI).mono ?_;rintro e w2 ⟨rfl,q,rfl⟩;generalize wat zs 6=ff at*;go_wp2_with fail;refine zAn Later.pre Later.drew 13 rfl (by kernel_rfl) (fun W4 hL4=> ?_);have hw4:Later w W4:=Later.trans (zAm (Later.refl w) q) hL4;have q0:∀w1,Later W4 w1→w1.cell? ⟨rb,0,none⟩=some (.int .i64 k):=fun w1 h=>(hw4.trans h).cell c0;have q2:∀w1,Later W4 w1→w1.cell? ⟨rb,2,none⟩=some (.slice a zs.length cap):=fun w1 h=>(hw4.trans h).cell c2;have hkc:(k:Int)≤cap:=by omega
 refine rX Later.pre 0 ?_;refine rX Later.pre 1 ?_;refine rX Later.pre 2 ?_;refine rX Later.pre 3 ?_;refine rX Later.pre 4 ?_;refine rX Later.pre 5 ?_;refine rX Later.pre 6 ?_;refine rX Later.pre 7 ?_;refine rX Later.pre 8 ?_;refine rX Later.pre 9 ?_;refine zAr Later.pre 10 (.bool (Mt.cks (zs.take k)==0)) rfl (by kernel_rfl) (by kernel_rfl) (by kernel_rfl) (fun _ _ _ h=>h) rfl (fun w1 hw1=>zAo 132 #[.slice a k cap] (by go_simp) ?_) ?_
 ·exact (zMc _ (zs.take k) (hB.take _) (by simp;omega) w1 (((hI.take k (by omega)).below (hw4.trans hw1)).mono (hw4.trans hw1).size)).mono fun e w' ⟨he,hb⟩=>⟨he,hb⟩
 simp only[Act.put,sA,sB,sC];cases hg:(Mt.cks (zs.take k)==0)
 ·refine rX Later.pre 11 ?_
  refine rO 12 (fun W5 hL5=> ?_);refine zAi 129 #[.bool true,.int .i64 5] (by go_simp) ((zA2 5 _).mono ?_);rintro e w' ⟨rfl,rfl⟩;have:=HM.out;rw[if_pos (by simpa using hg)]at this;subst this;exact⟨rfl,hw4.trans hL5,.inl ⟨by omega,rfl⟩⟩
 refine rX Later.pre 11 ?_;refine rO 12 (fun W5 hL5=> ?_);refine zAi 129 #[.bool false,.int .i64 5] (by go_simp) ((zA0 5 _).mono ?_);rintro e w' ⟨rfl,rfl⟩;refine⟨Later.refl _,zCh (by kernel_rfl) (fun W6 hL6=> ?_)⟩;simp only[Act.put,sA,sB,sC];have hw6:=(hw4.trans hL5).trans hL6;have h1:¬Mt.cks (zs.take k)≠0:=by simpa using hg
 clear q0 q2 hL4 hL5 hL6 hg;go_wp2_with fail;by_cases h2:ff % 16384≠0
 ·rw[show (ff % 16384 !=0)=true from by simpa using h2]
  refine(zA2 7 _).mono ?_;rintro e w' ⟨rfl,rfl⟩;have:=HM.out;rw[if_neg h1,if_pos h2]at this;subst this;exact⟨rfl,hw6,.inl ⟨by omega,rfl⟩⟩
 rw[show (ff % 16384 !=0)=false from by simpa using h2];refine(zA0 7 _).mono ?_;rintro e w' ⟨rfl,rfl⟩;by_cases h3:32768≤ff
 ·rw[if_pos h3]at ha2
  go_wp2_with fail;refine(zA2 4 _).mono ?_;rintro e w' ⟨rfl,rfl⟩;have:=HM.out;rw[if_neg h1,if_neg h2,if_pos h3]at this;subst this;exact⟨rfl,hw6,.inl ⟨by omega,rfl⟩⟩
 rw[if_neg h3]at ha2;go_wp2_with fail;refine(zA0 4 _).mono ?_;rintro e w' ⟨rfl,rfl⟩;go_wp2
 go_end0
 have:=HM.out;rw[if_neg h1,if_neg h2,if_neg (by omega)]at this;exact⟨hw6,.inr ⟨this,rfl⟩⟩
theorem zAv(zs:List Int)(k:Nat)(p v:Int)(hp:p=(k:Int))(hk:k+1<zs.length):zAq zs p v=Mt.put2 zs k v:=by
 subst hp;unfold zAq;rw[if_pos (by omega),Int.toNat_natCast]
theorem zCi(zs:List Int)(k:Nat)(p v:Int)(hp:p=(k:Int))(hk:k+3<zs.length):zBw zs p v=zKc zs k v:=by
 subst hp;unfold zBw;rw[if_pos (by omega),Int.toNat_natCast]
def h20 (tos id:Int) (keep:Bool) (ttl proto src dst:Int) (lo:Nat) (all s:Int):List Int:=
 [64+(20+(lo:Int))/4,tos,all/256,all % 256,id/256,id % 256,if keep then 64 else 0,0,ttl,proto,s/256,s % 256,
  src/65536/256,src/65536 % 256,src % 65536/256,src % 65536 % 256,dst/65536/256,dst/65536 % 256,dst % 65536/256,dst % 65536 % 256]
theorem hd0_eq(tos id:Int)(keep:Bool)(ttl proto src dst:Int)(zo:List Int)(all:Int):hd0 tos id keep ttl proto src dst zo all=h20 tos id keep ttl proto src dst zo.length all 0++zo:=by
 unfold hd0 hd1;have e:List.replicate 20 (0:Int)++zo=0::0::0::0::0::0::0::0::0::0::0::0::0::0::0::0::0::0::0::0::zo:=rfl;rw[e];cases keep
 ·rw[if_neg (by simp),zAv _ 2 2 _ rfl (by simp),zAv _ 4 4 _ rfl (by simp[Mt.put2_length]),zCi _ 12 12 _ rfl (by simp[Mt.put2_length]),zCi _ 16 16 _ rfl (by simp[Mt.put2_length,zB2])]
  simp[Mt.put2,zKc,h20]
 ·rw[if_pos rfl,zAv _ 2 2 _ rfl (by simp),zAv _ 4 4 _ rfl (by simp[Mt.put2_length]),zAv _ 6 6 _ rfl (by simp[Mt.put2_length]),zCi _ 12 12 _ rfl (by simp[Mt.put2_length]),zCi _ 16 16 _ rfl (by simp[Mt.put2_length,zB2])]
  simp[Mt.put2,zKc,h20]
def hsum (tos id:Int) (keep:Bool) (ttl proto src dst:Int) (zo:List Int) (all:Int):Int:=Mt.cks (h20 tos id keep ttl proto src dst zo.length all 0++zo)
theorem zB9(tos id:Int)(keep:Bool)(ttl proto src dst:Int)(zo:List Int)(all:Int):hdr tos id keep ttl proto src dst zo all=h20 tos id keep ttl proto src dst zo.length all (hsum tos id keep ttl proto src dst zo all)++zo:=by
 unfold hdr hsum;rw[hd0_eq];generalize Mt.cks (h20 tos id keep ttl proto src dst zo.length all 0++zo)=s;unfold h20;rw[zAv _ 10 10 _ rfl (by simp)];simp[Mt.put2]
theorem zC1(tos id:Int)(keep:Bool)(ttl proto src dst:Int)(lo:Nat)(all s:Int):(h20 tos id keep ttl proto src dst lo all s).length=20:=rfl
theorem h20_tw(tos id:Int)(keep:Bool)(ttl proto src dst:Int)(lo:Nat)(all s:Int):Mt.tw true (h20 tos id keep ttl proto src dst lo all s)=Mt.tw true (h20 tos id keep ttl proto src dst lo all 0)+s:=by
 unfold h20;simp only[Mt.tw];omega
theorem zMf(tos id:Int)(keep:Bool)(ttl proto src dst:Int)(lo:Nat)(all s:Int)(hl:lo≤40)(ht:0≤tos∧tos≤255)(hid:0≤id∧id≤65535)(htt:0≤ttl∧ttl≤255)(hpr:0≤proto∧proto≤255)(hsr:0≤src∧src≤4294967295)(hds:0≤dst∧dst≤4294967295)(hal:0≤all∧all≤65535)(hs:0≤s∧s≤65535):Mt.By (h20 tos id keep ttl proto src dst lo all s):=by
 have hk:0≤(if keep then(64:Int)else 0)∧(if keep then(64:Int)else 0)≤255:=by split<;>omega
 unfold h20;intro z hz
 simp only[List.mem_cons,List.not_mem_nil,or_false]at hz;rcases hz with h|h|h|h|h|h|h|h|h|h|h|h|h|h|h|h|h|h|h|h<;>subst h<;>first|exact hk|omega
theorem hdr_good(tos id:Int)(keep:Bool)(ttl proto src dst:Int)(zo:List Int)(all:Int)(hB:Mt.By (h20 tos id keep ttl proto src dst zo.length all 0++zo)):Mt.cks (hdr tos id keep ttl proto src dst zo all)=0:=by
 rw[zB9];have h0:=Mt.tw_nonneg true _ hB
 have e1:Mt.tw true (h20 tos id keep ttl proto src dst zo.length all (hsum tos id keep ttl proto src dst zo all)++zo)=Mt.tw true (h20 tos id keep ttl proto src dst zo.length all 0++zo)+hsum tos id keep ttl proto src dst zo all:=by
  rw[Mt.tw_append,Mt.tw_append,h20_tw,zC1,zC1];omega
 have e2:hsum tos id keep ttl proto src dst zo all=65535-Mt.fd (Mt.tw true (h20 tos id keep ttl proto src dst zo.length all 0++zo)):=rfl;show 65535-Mt.fd _=0
 rw[e1,e2,Mt.fd_good _ h0];omega
theorem zE6(tos id:Int)(keep:Bool)(ttl proto src dst:Int)(zo:List Int)(all:Int):(hdr tos id keep ttl proto src dst zo all).length=20+zo.length:=by
 rw[zB9,List.length_append,zC1]
theorem zG3(tos id:Int)(keep:Bool)(ttl proto src dst:Int)(zo zd:List Int)(all:Int):wat (hdr tos id keep ttl proto src dst zo all++zd) 2=all:=by
 rw[zB9];unfold wat h20;simp;omega
theorem zMg(tos id:Int)(keep:Bool)(ttl proto src dst:Int)(zo zd:List Int)(all:Int):wat (hdr tos id keep ttl proto src dst zo all++zd) 4=id:=by
 rw[zB9];unfold wat h20;simp;omega
theorem zG4(tos id:Int)(keep:Bool)(ttl proto src dst:Int)(zo zd:List Int)(all:Int):wat (hdr tos id keep ttl proto src dst zo all++zd) 6=if keep then 16384 else 0:=by
 rw[zB9];unfold wat h20;cases keep<;>simp
theorem zO8(tos id:Int)(keep:Bool)(ttl proto src dst:Int)(zo zd:List Int)(all:Int):zAx (hdr tos id keep ttl proto src dst zo all++zd) 12=src:=by
 rw[zB9];unfold zAx wat h20;simp;omega
theorem zO9(tos id:Int)(keep:Bool)(ttl proto src dst:Int)(zo zd:List Int)(all:Int):zAx (hdr tos id keep ttl proto src dst zo all++zd) 16=dst:=by
 rw[zB9];unfold zAx wat h20;simp;omega
def pkt (zs:List Int) (so sd:Value):Value:=
 .agg #[.int .u8 (zs[1]?.getD 0),.int .u16 (wat zs 4),.bool (decide (16384≤wat zs 6 % 32768)),.int .u8 (zs[8]?.getD 0),.int .u8 (zs[9]?.getD 0),.int .u32 (zAx zs 12),.int .u32 (zAx zs 16),so,sd]
theorem Rd.drop {n₀:Nat} {A:World} {a:Option Addr} {len cap:Nat} {zs:List Int} (k:Nat)(hk:k≤len)(h:Rd n₀ A (.slice a len cap) zs):Rd n₀ A (sliced a k len cap 1) (zs.drop k):=by
 rcases h with⟨a',cap',e,hz,hm,hn⟩|⟨b,off,cap',e,hne,hl,hm,hb,hc⟩
 ·cases e
  obtain rfl:k=0:=by omega
  subst hz;cases a with
  |none=>exact .inl ⟨none,cap,by simp[sliced],by simp,hm,hn⟩
  |some x=>exact .inl ⟨if cap=0 then some x else(some x).map (·.add (0*1)),cap,by simp[sliced],by simp,hm,fun h=>by split at h<;>simp at h⟩
 ·cases e
  by_cases h0:k=zs.length
  ·subst h0
   exact .inl ⟨if cap=zs.length then some ⟨b,off,none⟩else(some (⟨b,off,none⟩:Addr)).map (·.add (zs.length*1)),cap-zs.length,by simp[sliced],by simp,by omega,fun h=>by split at h<;>simp at h⟩
  ·refine .inr ⟨b,off+k,cap-k,?_,?_,by simp;omega,by omega,hb,fun j hj=> ?_⟩
   ·simp[sliced]
    rw[if_neg (by omega)];unfold Addr.add;split<;>simp_all
   ·intro e
    have:=congrArg List.length e
    simp at this
    omega
   ·have hj':k+j<zs.length:=by simp at hj;omega
    rw[Nat.add_assoc,hc (k+j) hj'];simp
theorem Rd.cutAt {n₀:Nat} {A:World} {b off len cap:Nat} {zs:List Int} (k:Nat)(hk:k≤len)(h:Rd n₀ A (.slice (some ⟨b,off,none⟩) len cap) zs):
  Rd n₀ A (.slice (if cap=k then some ⟨b,off,none⟩else some ⟨b,off+k,none⟩) (len-k) (cap-k)) (zs.drop k):=by
 have:=h.drop k hk;by_cases hk0:k=0
 ·subst hk0
  simpa[sliced,Addr.add]using this
 ·simpa[sliced,Addr.add,hk0]using this
theorem Ow.but {base:Nat} {E:Nat→Prop} {W W':World} {sv:Value} {zs:List Int} (h:Ow base W sv zs)(hb:But E W W')(hE:∀b,base≤b→¬E b):Ow base W' sv zs:=by
 rcases h with h|⟨g,cap,cur,e,hg,h1,h2,h3,h4,h5⟩
 ·exact .inl h
 ·exact .inr ⟨g,cap,cur,e,hg,h1,h2,h3,(hb.block g (eS h4) (hE g hg)).trans h4,h5⟩
def Fin (n₀:Nat) (zs:List Int) (k n:Nat) (w:World):Prop:=
 ∃so sd,w.heap[n₀]? =some (.cells #[.int .u8 (zs[1]?.getD 0),.int .u16 (wat zs 4),.bool (decide (16384≤wat zs 6 % 32768)),.int .u8 (zs[8]?.getD 0),.int .u8 (zs[9]?.getD 0),.int .u32 (zAx zs 12),.int .u32 (zAx zs 16),so,sd] 40 (0,0))∧
  Ow (n₀+1) w so ((zs.take k).drop 20)∧Ow (n₀+1) w sd ((zs.take n).drop k)
theorem Fin.later {n₀:Nat} {zs:List Int} {k n:Nat} {w w':World} (l:Later w w')(h:Fin n₀ zs k n w):Fin n₀ zs k n w':=by
 obtain⟨so,sd,h1,h2,h3⟩:=h;exact⟨so,sd,(l.block n₀ (eS h1)).trans h1,h2.below l (Nat.le_refl _),h3.below l (Nat.le_refl _)⟩
theorem KO {E:Nat→Prop} {n₀ k n:Nat} {zs:List Int} {t:TypeId} {w w':World} (l:Later w w'):Keep E (Wr n₀ 9 t) (Fin n₀ zs k n) w w':=Keep.of (fun _ _ l h=>h.later l) (fun _ _ l h=>h.later l) l
theorem zEa(rb:Nat)(sv:Value)(zs:List Int)(k n:Nat)(w:World)(hB:Mt.By zs)(hl:zs.length≤225000000000000)(hI:Rd w.heap.size w sv zs)(h20:20≤k)(hkn:k≤n)(hle:n≤zs.length)(h16:n≤65535)
  (c0:w.cell? ⟨rb,0,none⟩=some (.int .i64 k))(c1:w.cell? ⟨rb,1,none⟩=some (.int .i64 n))(c2:w.cell? ⟨rb,2,none⟩=some sv):
  Calls Tryz.prog 131 #[.pointer (some ⟨rb,0,none⟩)] w fun e w'=>∃so sd,e= .returned (pkt zs so sd)∧Ow w.heap.size w' so ((zs.take k).drop 20)∧Ow w.heap.size w' sd ((zs.take n).drop k)∧Later w w':=by
 obtain⟨i0,hi,hz0,hz1,hz2⟩:=info_parts zBi;obtain⟨b,off,cap,rfl,hl1,hm1,hb,hc⟩:=hI.cells (by omega);have d1:=hc 1 (by omega);have d8:=hc 8 (by omega);have d9:=hc 9 (by omega);have hff:=zDa hB 6;have ha:=and_keep _ hff;have HP:∀so sd,Hid (pkt zs so sd= .agg #[.int .u8 (zs[1]?.getD 0),.int .u16 (wat zs 4),.bool (decide (16384≤wat zs 6 % 32768)),.int .u8 (zs[8]?.getD 0),.int .u8 (zs[9]?.getD 0),.int .u32 (zAx zs 12),.int .u32 (zAx zs 16),so,sd]):=fun _ _=>rfl;have hne:(bits .and .u16 (wat zs 6) 16384 !=0)=decide (16384≤wat zs 6 % 32768):=by rw[ha];by_cases h:16384≤wat zs 6 % 32768<;>simp[h]
 clear ha;have hrb:rb<w.heap.size:=World.block_lt_of_cell? w ⟨rb,0,none⟩ c0;go_enter Tryz.func131,Tryz.ntmps131;go_wp2_with fail;refine zAn (R:=Keep (fun b=>b=w.heap.size) (Wr w.heap.size 9 40) (Fin w.heap.size zs k n)) (Keep.pre _ _ _) (fun w=>KO (Later.drew w)) 42 rfl (by kernel_rfl) (fun W1 hW1=> ?_);have hbel:∀w1,Keep (fun b=>b=w.heap.size) (Wr w.heap.size 9 40) (Fin w.heap.size zs k n) W1 w1→Below w.heap.size w w1:=fun w1 h=>((Below.refl w.heap.size w).alloc (Nat.le_refl _) _).trans ((hW1.trans h).1.below (by simp) (fun k hk e=>by omega));have hr1:∀w1,Keep (fun b=>b=w.heap.size) (Wr w.heap.size 9 40) (Fin w.heap.size zs k n) W1 w1→Rd w.heap.size w1 (.slice (some ⟨b,off,none⟩) zs.length cap) zs:=fun w1 h=>hI.below (hbel w1 h);have q0:∀w1,Keep (fun b=>b=w.heap.size) (Wr w.heap.size 9 40) (Fin w.heap.size zs k n) W1 w1→w1.cell? ⟨rb,0,none⟩=some (.int .i64 k):=fun w1 h=>((hbel w1 h).cell (p:=⟨rb,0,none⟩) hrb).trans c0;have q1:∀w1,Keep (fun b=>b=w.heap.size) (Wr w.heap.size 9 40) (Fin w.heap.size zs k n) W1 w1→w1.cell? ⟨rb,1,none⟩=some (.int .i64 n):=fun w1 h=>((hbel w1 h).cell (p:=⟨rb,1,none⟩) hrb).trans c1;have e1:∀w1,Keep (fun b=>b=w.heap.size) (Wr w.heap.size 9 40) (Fin w.heap.size zs k n) W1 w1→w1.cell? ⟨b,off+1,none⟩=some (.int .u8 (zs[1]?.getD 0)):=fun w1 h=>((hbel w1 h).cell (p:=⟨b,off+1,none⟩) hb).trans d1
 have e8:∀w1,Keep (fun b=>b=w.heap.size) (Wr w.heap.size 9 40) (Fin w.heap.size zs k n) W1 w1→w1.cell? ⟨b,off+8,none⟩=some (.int .u8 (zs[8]?.getD 0)):=fun w1 h=>((hbel w1 h).cell (p:=⟨b,off+8,none⟩) hb).trans d8;have e9:∀w1,Keep (fun b=>b=w.heap.size) (Wr w.heap.size 9 40) (Fin w.heap.size zs k n) W1 w1→w1.cell? ⟨b,off+9,none⟩=some (.int .u8 (zs[9]?.getD 0)):=fun w1 h=>((hbel w1 h).cell (p:=⟨b,off+9,none⟩) hb).trans d9;clear d1 d8 d9 c0 c1 c2;have i9:(9:Int)<zs.length:=by omega
 have i8:(8:Int)<zs.length:=by omega
 have i1:(1:Int)<zs.length:=by omega
 have hkc:k≤cap:=by omega
 have hnc:n≤cap:=by omega
 have i20:(20:Int)≤k:=by omega
 have ikn:(k:Int)≤n:=by omega
 have inc:(n:Int)≤cap:=by omega
 generalize gz1:zs[1]?.getD 0=z1 at*;have G1:=zAc gz1;clear gz1;generalize gz8:zs[8]?.getD 0=z8 at*;have G8:=zAc gz8;clear gz8;generalize gz9:zs[9]?.getD 0=z9 at*;have G9:=zAc gz9;clear gz9;refine rX (Keep.pre _ _ _) 0 ?_;refine rX (Keep.pre _ _ _) 1 ?_;refine rX (Keep.pre _ _ _) 2 ?_;refine rX (Keep.pre _ _ _) 3 ?_;refine zAr (Keep.pre _ _ _) 4 (.int .u16 (wat zs 4)) rfl (by kernel_rfl) (by kernel_rfl) (by kernel_rfl) (fun _ _ _ h=>h) rfl (fun w1 hw1=>zAo 39 #[.slice (some ⟨b,off,none⟩) zs.length cap,.int .i64 4] (by go_simp) ?_) ?_
 ·exact (zBh _ zs hB 4 (by omega) w1 (hr1 w1 hw1)).mono fun e w' ⟨he,q,hw⟩=>⟨he,KO (by rw[hw];exact zAm (Later.refl w1) q)⟩
 simp only[Act.put,sA,sB,sC];refine rX (Keep.pre _ _ _) 5 ?_;refine zAr (Keep.pre _ _ _) 6 (.int .u16 (wat zs 6)) rfl (by kernel_rfl) (by kernel_rfl) (by kernel_rfl) (fun _ _ _ h=>h) rfl (fun w1 hw1=>zAo 39 #[.slice (some ⟨b,off,none⟩) zs.length cap,.int .i64 6] (by go_simp) ?_) ?_
 ·exact (zBh _ zs hB 6 (by omega) w1 (hr1 w1 hw1)).mono fun e w' ⟨he,q,hw⟩=>⟨he,KO (by rw[hw];exact zAm (Later.refl w1) q)⟩
 simp only[Act.put,sA,sB,sC];refine rX (Keep.pre _ _ _) 7 ?_;refine zAr (Keep.pre _ _ _) 8 (.bool (decide (16384≤wat zs 6 % 32768))) rfl (by kernel_rfl) (by kernel_rfl) (by kernel_rfl) (fun _ _ _ h=>h) rfl (fun w1 hw1=>zEt (Keep.pre _ _ _) (by rw[←hne];go_simp)) ?_;simp only[Act.put,sA,sB,sC];refine rX (Keep.pre _ _ _) 9 ?_;refine rX (Keep.pre _ _ _) 10 ?_;refine rX (Keep.pre _ _ _) 11 ?_;refine rX (Keep.pre _ _ _) 12 ?_;refine rX (Keep.pre _ _ _) 13 ?_;refine rX (Keep.pre _ _ _) 14 ?_;refine rX (Keep.pre _ _ _) 15 ?_;refine zAr (Keep.pre _ _ _) 16 (.int .u32 (zAx zs 12)) rfl (by kernel_rfl) (by kernel_rfl) (by kernel_rfl) (fun _ _ _ h=>h) rfl (fun w1 hw1=>zAo 70 #[.slice (some ⟨b,off,none⟩) zs.length cap,.int .i64 12] (by go_simp) ?_) ?_
 ·exact (zDr _ zs hB 12 (by omega) w1 (hr1 w1 hw1)).mono fun e w' ⟨he,q,hw⟩=>⟨he,KO (by rw[hw];exact zAm (Later.refl w1) q)⟩
 simp only[Act.put,sA,sB,sC];refine rX (Keep.pre _ _ _) 17 ?_;refine zAr (Keep.pre _ _ _) 18 (.int .u32 (zAx zs 16)) rfl (by kernel_rfl) (by kernel_rfl) (by kernel_rfl) (fun _ _ _ h=>h) rfl (fun w1 hw1=>zAo 70 #[.slice (some ⟨b,off,none⟩) zs.length cap,.int .i64 16] (by go_simp) ?_) ?_
 ·exact (zDr _ zs hB 16 (by omega) w1 (hr1 w1 hw1)).mono fun e w' ⟨he,q,hw⟩=>⟨he,KO (by rw[hw];exact zAm (Later.refl w1) q)⟩
 simp only[Act.put,sA,sB,sC];refine rX (Keep.pre _ _ _) 19 ?_;refine rX (Keep.pre _ _ _) 20 ?_;refine rX (Keep.pre _ _ _) 21 ?_;refine rX (Keep.pre _ _ _) 22 ?_;refine rX (Keep.pre _ _ _) 23 ?_;refine rX (Keep.pre _ _ _) 24 ?_;refine rX (Keep.pre _ _ _) 25 ?_;refine rX (Keep.pre _ _ _) 27 ?_;refine rX (Keep.pre _ _ _) 28 ?_;refine rX (Keep.pre _ _ _) 29 ?_;refine rX (Keep.pre _ _ _) 30 ?_;refine rX (Keep.pre _ _ _) 31 ?_;refine rX (Keep.pre _ _ _) 32 ?_;refine rX (Keep.pre _ _ _) 33 ?_;refine rX (Keep.pre _ _ _) 34 ?_;refine rX (Keep.pre _ _ _) 35 ?_;refine rX (Keep.pre _ _ _) 36 ?_;refine rX (Keep.pre _ _ _) 37 ?_;refine rX (Keep.pre _ _ _) 38 ?_;have hs25:∀w1,Keep (fun b=>b=w.heap.size) (Wr w.heap.size 9 40) (Fin w.heap.size zs k n) W1 w1→Rd w.heap.size w1 (.slice (if cap=20 then some (⟨b,off,none⟩:Addr)else some ⟨b,off+20,none⟩) (k-20) (cap-20)) ((zs.take k).drop 20):=fun w1 h=>((hr1 w1 h).take k (by omega)).cutAt 20 (by omega);have hs38:∀w1,Keep (fun b=>b=w.heap.size) (Wr w.heap.size 9 40) (Fin w.heap.size zs k n) W1 w1→Rd w.heap.size w1 (.slice (if cap=k then some (⟨b,off,none⟩:Addr)else some ⟨b,off+k,none⟩) (n-k) (cap-k)) ((zs.take n).drop k):=fun w1 h=>((hr1 w1 h).take n (by omega)).cutAt k (by omega);generalize (if cap=20 then some (⟨b,off,none⟩:Addr)else some ⟨b,off+20,none⟩)=ad20 at*;generalize (if cap=k then some (⟨b,off,none⟩:Addr)else some ⟨b,off+k,none⟩)=adk at*;have hs1:w.heap.size<W1.heap.size:=by have:=hW1.1.size;simp at this;omega
 have hg1:Wr w.heap.size 9 40 W1:=hW1.2.1 ⟨_,heap_alloc_new w _,rfl⟩;refine rO 26 (fun W2 hW2=> ?_);have hs2:=Nat.lt_of_lt_of_le hs1 hW2.1.size;obtain⟨v3,W3,hrun3,hown3,hgr3⟩:=zE2 (P:=Tryz.prog) W2 26 26 5 (w.heap.size+1) i0 Tryz.underlying26 hi hz0 hz1 hz2 (.slice none 0 0) [] (World.ownsRow_nil _ _ _ _) w.heap.size _ ((zs.take k).drop 20) (hs25 W2 hW2) (by simp;omega) hs2;have hl3:Later W2 W3:=(Below.refl _ W2).grown hgr3 (Nat.le_refl _) (fun _ e=>by cases e);have hO3:=Ow.of_row hown3;rw[List.nil_append]at hO3;clear hown3 hgr3;obtain⟨a3,cap3,rfl,hq3,hm3⟩:=hO3.slice;refine zEl (.const (.slice none 0 0)) (.tmp 33) 26 rfl _ _ rfl rfl _ W3 hrun3 ⟨KO hl3,?_⟩;simp only[Act.put,sA,sB,sC];have hW3:=hW2.trans (KO hl3);refine rO 39 (fun W4 hW4=> ?_);have hs4:=Nat.lt_of_lt_of_le hs1 (hW3.trans hW4).1.size;obtain⟨v5,W5,hrun5,hown5,hgr5⟩:=zE2 (P:=Tryz.prog) W4 26 26 5 (w.heap.size+1) i0 Tryz.underlying26 hi hz0 hz1 hz2 (.slice none 0 0) [] (World.ownsRow_nil _ _ _ _) w.heap.size _ ((zs.take n).drop k) (hs38 W4 (hW3.trans hW4)) (by simp;omega) hs4;have hl5:Later W4 W5:=(Below.refl _ W4).grown hgr5 (Nat.le_refl _) (fun _ e=>by cases e);have hO5:=Ow.of_row hown5;rw[List.nil_append]at hO5;clear hown5 hgr5;obtain⟨a5,cap5,rfl,hq5,hm5⟩:=hO5.slice;refine zEl (.const (.slice none 0 0)) (.tmp 46) 26 rfl _ _ rfl rfl _ W5 hrun5 ⟨KO hl5,?_⟩;simp only[Act.put,sA,sB,sC];have hW5:=(hW3.trans hW4).trans (KO hl5);refine rX (Keep.pre _ _ _) 40 ?_;refine rO 41 (fun W6 hW6=> ?_)
 obtain⟨cur,hcur,hsz⟩:=(hW5.trans hW6).2.1 hg1;have k6:∀j,W6.cell? ⟨w.heap.size,j,none⟩=cur[j]? :=zAa hcur;have f6:∀j,W6.frozen? ⟨w.heap.size,j,none⟩=false:=zAd hcur;unfold Oper.wp;go_simp;have hk3:min k zs.length-20=((zs.take k).drop 20).length:=by simp
 have hk5:n-k=((zs.take n).drop k).length:=by simp;omega
 generalize hV7:World.setCell _ ⟨w.heap.size,8,none⟩ _=V7;have hV8:V7=zAj W6 w.heap.size 0 [.int .u8 z1,.int .u16 (wat zs 4),.bool (decide (16384≤wat zs 6 % 32768)),.int .u8 z8,.int .u8 z9,.int .u32 (zAx zs 12),.int .u32 (zAx zs 16),.slice a3 (min k zs.length-20) cap3,.slice a5 (n-k) cap5]:=hV7.symm;have hb7:But (fun b=>b=w.heap.size) W6 V7:=by rw[hV8];exact zAf (E:=fun b=>b=w.heap.size) (n:=w.heap.size) rfl _ _ _ _ (But.refl _ _)
 have hh7:=zAg [.int .u8 z1,.int .u16 (wat zs 4),.bool (decide (16384≤wat zs 6 % 32768)),.int .u8 z8,.int .u8 z9,.int .u32 (zAx zs 12),.int .u32 (zAx zs 16),.slice a3 (min k zs.length-20) cap3,.slice a5 (n-k) cap5] hcur (by simpa using hsz);rw[←hV8]at hh7;clear hV7 hV8;have hbb:=((hW4.1.trans (But.of hl5)).trans hW6.1).trans hb7
 have hF7:Fin w.heap.size zs k n V7:=by
  refine⟨_,_,?_,hO3.but hbb (fun b h e=>by omega),hO5.but (hW6.1.trans hb7) (fun b h e=>by omega)⟩;rw[G1.out,G8.out,G9.out,←hk3,←hk5];exact hh7
 refine⟨⟨hb7,fun _=>⟨_,hh7,rfl⟩,fun _=>hF7⟩,zCh (by kernel_rfl) (fun W8 hW8=> ?_)⟩;obtain⟨so,sd,hh8,hO7,hO8⟩:=hW8.2.2 hF7;have r8:=zAa hh8;have hlat:Later w W8:=hbel W8 (((hW5.trans hW6).trans ⟨hb7,fun _=>⟨_,hh7,rfl⟩,fun _=>hF7⟩).trans hW8);clear hs25 hs38 hk3 hk5 hF7 hbb hh7 hb7 q0 q1 e1 e8 e9 hr1 hbel;go_wp2_with fail;exact bodyPost_ret (v:=pkt zs so sd) (by simp[results,Tryz.results131,go_sem,r8,pkt]) rfl ⟨so,sd,rfl,hO7.mono (Nat.le_succ _),hO8.mono (Nat.le_succ _),hlat⟩
abbrev zc:List Value:=[.int .u8 0,.int .u16 0,.bool false,.int .u8 0,.int .u8 0,.int .u32 0,.int .u32 0,.slice none 0 0,.slice none 0 0]
theorem zNm(pb eb:Nat)(w:World):
  CallsD Tryz.prog 127 #[.pointer (some ⟨pb,0,none⟩),.pointer (some ⟨eb,0,none⟩)] .returning w fun e u' w'=>e= .returned (.tuple #[])∧u'= .returning∧w'=w:=by
 refine callsD_of_wpS Tryz.func127 rfl fun c₀ cs hu=> ?_;apply wpS_seq
 apply wpS_region
 simp[wpOpsS,go_sem,recoverD,hu,Tryz.ntmps127,Exit.thenS]
 refine wpS_of_wp ?_;go_wp2
 cases c₀
 simp_all [bodyPostS,results,Tryz.results127]
theorem ta_yes(c:Int)(w:World):(Instr.typeAssert (rfs c) 20 260 true).run Tryz.prog w= .ok (.tuple #[.agg #[.int .i64 c],.bool true]) w:=by kernel_rfl
theorem zG5(n pb eb:Nat)(c x:Int)(cur:Array Value)(w:World)(hp:w.heap[pb]? =some (.cells cur 40 (0,0)))(hs:cur.size=9)(he:w.heap[eb]? =some (.cells #[.int .i64 x] 53 (0,0)))(hpe:pb≠eb)(hn:n≤pb)(hn2:n≤eb):
  CallsD Tryz.prog 127 #[.pointer (some ⟨pb,0,none⟩),.pointer (some ⟨eb,0,none⟩)] (.panicking (rfp c)) w fun e u' w'=>
   e= .returned (.tuple #[])∧u'= .panicking [{ v:=rfs c,recovered:=true }]∧w'.heap[pb]? =some (.cells zc.toArray 40 (0,0))∧w'.heap[eb]? =some (.cells #[.int .i64 c] 53 (0,0))∧Below n w w':=by
 have hpl:=(eS hp);have hel:=(eS he);refine callsD_of_wpS Tryz.func127 rfl fun c₀ cs hu=> ?_;apply wpS_seq
 apply wpS_region
 simp[wpOpsS,go_sem,recoverD,hu,Tryz.ntmps127,Exit.thenS]
 simp only[Array.replicate_succ,Array.replicate_zero,List.push_toArray,List.append_toArray,List.nil_append,List.cons_append,List.setIfInBounds_toArray,List.set_cons_zero,List.set_cons_succ];have hta:=ta_yes c;refine wpS_of_wp ?_;go_wp2
 have hb0:Later w (w.alloc (.cells #[.int .i64 c] 260)):=bA _ _;have q3:(w.alloc (.cells #[.int .i64 c] 260)).cell? ⟨w.heap.size,0,none⟩=some (.int .i64 c):=zDp w _ _ 0;have hp0:=(hb0.block pb hpl).trans hp;have he0:=(hb0.block eb hel).trans he;have hwp:w.heap.size≠pb:=by omega
 have hwe:w.heap.size≠eb:=by omega
 have hpw:¬pb=w.heap.size:=by omega
 have hew:¬eb=w.heap.size:=by omega
 generalize w.alloc (.cells #[.int .i64 c] 260)=W0 at*;have k6:∀j,W0.cell? ⟨pb,j,none⟩=cur[j]? :=zAa hp0;have f6:∀j,W0.frozen? ⟨pb,j,none⟩=false:=zAd hp0;have k7:∀j,W0.cell? ⟨eb,j,none⟩=#[Value.int .i64 x][j]? :=zAa he0;have f7:∀j,W0.frozen? ⟨eb,j,none⟩=false:=zAd he0;go_region
 all_goals
  generalize hV7:World.setCell _ ⟨pb,8,none⟩ _=V7;have hV8:V7=zAj W0 pb 0 zc:=hV7.symm;have hbp:But (fun b=>b=pb) W0 V7:=by rw[hV8];exact zAf (E:=fun b=>b=pb) (n:=pb) rfl zc 0 W0 W0 (But.refl _ _)
  have hP:=zAg zc hp0 hs;rw[←hV8]at hP;clear hV7 hV8;have hE:=zAh ((hbp.block eb (Nat.lt_of_lt_of_le hel hb0.size) (fun e=>hpe e.symm)).trans he0) 0 (.int .i64 c);have hP2:=(Below.heap_setCell V7 ⟨eb,0,none⟩ (.int .i64 c) pb hpe).trans hP;have hB2:Below n w ((V7.setCell ⟨eb,0,none⟩ (.int .i64 c)).drew):=(((hb0.mono (by omega)).trans (hbp.below (Nat.le_trans (Nat.le_trans hn (Nat.le_of_lt hpl)) hb0.size) (fun k h e=>by omega))).setCell (p:=⟨eb,0,none⟩) hn2 _).drew;refine⟨rfl,_,rfl,.tuple #[],by simp[results,Tryz.results127],rfl,rfl,hP2,hE,hB2⟩
abbrev dfr (pb:Nat):List Deferred:=[{ target:= .fn (.func 127) #[.pointer (some ⟨pb,0,none⟩),.pointer (some ⟨pb+1,0,none⟩)],args:=#[] }]
theorem zMh(tm:Array Value)(pb:Nat)(c:Int)(v0 v1 v2 v3 v4 v5 v6 v7 v8:Value)(w:World)(h4:tm[4]? =some (.pointer (some ⟨pb,0,none⟩)))(h5:tm[5]? =some (.pointer (some ⟨pb+1,0,none⟩)))
  (hp:w.heap[pb]? =some (.cells #[v0,v1,v2,v3,v4,v5,v6,v7,v8] 40 (0,0)))(he:w.heap[pb+1]? =some (.cells #[.int .i64 c] 53 (0,0))):
  (results Tryz.f67 tm).run Tryz.prog w= .ok (.tuple #[.agg #[v0,v1,v2,v3,v4,v5,v6,v7,v8],.int .i64 c]) w:=by
 have kP:=zAa hp;have kE:=zAa he;simp[results,Tryz.results67,go_sem,h4,h5,kP,kE]
theorem zBa {R:Ending→World→Prop} (tm:Array Value)(n pb:Nat)(c x:Int)(cur:Array Value)(w:World)(hp:w.heap[pb]? =some (.cells cur 40 (0,0)))(hs:cur.size=9)(he:w.heap[pb+1]? =some (.cells #[.int .i64 x] 53 (0,0)))(hn:n≤pb)
  (h4:tm[4]? =some (.pointer (some ⟨pb,0,none⟩)))(h5:tm[5]? =some (.pointer (some ⟨pb+1,0,none⟩)))
  (hR:∀w',Below n w w'→R (.returned (.tuple #[.agg zc.toArray,.int .i64 c])) w'):
  bodyPostD Tryz.prog Tryz.f67 R (.panic (rfp c)) { tmps:=tm,defers:=dfr pb } w:=by
 refine leaves_cons (f:=127) (args:=#[.pointer (some ⟨pb,0,none⟩),.pointer (some ⟨pb+1,0,none⟩)]) (by simp) (by simp[go_sem]) ?_;refine(zG5 n pb (pb+1) c x cur w hp hs he (by omega) hn (by omega)).mono ?_;rintro e u' w'' ⟨rfl,rfl,hP,hE,hb⟩;exact⟨_,zMh tm pb c _ _ _ _ _ _ _ _ _ w'' h4 h5 hP hE,hR w'' hb⟩
theorem zE7 {R:Ending→World→Prop} (tm:Array Value)(pb:Nat)(c:Int)(v0 v1 v2 v3 v4 v5 v6 v7 v8:Value)(w:World)
  (hp:w.heap[pb]? =some (.cells #[v0,v1,v2,v3,v4,v5,v6,v7,v8] 40 (0,0)))(he:w.heap[pb+1]? =some (.cells #[.int .i64 c] 53 (0,0)))
  (h4:tm[4]? =some (.pointer (some ⟨pb,0,none⟩)))(h5:tm[5]? =some (.pointer (some ⟨pb+1,0,none⟩)))
  (hR:R (.returned (.tuple #[.agg #[v0,v1,v2,v3,v4,v5,v6,v7,v8],.int .i64 c])) w):
  bodyPostD Tryz.prog Tryz.f67 R .ret { tmps:=tm,defers:=dfr pb } w:=by
 refine leaves_cons (f:=127) (args:=#[.pointer (some ⟨pb,0,none⟩),.pointer (some ⟨pb+1,0,none⟩)]) (by simp) (by simp[go_sem]) ?_;refine(zNm pb (pb+1) w).mono ?_;rintro e u' w'' ⟨rfl,rfl,rfl⟩;exact⟨_,zMh tm pb c _ _ _ _ _ _ _ _ _ w'' h4 h5 hp he,hR⟩
def ral (q:Bool) (zs:List Int):Int:=if q then min (wat zs 2) zs.length else wat zs 2
def rde (q:Bool) (zs:List Int):Int:=
 if msr zs≠0 then msr zs else if(zs.length:Int)<ral q zs then 3 else if chk zs≠0 then chk zs else if q=true∧ral q zs-hl4 zs<8 then 3 else 0
theorem read_any(q:Bool)(sv:Value)(zs:List Int)(w:World)(hB:Mt.By zs)(hl:zs.length≤225000000000000)(hI:Rd w.heap.size w sv zs):
  Calls Tryz.prog 67 #[sv,.bool q] w fun e w'=>Below w.heap.size w w'∧
   ((rde q zs≠0∧e= .returned (.tuple #[.agg zc.toArray,.int .i64 (rde q zs)]))∨
    (rde q zs=0∧∃so sd,e= .returned (.tuple #[pkt zs so sd,.int .i64 0])∧Ow w.heap.size w' so ((zs.take (hl4 zs).toNat).drop 20)∧Ow w.heap.size w' sd ((zs.take (ral q zs).toNat).drop (hl4 zs).toNat))):=by
 have hmf:∀(fn:Fn) (first cap:Array Value) (w:World),(Instr.makeFunc fn first cap).run Tryz.prog w= .ok (.func fn first cap) w:=fun _ _ _ _=>rfl;obtain⟨a,cap,rfl,hl1,hm1⟩:=hI.slice;have HM:Hid (rde q zs=if msr zs≠0 then msr zs else if(zs.length:Int)<ral q zs then 3 else if chk zs≠0 then chk zs else if q=true∧ral q zs-hl4 zs<8 then 3 else 0):=rfl;generalize rde q zs=m at*;go_enter_defers Tryz.func67,Tryz.ntmps67
 go_wp2_with fail;have a1:=heap_alloc_new w (.cells zc.toArray 40);have s1:(w.alloc (.cells zc.toArray 40)).heap.size=w.heap.size+1:=by simp
 have hb1:Below w.heap.size w (w.alloc (.cells zc.toArray 40)):=bA _ _;generalize w.alloc (.cells zc.toArray 40)=W1 at*;have a2:=heap_alloc_new W1 (.cells #[.int .i64 0] 53);rw[s1]at a2;have l2:Later W1 (W1.alloc (.cells #[.int .i64 0] 53)):=bA _ _;have a3:=(l2.block _ (by omega)).trans a1;have s2:(W1.alloc (.cells #[.int .i64 0] 53)).heap.size=w.heap.size+1+1:=by simp[s1]
 generalize W1.alloc (.cells #[.int .i64 0] 53)=W2 at*;have a4:=heap_alloc_new W2 (.cells #[.int .i64 0,.int .i64 0,.slice a zs.length cap] 262);rw[s2]at a4;have l3:Later W2 (W2.alloc (.cells #[.int .i64 0,.int .i64 0,.slice a zs.length cap] 262)):=bA _ _;have a5:=(l3.block _ (by omega)).trans a2;have a6:=(l3.block _ (by omega)).trans a3;have s3:(W2.alloc (.cells #[.int .i64 0,.int .i64 0,.slice a zs.length cap] 262)).heap.size=w.heap.size+1+1+1:=by simp[s2]
 generalize W2.alloc (.cells #[.int .i64 0,.int .i64 0,.slice a zs.length cap] 262)=W3 at*;have hb3:=(hb1.trans (l2.mono (by omega))).trans (l3.mono (by omega));clear a1 a2 a3 l2 l3 hb1 s1 s2;refine(zKf w.heap.size (w.heap.size+1+1) 0 0 _ zs W3 hB hl (hI.below hb3) (by omega) (zAa a4 0) (zAa a4 1) (zAa a4 2) (zAd a4 0) (zAd a4 1)).mono ?_;rintro e w4 ⟨hb4,⟨h1,rfl⟩|⟨h1,rfl,k0,k1,k2,f1⟩⟩
 ·have:=HM.out
  rw[if_pos h1]at this;subst this;exact zBa _ w.heap.size w.heap.size _ 0 _ w4 ((hb4.block _ (by omega)).trans a6) rfl ((hb4.block _ (by omega)).trans a5) (Nat.le_refl _) rfl rfl (fun w' hb'=>⟨(hb3.trans (hb4.mono (by omega))).trans hb',.inl ⟨h1,rfl⟩⟩)
 have hfit:20≤hl4 zs∧hl4 zs≤zs.length∧hl4 zs≤wat zs 2∧20≤zs.length:=by
  unfold msr at h1;split at h1
  ·omega
  ·split at h1
   ·omega
   ·split at h1
    ·omega
    ·split at h1
     ·omega
     ·split at h1<;>omega
 have hn2:=zDa hB 2;cases q
 ·go_wp2_with fail
  by_cases h2:(zs.length:Int)<wat zs 2
  ·rw[show decide ((zs.length:Int)<wat zs 2)=true from by simpa using h2]
   refine(zA2 3 _).mono ?_;rintro e w' ⟨rfl,rfl⟩;have:=HM.out;rw[if_neg (by simp[h1]),if_pos (by simpa[ral]using h2)]at this;subst this;exact zBa _ w.heap.size w.heap.size _ 0 _ w4 ((hb4.block _ (by omega)).trans a6) rfl ((hb4.block _ (by omega)).trans a5) (Nat.le_refl _) rfl rfl (fun w' hb'=>⟨(hb3.trans (hb4.mono (by omega))).trans hb',.inl ⟨by omega,rfl⟩⟩)
  rw[show decide ((zs.length:Int)<wat zs 2)=false from by simpa using h2];refine(zA0 3 _).mono ?_;rintro e w' ⟨rfl,rfl⟩;have hb5:=hb4;have K0:=k0;have K1:=k1;have K2:=k2;clear hb4 k0 k1 k2;have hz5:=hb5.size;go_wp2_with fail;refine(zE5 (w.heap.size+1+1) _ zs w4 hB hl ((hI.below (hb3.trans (hb5.mono (by omega)))).mono (by omega)) hfit.1 hfit.2.1 K0 K2).mono ?_;rintro e w6 ⟨l6,⟨h3,rfl⟩|⟨h3,rfl⟩⟩
  ·have:=HM.out
   rw[if_neg (by simp[h1]),if_neg (by simp[ral];omega),if_pos h3]at this;subst this;exact zBa _ w.heap.size w.heap.size _ 0 _ w6 ((l6.block _ (by omega)).trans ((hb5.block _ (by omega)).trans a6)) rfl ((l6.block _ (by omega)).trans ((hb5.block _ (by omega)).trans a5)) (Nat.le_refl _) rfl rfl (fun w' hb'=>⟨((hb3.trans (hb5.mono (by omega))).trans (l6.mono (by omega))).trans hb',.inl ⟨h3,rfl⟩⟩)
  obtain⟨k,hk⟩:=Int.eq_ofNat_of_zero_le (show 0≤hl4 zs by omega);obtain⟨n,hn⟩:=Int.eq_ofNat_of_zero_le (show 0≤wat zs 2 by omega);rw[hk]at K0;rw[hn]at K1;have c6:=l6.cell K0;have d6:=l6.cell K1;have e6:=l6.cell K2;have p6:=(l6.block _ (by omega)).trans ((hb5.block _ (by omega)).trans a6);have q6:=(l6.block _ (by omega)).trans ((hb5.block _ (by omega)).trans a5);have hb6:=hb5.trans (l6.mono (by omega));have HK:=zAc hk;have HN:=zAc hn;have hkn:20≤k∧k≤n∧n≤zs.length∧n≤65535:=by omega
  clear hk hn;go_wp2_with fail;refine(zEa (w.heap.size+1+1) _ zs k n w6 hB hl ((hI.below (hb3.trans (hb6.mono (by omega)))).mono (Nat.le_trans hb3.size hb6.size)) hkn.1 hkn.2.1 hkn.2.2.1 hkn.2.2.2 c6 d6 e6).mono ?_;rintro e w7 ⟨so,sd,rfl,hOo,hOd,l7⟩;have p7:=(l7.block _ (eS p6)).trans p6;have q7:=(l7.block _ (eS q6)).trans q6;have hb7:=hb6.trans (l7.mono (Nat.le_trans (by omega) hb6.size));obtain⟨aso,cso,rfl,_,_⟩:=hOo.slice;obtain⟨asd,csd,rfl,_,_⟩:=hOd.slice;have hlo:((zs.take k).drop 20).length=min k zs.length-20:=by simp
  have hld:((zs.take n).drop k).length=n-k:=by simp;omega
  rw[hlo]at hOo⊢;rw[hld]at hOd⊢;clear hlo hld;have P7:=zAa p7;have F7:=zAd p7;unfold pkt;go_wp2_with fail;clear P7 F7;generalize hV8:World.setCell _ ⟨w.heap.size,8,none⟩ _=V8;have hV9:V8=zAj w7 w.heap.size 0 [.int .u8 (zs[1]?.getD 0),.int .u16 (wat zs 4),.bool (decide (16384≤wat zs 6 % 32768)),.int .u8 (zs[8]?.getD 0),.int .u8 (zs[9]?.getD 0),.int .u32 (zAx zs 12),.int .u32 (zAx zs 16),.slice aso (min k zs.length-20) cso,.slice asd (n-k) csd]:=hV8.symm;have hb8:But (fun b=>b=w.heap.size) w7 V8:=by rw[hV9];exact zAf (E:=fun b=>b=w.heap.size) (n:=w.heap.size) rfl _ _ _ _ (But.refl _ _)
  have p8:=zAg [.int .u8 (zs[1]?.getD 0),.int .u16 (wat zs 4),.bool (decide (16384≤wat zs 6 % 32768)),.int .u8 (zs[8]?.getD 0),.int .u8 (zs[9]?.getD 0),.int .u32 (zAx zs 12),.int .u32 (zAx zs 16),.slice aso (min k zs.length-20) cso,.slice asd (n-k) csd] p7 rfl;rw[←hV9]at p8;clear hV8 hV9;have q8:=(hb8.block _ (eS q7) (by omega)).trans q7;have P8:=zAa p8;have F8:=zAd p8;have E8:=zAa q8;have G8:=zAd q8;have hs7:w.heap.size≤w7.heap.size:=Nat.le_trans hb3.size hb7.size;have hbW8:=(hb3.trans (hb7.mono (by omega))).trans (hb8.below hs7 (fun j h e=>by omega));have hOo8:=hOo.but hb8 (fun b h e=>by have:=hb6.size;omega);have hOd8:=hOd.but hb8 (fun b h e=>by have:=hb6.size;omega);refine(zA0 3 _).mono ?_;rintro e w' ⟨rfl,rfl⟩;go_wp2_with fail;generalize hV9:World.setCell _ ⟨w.heap.size,8,none⟩ _=V9;have hV10:V9=zAj V8 w.heap.size 0 [.int .u8 (zs[1]?.getD 0),.int .u16 (wat zs 4),.bool (decide (16384≤wat zs 6 % 32768)),.int .u8 (zs[8]?.getD 0),.int .u8 (zs[9]?.getD 0),.int .u32 (zAx zs 12),.int .u32 (zAx zs 16),.slice aso (min k zs.length-20) cso,.slice asd (n-k) csd]:=hV9.symm;have hb9:But (fun b=>b=w.heap.size) V8 V9:=by rw[hV10];exact zAf (E:=fun b=>b=w.heap.size) (n:=w.heap.size) rfl _ _ _ _ (But.refl _ _)
  have p9:=zAg [.int .u8 (zs[1]?.getD 0),.int .u16 (wat zs 4),.bool (decide (16384≤wat zs 6 % 32768)),.int .u8 (zs[8]?.getD 0),.int .u8 (zs[9]?.getD 0),.int .u32 (zAx zs 12),.int .u32 (zAx zs 16),.slice aso (min k zs.length-20) cso,.slice asd (n-k) csd] p8 rfl;rw[←hV10]at p9;clear hV9 hV10;have q9:=(hb9.block _ (eS q8) (by omega)).trans q8;have q10:=zAh q9 0 (.int .i64 0);have p10:=(Below.heap_setCell V9 ⟨w.heap.size+1,0,none⟩ (.int .i64 0) w.heap.size (by simp)).trans p9;have hs8:w.heap.size≤V8.heap.size:=Nat.le_trans hs7 hb8.size;have hb10:Below w.heap.size w (V9.setCell ⟨w.heap.size+1,0,none⟩ (.int .i64 0)):=(hbW8.trans (hb9.below hs8 (fun j h e=>by omega))).setCell (p:=⟨w.heap.size+1,0,none⟩) (Nat.le_succ _) _;have hbb:But (fun b=>b=w.heap.size∨b=w.heap.size+1) V8 (V9.setCell ⟨w.heap.size+1,0,none⟩ (.int .i64 0)):=But.setCell (⟨hb9.os,hb9.tape,hb9.output,hb9.size,fun j hj he=>hb9.block j hj (fun e=>he (.inl e))⟩) (.inr rfl) _;have:=HM.out;rw[if_neg (by simp[h1]),if_neg (by simp[ral];omega),if_neg (by simp[h3]),if_neg (by simp)]at this;refine zE7 _ w.heap.size 0 _ _ _ _ _ _ _ _ _ _ p10 q10 rfl rfl ⟨hb10,.inr ⟨this,_,_,rfl,?_,?_⟩⟩
  ·rw[HK.out]
   exact(hOo8.but hbb (fun b h e=>by have:=hb6.size;omega)).mono (Nat.le_trans hb3.size hb6.size)
  ·rw[HK.out,show ral false zs=(n:Int)from by simp[ral];exact HN.out]
   exact(hOd8.but hbb (fun b h e=>by have:=hb6.size;omega)).mono (Nat.le_trans hb3.size hb6.size)
 ·by_cases hmn:(zs.length:Int)<wat zs 2
  ·go_wp2_with fail
   have hb5:Below (w.heap.size+1+1) W3 (w4.setCell ⟨w.heap.size+1+1,1,none⟩ (.int .i64 (zs.length:Int))):=hb4.setCell (p:=⟨w.heap.size+1+1,1,none⟩) (Nat.le_refl _) _;have K0:(w4.setCell ⟨w.heap.size+1+1,1,none⟩ (.int .i64 (zs.length:Int))).cell? ⟨w.heap.size+1+1,0,none⟩=some (.int .i64 (hl4 zs)):=(World.cell?_setCell_other _ _ _ _ (by simp)).trans k0;have K1:(w4.setCell ⟨w.heap.size+1+1,1,none⟩ (.int .i64 (zs.length:Int))).cell? ⟨w.heap.size+1+1,1,none⟩=some (.int .i64 (zs.length:Int)):=World.cell?_setCell_same _ _ _ k1;have K2:(w4.setCell ⟨w.heap.size+1+1,1,none⟩ (.int .i64 (zs.length:Int))).cell? ⟨w.heap.size+1+1,2,none⟩=some (.slice a zs.length cap):=(World.cell?_setCell_other _ _ _ _ (by simp)).trans k2;generalize w4.setCell ⟨w.heap.size+1+1,1,none⟩ (.int .i64 (zs.length:Int))=W5 at*;clear hb4 k0 k1 k2;refine(zA0 3 _).mono ?_;rintro e w' ⟨rfl,rfl⟩;have hz5:=hb5.size;go_wp2_with fail;refine(zE5 (w.heap.size+1+1) _ zs W5 hB hl ((hI.below (hb3.trans (hb5.mono (by omega)))).mono (by omega)) hfit.1 hfit.2.1 K0 K2).mono ?_;rintro e w6 ⟨l6,⟨h3,rfl⟩|⟨h3,rfl⟩⟩
   ·have:=HM.out
    rw[if_neg (by simp[h1]),if_neg (by simp[ral];omega),if_pos h3]at this;subst this;exact zBa _ w.heap.size w.heap.size _ 0 _ w6 ((l6.block _ (by omega)).trans ((hb5.block _ (by omega)).trans a6)) rfl ((l6.block _ (by omega)).trans ((hb5.block _ (by omega)).trans a5)) (Nat.le_refl _) rfl rfl (fun w' hb'=>⟨((hb3.trans (hb5.mono (by omega))).trans (l6.mono (by omega))).trans hb',.inl ⟨h3,rfl⟩⟩)
   obtain⟨k,hk⟩:=Int.eq_ofNat_of_zero_le (show 0≤hl4 zs by omega);obtain⟨n,hn⟩:=Int.eq_ofNat_of_zero_le (show 0≤(zs.length:Int) by omega);rw[hk]at K0;rw[hn]at K1;have c6:=l6.cell K0;have d6:=l6.cell K1;have e6:=l6.cell K2;have p6:=(l6.block _ (by omega)).trans ((hb5.block _ (by omega)).trans a6);have q6:=(l6.block _ (by omega)).trans ((hb5.block _ (by omega)).trans a5);have hb6:=hb5.trans (l6.mono (by omega));have HK:=zAc hk;have HN:=zAc hn;have hkn:20≤k∧k≤n∧n≤zs.length∧n≤65535:=by omega
   clear hk hn;go_wp2_with fail;refine(zEa (w.heap.size+1+1) _ zs k n w6 hB hl ((hI.below (hb3.trans (hb6.mono (by omega)))).mono (Nat.le_trans hb3.size hb6.size)) hkn.1 hkn.2.1 hkn.2.2.1 hkn.2.2.2 c6 d6 e6).mono ?_;rintro e w7 ⟨so,sd,rfl,hOo,hOd,l7⟩;have p7:=(l7.block _ (eS p6)).trans p6;have q7:=(l7.block _ (eS q6)).trans q6;have hb7:=hb6.trans (l7.mono (Nat.le_trans (by omega) hb6.size));obtain⟨aso,cso,rfl,_,_⟩:=hOo.slice;obtain⟨asd,csd,rfl,_,_⟩:=hOd.slice;have hlo:((zs.take k).drop 20).length=min k zs.length-20:=by simp
   have hld:((zs.take n).drop k).length=n-k:=by simp;omega
   rw[hlo]at hOo⊢;rw[hld]at hOd⊢;clear hlo hld;have P7:=zAa p7;have F7:=zAd p7;unfold pkt;go_wp2_with fail;clear P7 F7;generalize hV8:World.setCell _ ⟨w.heap.size,8,none⟩ _=V8;have hV9:V8=zAj w7 w.heap.size 0 [.int .u8 (zs[1]?.getD 0),.int .u16 (wat zs 4),.bool (decide (16384≤wat zs 6 % 32768)),.int .u8 (zs[8]?.getD 0),.int .u8 (zs[9]?.getD 0),.int .u32 (zAx zs 12),.int .u32 (zAx zs 16),.slice aso (min k zs.length-20) cso,.slice asd (n-k) csd]:=hV8.symm;have hb8:But (fun b=>b=w.heap.size) w7 V8:=by rw[hV9];exact zAf (E:=fun b=>b=w.heap.size) (n:=w.heap.size) rfl _ _ _ _ (But.refl _ _)
   have p8:=zAg [.int .u8 (zs[1]?.getD 0),.int .u16 (wat zs 4),.bool (decide (16384≤wat zs 6 % 32768)),.int .u8 (zs[8]?.getD 0),.int .u8 (zs[9]?.getD 0),.int .u32 (zAx zs 12),.int .u32 (zAx zs 16),.slice aso (min k zs.length-20) cso,.slice asd (n-k) csd] p7 rfl;rw[←hV9]at p8;clear hV8 hV9;have q8:=(hb8.block _ (eS q7) (by omega)).trans q7;have P8:=zAa p8;have F8:=zAd p8;have E8:=zAa q8;have G8:=zAd q8;have hs7:w.heap.size≤w7.heap.size:=Nat.le_trans hb3.size hb7.size;have hbW8:=(hb3.trans (hb7.mono (by omega))).trans (hb8.below hs7 (fun j h e=>by omega));have hOo8:=hOo.but hb8 (fun b h e=>by have:=hb6.size;omega);have hOd8:=hOd.but hb8 (fun b h e=>by have:=hb6.size;omega);have hw8:Later w7 w7:=Later.refl _;by_cases h4:n-k<8
   ·rw[show decide (((n-k:Nat):Int)<8)=true from by simp;omega]
    refine(zA2 3 _).mono ?_;rintro e w' ⟨rfl,rfl⟩;have:=HM.out;rw[if_neg (by simp[h1]),if_neg (by simp[ral];omega),if_neg (by simp[h3]),if_pos ⟨by simp,by have h5:=HK.out;have h6:=HN.out;simp[ral];omega⟩]at this;subst this;exact zBa _ w.heap.size w.heap.size _ 0 _ V8 p8 rfl q8 (Nat.le_refl _) rfl rfl (fun w' hb'=>⟨hbW8.trans hb',.inl ⟨by omega,rfl⟩⟩)
   rw[show decide (((n-k:Nat):Int)<8)=false from by simp;omega];refine(zA0 3 _).mono ?_;rintro e w' ⟨rfl,rfl⟩;go_wp2_with fail;generalize hV9:World.setCell _ ⟨w.heap.size,8,none⟩ _=V9;have hV10:V9=zAj V8 w.heap.size 0 [.int .u8 (zs[1]?.getD 0),.int .u16 (wat zs 4),.bool (decide (16384≤wat zs 6 % 32768)),.int .u8 (zs[8]?.getD 0),.int .u8 (zs[9]?.getD 0),.int .u32 (zAx zs 12),.int .u32 (zAx zs 16),.slice aso (min k zs.length-20) cso,.slice asd (n-k) csd]:=hV9.symm;have hb9:But (fun b=>b=w.heap.size) V8 V9:=by rw[hV10];exact zAf (E:=fun b=>b=w.heap.size) (n:=w.heap.size) rfl _ _ _ _ (But.refl _ _)
   have p9:=zAg [.int .u8 (zs[1]?.getD 0),.int .u16 (wat zs 4),.bool (decide (16384≤wat zs 6 % 32768)),.int .u8 (zs[8]?.getD 0),.int .u8 (zs[9]?.getD 0),.int .u32 (zAx zs 12),.int .u32 (zAx zs 16),.slice aso (min k zs.length-20) cso,.slice asd (n-k) csd] p8 rfl;rw[←hV10]at p9;clear hV9 hV10;have q9:=(hb9.block _ (eS q8) (by omega)).trans q8;have q10:=zAh q9 0 (.int .i64 0);have p10:=(Below.heap_setCell V9 ⟨w.heap.size+1,0,none⟩ (.int .i64 0) w.heap.size (by simp)).trans p9;have hs8:w.heap.size≤V8.heap.size:=Nat.le_trans hs7 hb8.size;have hb10:Below w.heap.size w (V9.setCell ⟨w.heap.size+1,0,none⟩ (.int .i64 0)):=(hbW8.trans (hb9.below hs8 (fun j h e=>by omega))).setCell (p:=⟨w.heap.size+1,0,none⟩) (Nat.le_succ _) _;have hbb:But (fun b=>b=w.heap.size∨b=w.heap.size+1) V8 (V9.setCell ⟨w.heap.size+1,0,none⟩ (.int .i64 0)):=But.setCell (⟨hb9.os,hb9.tape,hb9.output,hb9.size,fun j hj he=>hb9.block j hj (fun e=>he (.inl e))⟩) (.inr rfl) _;have:=HM.out;rw[if_neg (by simp[h1]),if_neg (by simp[ral];omega),if_neg (by simp[h3]),if_neg (by have h5:=HK.out;have h6:=HN.out;simp[ral];omega)]at this;refine zE7 _ w.heap.size 0 _ _ _ _ _ _ _ _ _ _ p10 q10 rfl rfl ⟨hb10,.inr ⟨this,_,_,rfl,?_,?_⟩⟩
   ·rw[HK.out]
    exact(hOo8.but hbb (fun b h e=>by have:=hb6.size;omega)).mono (Nat.le_trans hb3.size hb6.size)
   ·rw[HK.out,show ral true zs=(n:Int)from by simp[ral];have h6:=HN.out;omega]
    exact(hOd8.but hbb (fun b h e=>by have:=hb6.size;omega)).mono (Nat.le_trans hb3.size hb6.size)
  ·go_wp2_with fail
   rw[show decide ((zs.length:Int)<wat zs 2)=false from by simpa using hmn];have hb5:Below (w.heap.size+1+1) W3 (w4.setCell ⟨w.heap.size+1+1,1,none⟩ (.int .i64 (wat zs 2))):=hb4.setCell (p:=⟨w.heap.size+1+1,1,none⟩) (Nat.le_refl _) _;have K0:(w4.setCell ⟨w.heap.size+1+1,1,none⟩ (.int .i64 (wat zs 2))).cell? ⟨w.heap.size+1+1,0,none⟩=some (.int .i64 (hl4 zs)):=(World.cell?_setCell_other _ _ _ _ (by simp)).trans k0;have K1:(w4.setCell ⟨w.heap.size+1+1,1,none⟩ (.int .i64 (wat zs 2))).cell? ⟨w.heap.size+1+1,1,none⟩=some (.int .i64 (wat zs 2)):=World.cell?_setCell_same _ _ _ k1;have K2:(w4.setCell ⟨w.heap.size+1+1,1,none⟩ (.int .i64 (wat zs 2))).cell? ⟨w.heap.size+1+1,2,none⟩=some (.slice a zs.length cap):=(World.cell?_setCell_other _ _ _ _ (by simp)).trans k2;generalize w4.setCell ⟨w.heap.size+1+1,1,none⟩ (.int .i64 (wat zs 2))=W5 at*;clear hb4 k0 k1 k2;refine(zA0 3 _).mono ?_;rintro e w' ⟨rfl,rfl⟩;have hz5:=hb5.size;go_wp2_with fail;refine(zE5 (w.heap.size+1+1) _ zs W5 hB hl ((hI.below (hb3.trans (hb5.mono (by omega)))).mono (by omega)) hfit.1 hfit.2.1 K0 K2).mono ?_;rintro e w6 ⟨l6,⟨h3,rfl⟩|⟨h3,rfl⟩⟩
   ·have:=HM.out
    rw[if_neg (by simp[h1]),if_neg (by simp[ral];omega),if_pos h3]at this;subst this;exact zBa _ w.heap.size w.heap.size _ 0 _ w6 ((l6.block _ (by omega)).trans ((hb5.block _ (by omega)).trans a6)) rfl ((l6.block _ (by omega)).trans ((hb5.block _ (by omega)).trans a5)) (Nat.le_refl _) rfl rfl (fun w' hb'=>⟨((hb3.trans (hb5.mono (by omega))).trans (l6.mono (by omega))).trans hb',.inl ⟨h3,rfl⟩⟩)
   obtain⟨k,hk⟩:=Int.eq_ofNat_of_zero_le (show 0≤hl4 zs by omega);obtain⟨n,hn⟩:=Int.eq_ofNat_of_zero_le (show 0≤wat zs 2 by omega);rw[hk]at K0;rw[hn]at K1;have c6:=l6.cell K0;have d6:=l6.cell K1;have e6:=l6.cell K2;have p6:=(l6.block _ (by omega)).trans ((hb5.block _ (by omega)).trans a6);have q6:=(l6.block _ (by omega)).trans ((hb5.block _ (by omega)).trans a5);have hb6:=hb5.trans (l6.mono (by omega));have HK:=zAc hk;have HN:=zAc hn;have hkn:20≤k∧k≤n∧n≤zs.length∧n≤65535:=by omega
   clear hk hn;go_wp2_with fail;refine(zEa (w.heap.size+1+1) _ zs k n w6 hB hl ((hI.below (hb3.trans (hb6.mono (by omega)))).mono (Nat.le_trans hb3.size hb6.size)) hkn.1 hkn.2.1 hkn.2.2.1 hkn.2.2.2 c6 d6 e6).mono ?_;rintro e w7 ⟨so,sd,rfl,hOo,hOd,l7⟩;have p7:=(l7.block _ (eS p6)).trans p6;have q7:=(l7.block _ (eS q6)).trans q6;have hb7:=hb6.trans (l7.mono (Nat.le_trans (by omega) hb6.size));obtain⟨aso,cso,rfl,_,_⟩:=hOo.slice;obtain⟨asd,csd,rfl,_,_⟩:=hOd.slice;have hlo:((zs.take k).drop 20).length=min k zs.length-20:=by simp
   have hld:((zs.take n).drop k).length=n-k:=by simp;omega
   rw[hlo]at hOo⊢;rw[hld]at hOd⊢;clear hlo hld;have P7:=zAa p7;have F7:=zAd p7;unfold pkt;go_wp2_with fail;clear P7 F7;generalize hV8:World.setCell _ ⟨w.heap.size,8,none⟩ _=V8;have hV9:V8=zAj w7 w.heap.size 0 [.int .u8 (zs[1]?.getD 0),.int .u16 (wat zs 4),.bool (decide (16384≤wat zs 6 % 32768)),.int .u8 (zs[8]?.getD 0),.int .u8 (zs[9]?.getD 0),.int .u32 (zAx zs 12),.int .u32 (zAx zs 16),.slice aso (min k zs.length-20) cso,.slice asd (n-k) csd]:=hV8.symm;have hb8:But (fun b=>b=w.heap.size) w7 V8:=by rw[hV9];exact zAf (E:=fun b=>b=w.heap.size) (n:=w.heap.size) rfl _ _ _ _ (But.refl _ _)
   have p8:=zAg [.int .u8 (zs[1]?.getD 0),.int .u16 (wat zs 4),.bool (decide (16384≤wat zs 6 % 32768)),.int .u8 (zs[8]?.getD 0),.int .u8 (zs[9]?.getD 0),.int .u32 (zAx zs 12),.int .u32 (zAx zs 16),.slice aso (min k zs.length-20) cso,.slice asd (n-k) csd] p7 rfl;rw[←hV9]at p8;clear hV8 hV9;have q8:=(hb8.block _ (eS q7) (by omega)).trans q7;have P8:=zAa p8;have F8:=zAd p8;have E8:=zAa q8;have G8:=zAd q8;have hs7:w.heap.size≤w7.heap.size:=Nat.le_trans hb3.size hb7.size;have hbW8:=(hb3.trans (hb7.mono (by omega))).trans (hb8.below hs7 (fun j h e=>by omega));have hOo8:=hOo.but hb8 (fun b h e=>by have:=hb6.size;omega);have hOd8:=hOd.but hb8 (fun b h e=>by have:=hb6.size;omega);have hw8:Later w7 w7:=Later.refl _;by_cases h4:n-k<8
   ·rw[show decide (((n-k:Nat):Int)<8)=true from by simp;omega]
    refine(zA2 3 _).mono ?_;rintro e w' ⟨rfl,rfl⟩;have:=HM.out;rw[if_neg (by simp[h1]),if_neg (by simp[ral];omega),if_neg (by simp[h3]),if_pos ⟨by simp,by have h5:=HK.out;have h6:=HN.out;simp[ral];omega⟩]at this;subst this;exact zBa _ w.heap.size w.heap.size _ 0 _ V8 p8 rfl q8 (Nat.le_refl _) rfl rfl (fun w' hb'=>⟨hbW8.trans hb',.inl ⟨by omega,rfl⟩⟩)
   rw[show decide (((n-k:Nat):Int)<8)=false from by simp;omega];refine(zA0 3 _).mono ?_;rintro e w' ⟨rfl,rfl⟩;go_wp2_with fail;generalize hV9:World.setCell _ ⟨w.heap.size,8,none⟩ _=V9;have hV10:V9=zAj V8 w.heap.size 0 [.int .u8 (zs[1]?.getD 0),.int .u16 (wat zs 4),.bool (decide (16384≤wat zs 6 % 32768)),.int .u8 (zs[8]?.getD 0),.int .u8 (zs[9]?.getD 0),.int .u32 (zAx zs 12),.int .u32 (zAx zs 16),.slice aso (min k zs.length-20) cso,.slice asd (n-k) csd]:=hV9.symm;have hb9:But (fun b=>b=w.heap.size) V8 V9:=by rw[hV10];exact zAf (E:=fun b=>b=w.heap.size) (n:=w.heap.size) rfl _ _ _ _ (But.refl _ _)
   have p9:=zAg [.int .u8 (zs[1]?.getD 0),.int .u16 (wat zs 4),.bool (decide (16384≤wat zs 6 % 32768)),.int .u8 (zs[8]?.getD 0),.int .u8 (zs[9]?.getD 0),.int .u32 (zAx zs 12),.int .u32 (zAx zs 16),.slice aso (min k zs.length-20) cso,.slice asd (n-k) csd] p8 rfl;rw[←hV10]at p9;clear hV9 hV10;have q9:=(hb9.block _ (eS q8) (by omega)).trans q8;have q10:=zAh q9 0 (.int .i64 0);have p10:=(Below.heap_setCell V9 ⟨w.heap.size+1,0,none⟩ (.int .i64 0) w.heap.size (by simp)).trans p9;have hs8:w.heap.size≤V8.heap.size:=Nat.le_trans hs7 hb8.size;have hb10:Below w.heap.size w (V9.setCell ⟨w.heap.size+1,0,none⟩ (.int .i64 0)):=(hbW8.trans (hb9.below hs8 (fun j h e=>by omega))).setCell (p:=⟨w.heap.size+1,0,none⟩) (Nat.le_succ _) _;have hbb:But (fun b=>b=w.heap.size∨b=w.heap.size+1) V8 (V9.setCell ⟨w.heap.size+1,0,none⟩ (.int .i64 0)):=But.setCell (⟨hb9.os,hb9.tape,hb9.output,hb9.size,fun j hj he=>hb9.block j hj (fun e=>he (.inl e))⟩) (.inr rfl) _;have:=HM.out;rw[if_neg (by simp[h1]),if_neg (by simp[ral];omega),if_neg (by simp[h3]),if_neg (by have h5:=HK.out;have h6:=HN.out;simp[ral];omega)]at this;refine zE7 _ w.heap.size 0 _ _ _ _ _ _ _ _ _ _ p10 q10 rfl rfl ⟨hb10,.inr ⟨this,_,_,rfl,?_,?_⟩⟩
   ·rw[HK.out]
    exact(hOo8.but hbb (fun b h e=>by have:=hb6.size;omega)).mono (Nat.le_trans hb3.size hb6.size)
   ·rw[HK.out,show ral true zs=(n:Int)from by simp[ral];have h6:=HN.out;omega]
    exact(hOd8.but hbb (fun b h e=>by have:=hb6.size;omega)).mono (Nat.le_trans hb3.size hb6.size)
theorem zAe(w:World)(o:Obj):Later w (w.alloc o):=bA _ _
theorem zA3(c:Int)(w:World):
  Calls Tryz.prog 54 #[.bool false,.int .i64 c] w fun e w'=>e= .returned (.tuple #[])∧w=w':=by
 go_enter Tryz.func54,Tryz.ntmps54;go_wp2
 go_end0
 exact⟨rfl,rfl⟩
abbrev oc (c:Int):List Value:=[.int .i64 c,.int .i64 0,.slice none 0 0]
theorem zKg(ob:Nat)(w:World):
  CallsD Tryz.prog 53 #[.pointer (some ⟨ob,0,none⟩)] .returning w fun e u' w'=>e= .returned (.tuple #[])∧u'= .returning∧w'=w:=by
 refine callsD_of_wpS Tryz.func53 rfl fun c₀ cs hu=> ?_;apply wpS_seq
 apply wpS_region
 simp[wpOpsS,go_sem,recoverD,hu,Tryz.ntmps53,Exit.thenS]
 refine wpS_of_wp ?_;go_wp2
 cases c₀
 simp_all [bodyPostS,results,Tryz.results53]
abbrev gdfr (ob:Nat):List Deferred:=[{ target:= .fn (.func 53) #[.pointer (some ⟨ob,0,none⟩)],args:=#[] }]
theorem zNn(tm:Array Value)(ob:Nat)(v0 v1 v2:Value)(w:World)(h4:tm[6]? =some (.pointer (some ⟨ob,0,none⟩)))(hp:w.heap[ob]? =some (.cells #[v0,v1,v2] 36 (0,0))):
  (results Tryz.f22 tm).run Tryz.prog w= .ok (.agg #[v0,v1,v2]) w:=by
 have kP:=zAa hp;simp[results,Tryz.results22,go_sem,h4,kP]
theorem zNo {R:Ending→World→Prop} (tm:Array Value)(ob:Nat)(v0 v1 v2:Value)(w:World)(hp:w.heap[ob]? =some (.cells #[v0,v1,v2] 36 (0,0)))
  (h4:tm[6]? =some (.pointer (some ⟨ob,0,none⟩)))(hR:R (.returned (.agg #[v0,v1,v2])) w):
  bodyPostD Tryz.prog Tryz.f22 R .ret { tmps:=tm,defers:=gdfr ob } w:=by
 refine leaves_cons (f:=53) (args:=#[.pointer (some ⟨ob,0,none⟩)]) (by simp) (by simp[go_sem]) ?_;refine(zKg ob w).mono ?_;rintro e u' w'' ⟨rfl,rfl,rfl⟩;exact⟨_,zNn tm ob _ _ _ w'' h4 hp,hR⟩
def KI (n₁:Nat) (t:TypeId) (k:Nat) (arr:Array Value) (w w':World):Prop:=
 But (fun b=>n₁≤b) w w'∧(∀pb,Wr pb k t w→Wr pb k t w')∧∀pb:Nat,w.heap[pb]? =some (Obj.cells arr t (0,0))→w'.heap[pb]? =some (Obj.cells arr t (0,0))
theorem KI.pre(n₁:Nat)(t:TypeId)(k:Nat)(arr:Array Value):Pre (KI n₁ t k arr):=
 ⟨fun a=>⟨But.refl _ a,fun _ h=>h,fun _ h=>h⟩,fun _ _ _ h l=>⟨h.1.trans l.1,fun pb g=>l.2.1 pb (h.2.1 pb g),fun pb g=>l.2.2 pb (h.2.2 pb g)⟩⟩
theorem KI.trans {n₁:Nat} {t:TypeId} {k:Nat} {arr:Array Value} {a b c:World} (h:KI n₁ t k arr a b)(l:KI n₁ t k arr b c):KI n₁ t k arr a c:=(KI.pre n₁ t k arr).2 _ _ _ h l
theorem KI.of {n₁:Nat} {t:TypeId} {k:Nat} {arr:Array Value} {a b:World} (l:Later a b):KI n₁ t k arr a b:=
 ⟨But.of l,fun pb h=>h.later l,fun pb h=>(l.block pb (eS h)).trans h⟩
theorem KI.store {n₁ pb:Nat} {t:TypeId} {k:Nat} {w:World} (vs:List Value)(hn:n₁≤pb)(hw:Wr pb k t w)(hk:vs.length=k):KI n₁ t k vs.toArray w (zAj w pb 0 vs)∧(zAj w pb 0 vs).heap[pb]? =some (Obj.cells vs.toArray t (0,0)):=by
 obtain⟨cur,hc,hs⟩:=hw;have hall:=zAg vs hc (by omega);have hbut:But (fun b=>b=pb) w (zAj w pb 0 vs):=zAf (E:=fun b=>b=pb) (n:=pb) rfl vs 0 w w (But.refl _ _);have keep:∀p o,p≠pb→w.heap[p]? =some o→(zAj w pb 0 vs).heap[p]? =some o:=fun p o hp h=>(hbut.block p (eS h) hp).trans h;refine⟨⟨zAf (E:=fun b=>n₁≤b) (n:=pb) hn vs 0 w w (But.refl _ _),fun p h=> ?_,fun p h=> ?_⟩,hall⟩
 ·by_cases hp:p=pb
  ·subst hp;exact⟨_,hall,by simpa using hk⟩
  ·obtain ⟨c,h1,h2⟩:=h;exact⟨c,keep p _ hp h1,h2⟩
 ·by_cases hp:p=pb
  ·subst hp;exact hall
  ·exact keep p _ hp h
section
variable {P:Program} {l:List Oper} {Q:Exit→Act→World→Prop} {fuel:Nat} {listed:Array Bool} {a:Act} {w:World} {R:World→World→Prop}
theorem zBz(hp:Pre R)(i:Nat) {oi:Oper} (v:Value)(hi:zBn l i=some oi)
  (hs:Region.noSelect l.toArray=true)(hf:Region.free .any l.toArray listed i=true)(hr:(Region.ready .any l.toArray listed).contains i=true)
  (hQ:∀c a w,Q (.panic c) (a.put oi.dst v) w→Q (.panic c) a w)(hg:Region.wanted oi (yielded l.toArray a.tmps)=true)
  (hy:∀w',R w w'→zE3 P R w' v ((execOp a.eval oi).run P w'))
  (h:zAy P .any l.toArray Q R fuel (listed.setIfInBounds i true) (a.put oi.dst v) w):zAy P .any l.toArray Q R (fuel+1) listed a w:=by
 have hi':l.toArray[i]? =some oi:=by rw[←hi,zAz];simp
 exact zB8 hp.1 hp.2 hi' (Region.noSelect_spec hs) hQ fuel listed a w (Region.free_spec hi' hf) (by simpa using hr) (.inl ⟨hg,hy⟩) h
theorem zH3(hp:Pre R)(i:Nat) {oi:Oper} (hi:zBn l i=some oi)
  (hs:Region.noSelect l.toArray=true)(hf:Region.free .any l.toArray listed i=true)(hr:(Region.ready .any l.toArray listed).contains i=true)
  (hQ:∀v c a w,Q (.panic c) (a.put oi.dst v) w→Q (.panic c) a w)(hg:Region.wanted oi (yielded l.toArray a.tmps)=true)
  (h:∃v,(∀w',R w w'→(execOp a.eval oi).run P w'= .ok (.value v) w')∧zAy P .any l.toArray Q R fuel (listed.setIfInBounds i true) (a.put oi.dst v) w):zAy P .any l.toArray Q R (fuel+1) listed a w:=
 let⟨v,h1,h2⟩:=h
 zBz hp i v hi hs hf hr (hQ v) hg (fun w' hw'=>zEt hp (h1 w' hw')) h2
theorem qX(hp:Pre R)(i:Nat) {oi:Oper} {v:Value} {p:Prop} (h:p)(hi:zBn l i=some oi:=by exact rfl)(hg:Region.wanted oi (yielded l.toArray a.tmps)=true:=by rfl)(h1:∀w',R w w'→(execOp a.eval oi).run P w'= .ok (.value v) w':=by intro v h;go_simp;rfl)(hn:zAy P .any l.toArray Q R fuel (listed.setIfInBounds i true) (a.put oi.dst v) w=p:=by conv=>lhs;simp only[Act.put,sA,sB,sC])(hs:Region.noSelect l.toArray=true:=by kernel_rfl)(hf:Region.free .any l.toArray listed i=true:=by kernel_rfl)(hr:(Region.ready .any l.toArray listed).contains i=true:=by kernel_rfl)(hQ:∀v c a w,Q (.panic c) (a.put oi.dst v) w→Q (.panic c) a w:=by intro _ _ _ _ h;first|exact h|cases h.1):zAy P .any l.toArray Q R (fuel+1) listed a w:=zH3 hp i hi hs hf hr hQ hg ⟨v,h1,Eq.mpr hn h⟩
end
theorem Rd.later {A B:World} {v:Value} {zs:List Int} (h:Rd A.heap.size A v zs)(l:Later A B):Rd B.heap.size B v zs:=(h.below l).mono l.size
theorem Ow.later {A B:World} {base:Nat} {v:Value} {zs:List Int} (h:Ow base A v zs)(l:Later A B):Ow base B v zs:=h.below l (Nat.le_refl _)
def zPa (Φ:Array Value→World→Prop):Prop:=∀arr w w',Later w w'→Φ arr w→Φ arr w'
def FinA (rb:Nat) (t:TypeId) (Φ:Array Value→World→Prop) (w:World):Prop:=∃arr,w.heap[rb]? =some (.cells arr t (0,0))∧Φ arr w
theorem FinA.later {rb:Nat} {t:TypeId} {Φ:Array Value→World→Prop} (hΦ:zPa Φ) {w w':World} (l:Later w w')(h:FinA rb t Φ w):FinA rb t Φ w':=by
 obtain⟨arr,h1,h2⟩:=h;exact⟨arr,(l.block rb (eS h1)).trans h1,hΦ _ _ _ l h2⟩
abbrev KR (rb k:Nat) (t:TypeId) (Φ:Array Value→World→Prop):World→World→Prop:=Keep (fun b=>b=rb) (Wr rb k t) (FinA rb t Φ)
theorem KR.of {rb k:Nat} {t:TypeId} {Φ:Array Value→World→Prop} (hΦ:zPa Φ) {w w':World} (l:Later w w'):KR rb k t Φ w w':=Keep.of (fun _ _ l h=>h.later l) (fun _ _ l h=>h.later hΦ l) l
theorem KR.store {rb k:Nat} {t:TypeId} {Φ:Array Value→World→Prop} {w:World} (vs:List Value)(hw:Wr rb k t w)(hk:vs.length=k)(hΦ:Φ vs.toArray (zAj w rb 0 vs)):KR rb k t Φ w (zAj w rb 0 vs)∧FinA rb t Φ (zAj w rb 0 vs):=by
 obtain⟨cur,hc,hs⟩:=hw;have hall:=zAg vs hc (by omega);have hF:FinA rb t Φ (zAj w rb 0 vs):=⟨_,hall,hΦ⟩;exact⟨⟨zAf (E:=fun b=>b=rb) (n:=rb) rfl vs 0 w w (But.refl _ _),fun _=>⟨_,hall,by simpa using hk⟩,fun _=>hF⟩,hF⟩
theorem zB3 {rb:Nat} (vs:List Value)(w:World):But (fun b=>b=rb) w (zAj w rb 0 vs):=zAf (E:=fun b=>b=rb) (n:=rb) rfl vs 0 w w (But.refl _ _)
end Go.Proofs.YteaeilghamjjkaaGreatDoor
