import Derived.Test.YteaeilghamjjkaaGreatDoorX18
import Derived.ScopeJumps
namespace Go.Proofs.YteaeilghamjjkaaGreatDoor
set_option maxHeartbeats 8000000
open Go.RowKit Go.Shelf
set_option maxRecDepth 100000
set_option linter.unusedVariables false
section
variable {P:Program} {ops:Array Oper} {Q:Exit→Act→World→Prop} {md:Region.Mode} {R:World→World→Prop}
def GivesG (P:Program) (ops:Array Oper) (R:World→World→Prop) (o:Oper) (v:Value) (a:Act) (w:World):Prop:=
 Region.wanted o (yielded ops a.tmps)=true∧∀w',R w w'→(execOp a.eval o).run P w'= .ok (.value v) w'
theorem GivesG.of_same {o:Oper} {v:Value} {a a':Act} {w:World} (hy:GivesG P ops R o v a w)(he:execOp a'.eval o=execOp a.eval o)
  (hw:Region.wanted o (yielded ops a'.tmps)=Region.wanted o (yielded ops a.tmps)):GivesG P ops R o v a' w:=by
 unfold GivesG at*;rw[he,hw];exact hy
theorem GivesG.up {o:Oper} {v:Value} {a:Act} {w w':World} (ht:∀a b c,R a b→R b c→R a c)(hy:GivesG P ops R o v a w)(h:R w w'):GivesG P ops R o v a w':=⟨hy.1,fun w'' h'=>hy.2 w'' (ht _ _ _ h h')⟩
theorem zIh {j:Nat} {oi oj:Oper} {v:Value} (hj:ops[j]? =some oj)(hap:oi.apart ops oj=true)
  (hsi:∀cs b,oi.op≠ .select cs b)(hsj:∀cs b,oj.op≠ .select cs b)
  (hQ:∀c a w,Q (.panic c) (a.put oi.dst v) w→Q (.panic c) a w) {K:Act→World→Prop} {a:Act} {w w₀:World}
  (hy:GivesG P ops R oi v a w₀)(h:wpOp P ops Q j K (a.put oi.dst v) w):
  wpOp P ops Q j (fun a' w'=>GivesG P ops R oi v a' w₀∧K (a'.put oi.dst v) w') a w:=by
 obtain⟨h1,h2,h3⟩:=Oper.apart_spec hap
 have keep:∀(a:Act),GivesG P ops R oi v a w₀→∀u,GivesG P ops R oi v (a.put oj.dst u) w₀:=fun a hy u=>
  hy.of_same (execOp_put oi hsi a oj.dst u h3) (wanted_put oi a oj.dst u h3)
 have keepD:∀d,GivesG P ops R oi v { a with defers:=d::a.defers } w₀:=fun d=>hy.of_same rfl rfl;unfold wpOp at*;simp only[hj]at*;rw[wanted_put oj a oi.dst v h1]at h;split
 ·rename_i hw
  simp only[hw,if_true]at h;rcases h with h|⟨hasks,hlets⟩
  case inr=>exact .inr ⟨by unfold Oper.asks at*;rw[execOp_put oj hsj a oi.dst v h1]at hasks;exact hasks,hlets⟩
  refine .inl ?_;unfold Oper.wp at*;rw[execOp_put oj hsj a oi.dst v h1]at h;generalize (execOp a.eval oj).run P w=r at*;cases r with
  | ok n w'=>
   cases n<;>simp only[Oper.upon]at h⊢
   case value u=>exact⟨keep a hy u,by rw[←Act.put_comm a v u h2];exact h⟩
   case skip=>exact⟨keep a hy _,by rw[←Act.put_comm a v undef h2];exact h⟩
   case defer d=>
    refine⟨keep _ (keepD d) _,?_⟩;rw[←Act.put_comm _ v undef h2,←Act.put_defers];exact h
   case enter f args=>
    refine Calls.mono h fun e w'' he=> ?_;cases e with
    |returned u=>exact⟨keep a hy u,by rw[←Act.put_comm a v u h2];exact he⟩
    |panicked c=>exact hQ _ _ _ he
    |outgrown=>exact he
   case row row args=>exact Rows.mono h fun u w'' he=>⟨keep a hy u,by rw[←Act.put_comm a v u h2];exact he⟩
  |halt x w'=>
   cases x<;>simp only[Oper.upon]at h⊢
   case panic u=>exact hQ _ _ _ h
 ·rename_i hw
  simp only[hw]at h;exact⟨keep a hy _,by rw[←Act.put_comm a v undef h2];exact h⟩
theorem GivesG.wpOp {i:Nat} {o:Oper} {v:Value} {a:Act} {w:World} (hr:∀a,R a a)(hi:ops[i]? =some o)(hy:GivesG P ops R o v a w)
  {K:Act→World→Prop} (h:K (a.put o.dst v) w):Go.wpOp P ops Q i K a w:=by
 unfold Go.wpOp;simp only[hi,hy.1,if_true];refine .inl ?_;unfold Oper.wp;rw[hy.2 w (hr w)];exact h
theorem zIi(hre:∀a,R a a)(ht:∀a b c,R a b→R b c→R a c) {i:Nat} {oi:Oper} {v:Value} (hi:ops[i]? =some oi)(hsel:∀(j:Nat) (o:Oper) cs b,ops[j]? =some o→o.op≠ .select cs b)
  (hQ:∀c a w,Q (.panic c) (a.put oi.dst v) w→Q (.panic c) a w):
  ∀(fuel:Nat) (listed:Array Bool) (a:Act) (w:World),
   (∀j oj,ops[j]? =some oj→j≠i→listed.getD j true=false→(∀e∈oj.after,Region.binds md e=true→e.on≠i)→oi.apart ops oj=true)→
   i∈Region.ready md ops listed→GivesG P ops R oi v a w→
   zA1 P md ops Q R fuel (listed.setIfInBounds i true) (a.put oi.dst v) w→zA1 P md ops Q R (fuel+1) listed a w:=by
 intro fuel
 induction fuel with
 | zero=>
  intro listed a w _ hr hy H
  refine⟨fun h=>(by rw[h]at hr;cases hr),fun j hj=> ?_⟩;by_cases hji:j=i
  ·subst hji;exact hy.wpOp hre hi ⟨hre _,H⟩
  ·have:=ready_mono hj hji
   rw[H.1]at this;cases this
 | succ fuel ih=>
  intro listed a w hfree hr hy H
  refine⟨fun h=>(by rw[h]at hr;cases hr),fun j hj=> ?_⟩;by_cases hji:j=i
  ·subst hji;exact hy.wpOp hre hi ⟨hre _,H⟩
  ·have h1:=H.2 j (ready_mono hj hji)
   obtain⟨hjun,oj,hoj,hall⟩:=mem_ready.1 hj
   have hnot:∀e∈oj.after,Region.binds md e=true→e.on≠i:=fun e he hb heq=>by
    have h1:=hall e he hb;have h0:=(mem_ready.1 hr).1;rw[heq]at h1;rcases Nat.lt_or_ge i listed.size with h'|h'
    ·simp[h']at h0 h1;rw[h0]at h1;cases h1
    ·simp[Array.getElem?_eq_none h']at h1
   have h2:=zIh hoj (hfree j oj hoj hji hjun hnot) (fun cs b=>hsel i oi cs b hi) (fun cs b=>hsel j oj cs b hoj) hQ hy h1
   have hfree':∀k ok,ops[k]? =some ok→k≠i→(listed.setIfInBounds j true).getD k true=false→
     (∀e∈ok.after,Region.binds md e=true→e.on≠i)→oi.apart ops ok=true:=fun k ok hk hki hun hno=>by
    refine hfree k ok hk hki ?_ hno;by_cases hjk:j=k
    ·subst hjk;exact hjun
    ·rw[getD_set_ne true hjk]at hun;exact hun
   refine wpOp_mono (fun a' w'' h3=>⟨h3.2.1,ih (listed.setIfInBounds j true) a' w'' hfree' (ready_mono hr (Ne.symm hji)) (h3.1.up ht h3.2.1) ?_⟩) h2;rw[Array.setIfInBounds_comm _ _ hji];exact h3.2.2
end
section
variable {P:Program} {l:List Oper} {Q:Exit→Act→World→Prop} {fuel:Nat} {listed:Array Bool} {a:Act} {w:World} {R:World→World→Prop}
theorem zIj(hp:Pre R)(i:Nat) {oi:Oper} (hi:zBn l i=some oi)
  (hs:Region.noSelect l.toArray=true)(hf:Region.free .any l.toArray listed i=true)(hr:(Region.ready .any l.toArray listed).contains i=true)
  (hQ:∀v c a w,Q (.panic c) (a.put oi.dst v) w→Q (.panic c) a w)(hg:Region.wanted oi (yielded l.toArray a.tmps)=true)
  (h:∃v,(∀w',R w w'→(execOp a.eval oi).run P w'= .ok (.value v) w')∧zA1 P .any l.toArray Q R fuel (listed.setIfInBounds i true) (a.put oi.dst v) w):zA1 P .any l.toArray Q R (fuel+1) listed a w:=by
 obtain⟨v,h1,h2⟩:=h;have hi':l.toArray[i]? =some oi:=by rw[←hi,zAz];simp
 exact zIi hp.1 hp.2 hi' (Region.noSelect_spec hs) (hQ v) fuel listed a w (Region.free_spec hi' hf) (by simpa using hr) ⟨hg,h1⟩ h2
theorem gX(hp:Pre R)(i:Nat) {oi:Oper} {v:Value} {p:Prop} (h:p)(hi:zBn l i=some oi:=by exact rfl)(hg:Region.wanted oi (yielded l.toArray a.tmps)=true:=by rfl)(h1:∀w',R w w'→(execOp a.eval oi).run P w'= .ok (.value v) w':=by intro v h;go_simp;rfl)(hn:zA1 P .any l.toArray Q R fuel (listed.setIfInBounds i true) (a.put oi.dst v) w=p:=by conv=>lhs;simp only[Act.put,sA,sB,sC])(hs:Region.noSelect l.toArray=true:=by kernel_rfl)(hf:Region.free .any l.toArray listed i=true:=by kernel_rfl)(hr:(Region.ready .any l.toArray listed).contains i=true:=by kernel_rfl)(hQ:∀v c a w,Q (.panic c) (a.put oi.dst v) w→Q (.panic c) a w:=by intro _ _ _ _ h;first|exact h|cases h.1):zA1 P .any l.toArray Q R (fuel+1) listed a w:=zIj hp i hi hs hf hr hQ hg ⟨v,h1,Eq.mpr hn h⟩
theorem zPv(i:Nat) {oi:Oper} (hi:zBn l i=some oi)(hr:Region.ready .any l.toArray listed=[i])(hg:Region.wanted oi (yielded l.toArray a.tmps)=true)
  (h1:oi.wp P a w (fun a' w''=>R w w''∧zA1 P .any l.toArray Q R fuel (listed.setIfInBounds i true) a' w'') Q):
  zA1 P .any l.toArray Q R (fuel+1) listed a w:=by
 have hi':l.toArray[i]? =some oi:=by rw[←hi,zAz];simp
 refine⟨fun h0=>(by rw[hr]at h0;cases h0),fun k hk=> ?_⟩;rw[hr]at hk;unfold wpOp;obtain rfl:k=i:=by simpa using hk
 rw[hi'];simp only[hg,if_true];exact .inl h1
end
def Rj (R1 R2:World→World→Prop) (D:List Nat) (j:Nat):World→World→Prop:=if D.contains j=true then R2 else R1
theorem zEf {R1 R2:World→World→Prop} {D:List Nat} {j:Nat} (h:D.contains j=true) {w w':World} (k:R2 w w'):Rj R1 R2 D j w w':=by unfold Rj;rw[if_pos h];exact k
theorem zBr {R1 R2:World→World→Prop} {D:List Nat} {j:Nat} (h:D.contains j=false) {w w':World} (k:R1 w w'):Rj R1 R2 D j w w':=by unfold Rj;rw[if_neg (by rw[h];simp)];exact k
section
variable {P:Program} {ops:Array Oper} {Q:Exit→Act→World→Prop} {md:Region.Mode} {R1 R2 S:World→World→Prop} {D:List Nat}
def zA9 (P:Program) (md:Region.Mode) (ops:Array Oper) (Q:Exit→Act→World→Prop) (R1 R2:World→World→Prop) (D:List Nat):Nat→Array Bool→Act→World→Prop
 |0,listed,a,w=>Region.ready md ops listed=[]∧Q .normal a w
 |fuel+1,listed,a,w=>
  (Region.ready md ops listed=[]→Q .normal a w)∧
  ∀i∈Region.ready md ops listed,wpOp P ops Q i (fun a' w''=>Rj R1 R2 D i w w''∧zA9 P md ops Q R1 R2 D fuel (listed.setIfInBounds i true) a' w'') a w
theorem zGd:∀(fuel:Nat) (listed:Array Bool) (a:Act) (w:World),zA9 P md ops Q R1 R2 D fuel listed a w→wpAny P md ops Q fuel listed a w
 |0,_,_,_,h=>h
 |fuel+1,_,_,_,h=>⟨h.1,fun i hi=>wpOp_mono (fun a' w' h'=>zGd fuel _ a' w' h'.2) (h.2 i hi)⟩
theorem zEm(hre:∀a,S a a)(ht:∀a b c,S a b→S b c→S a c) {i:Nat} {oi:Oper} {v:Value} (hi:ops[i]? =some oi)(hself:∀w,Rj R1 R2 D i w w)(hsel:∀(j:Nat) (o:Oper) cs b,ops[j]? =some o→o.op≠ .select cs b)
  (hQ:∀c a w,Q (.panic c) (a.put oi.dst v) w→Q (.panic c) a w)(Inv:Array Bool→Prop)
  (hInv:∀listed,Inv listed→listed.getD i true=false→∀j∈Region.ready md ops listed,j≠i→(∀w w',Rj R1 R2 D j w w'→S w w')∧Inv (listed.setIfInBounds j true)):
  ∀(fuel:Nat) (listed:Array Bool) (a:Act) (w:World),Inv listed→
   (∀j oj,ops[j]? =some oj→j≠i→listed.getD j true=false→(∀e∈oj.after,Region.binds md e=true→e.on≠i)→oi.apart ops oj=true)→
   i∈Region.ready md ops listed→GivesG P ops S oi v a w→
   zA9 P md ops Q R1 R2 D fuel (listed.setIfInBounds i true) (a.put oi.dst v) w→zA9 P md ops Q R1 R2 D (fuel+1) listed a w:=by
 intro fuel
 induction fuel with
 | zero=>
  intro listed a w _ _ hr hy H
  refine⟨fun h=>(by rw[h]at hr;cases hr),fun j hj=> ?_⟩;by_cases hji:j=i
  ·subst hji;exact hy.wpOp hre hi ⟨hself _,H⟩
  ·have:=ready_mono hj hji
   rw[H.1]at this;cases this
 | succ fuel ih=>
  intro listed a w hinv hfree hr hy H
  refine⟨fun h=>(by rw[h]at hr;cases hr),fun j hj=> ?_⟩;by_cases hji:j=i
  ·subst hji;exact hy.wpOp hre hi ⟨hself _,H⟩
  ·have h1:=H.2 j (ready_mono hj hji)
   obtain⟨hjun,oj,hoj,hall⟩:=mem_ready.1 hj
   have hnot:∀e∈oj.after,Region.binds md e=true→e.on≠i:=fun e he hb heq=>by
    have h1:=hall e he hb;have h0:=(mem_ready.1 hr).1;rw[heq]at h1;rcases Nat.lt_or_ge i listed.size with h'|h'
    ·simp[h']at h0 h1;rw[h0]at h1;cases h1
    ·simp[Array.getElem?_eq_none h']at h1
   have h2:=zIh hoj (hfree j oj hoj hji hjun hnot) (fun cs b=>hsel i oi cs b hi) (fun cs b=>hsel j oj cs b hoj) hQ hy h1
   have hfree':∀k ok,ops[k]? =some ok→k≠i→(listed.setIfInBounds j true).getD k true=false→
     (∀e∈ok.after,Region.binds md e=true→e.on≠i)→oi.apart ops ok=true:=fun k ok hk hki hun hno=>by
    refine hfree k ok hk hki ?_ hno;by_cases hjk:j=k
    ·subst hjk;exact hjun
    ·rw[getD_set_ne true hjk]at hun;exact hun
   obtain⟨hs,hinv'⟩:=hInv listed hinv (mem_ready.1 hr).1 j hj hji;refine wpOp_mono (fun a' w'' h3=>⟨h3.2.1,ih (listed.setIfInBounds j true) a' w'' hinv' hfree' (ready_mono hr (Ne.symm hji)) (h3.1.up ht (hs _ _ h3.2.1)) ?_⟩) h2;rw[Array.setIfInBounds_comm _ _ hji];exact h3.2.2
def zMr (md:Region.Mode) (ops:Array Oper) (D:List Nat) (i:Nat):Bool:=D.all fun d=>match ops[d]? with
 |some o=>o.after.any fun e=>Region.binds md e && (e.on==i||D.contains e.on)
 |none=>false
theorem zKw {i:Nat} (h:zMr md ops D i=true) {listed:Array Bool} (hi:listed.getD i true=false)(hD:∀d∈D,listed.getD d true=false) {j:Nat} (hj:j∈Region.ready md ops listed):j∉D:=fun hjD=>by
 obtain⟨_,o,ho,hall⟩:=mem_ready.1 hj;unfold zMr at h;rw[List.all_eq_true]at h;have h1:=h j hjD;rw[ho]at h1;simp only[Array.any_eq_true]at h1;obtain⟨k,hk,he⟩:=h1;simp only[Bool.and_eq_true,Bool.or_eq_true,beq_iff_eq]at he;have hl:=hall o.after[k] (Array.getElem_mem hk) he.1
 have no:∀x,listed.getD x true=false→listed.getD x false=true→False:=fun x h0 h1=>by
  rcases Nat.lt_or_ge x listed.size with h'|h'
  ·simp[h']at h0 h1;rw[h0]at h1;cases h1
  ·simp[Array.getElem?_eq_none h']at h1
 rcases he.2 with e|e
 ·rw[e]at hl
  exact no i hi hl
 ·exact no _ (hD _ (by simpa using e)) hl
end
section
variable {P:Program} {l:List Oper} {Q:Exit→Act→World→Prop} {fuel:Nat} {listed:Array Bool} {a:Act} {w:World} {R1 R2 S:World→World→Prop} {D:List Nat}
theorem anyU_val(hp:Pre R1)(i:Nat)(B:List Nat) {oi:Oper} (hi:zBn l i=some oi)(hiD:D.contains i=false)(hsub:D.all (fun d=>B.contains d)=true)(hbl:zMr .any l.toArray B i=true)(hun:B.all (fun d=> !(listed.getD d true))=true)
  (hs:Region.noSelect l.toArray=true)(hf:Region.free .any l.toArray listed i=true)(hr:(Region.ready .any l.toArray listed).contains i=true)
  (hQ:∀v c a w,Q (.panic c) (a.put oi.dst v) w→Q (.panic c) a w)(hg:Region.wanted oi (yielded l.toArray a.tmps)=true)
  (h:∃v,(∀w',R1 w w'→(execOp a.eval oi).run P w'= .ok (.value v) w')∧zA9 P .any l.toArray Q R1 R2 D fuel (listed.setIfInBounds i true) (a.put oi.dst v) w):zA9 P .any l.toArray Q R1 R2 D (fuel+1) listed a w:=by
 obtain⟨v,h1,h2⟩:=h;have hi':l.toArray[i]? =some oi:=by rw[←hi,zAz];simp
 have hunp:∀d∈B,listed.getD d true=false:=fun d hd=>by
  have:=List.all_eq_true.1 hun d hd;simpa using this
 refine zEm (S:=R1) hp.1 hp.2 hi' (fun w=>zBr hiD (hp.1 w)) (Region.noSelect_spec hs) (hQ v) (fun listed=>∀d∈B,listed.getD d true=false) ?_ fuel listed a w hunp (Region.free_spec hi' hf) (by simpa using hr) ⟨hg,h1⟩ h2;intro listed' hinv hiu j hj hji
 have hjB:=zKw hbl hiu hinv hj;have hjD:j∉D:=fun hd=>hjB (by simpa using List.all_eq_true.1 hsub j hd);have hjc:D.contains j=false:=by cases hc:D.contains j with|false=>rfl|true=>exact absurd (by simpa using hc) hjD
 refine⟨fun w w' hR=>by unfold Rj at hR;rw[if_neg (by rw[hjc];simp)]at hR;exact hR,fun d hd=> ?_⟩;by_cases hdj:j=d
 ·subst hdj;exact absurd hd hjB
 ·rw[getD_set_ne true hdj];exact hinv d hd
theorem zFe(h1r:∀w,R1 w w)(h2r:∀w,R2 w w)(i:Nat) {oi:Oper} (hi:zBn l i=some oi)
  (hs:Region.noSelect l.toArray=true)(hf:Region.free .any l.toArray listed i=true)(hr:(Region.ready .any l.toArray listed).contains i=true)
  (hQ:∀v c a w,Q (.panic c) (a.put oi.dst v) w→Q (.panic c) a w)(hg:Region.wanted oi (yielded l.toArray a.tmps)=true)
  (h:∃v,(∀w',(execOp a.eval oi).run P w'= .ok (.value v) w')∧zA9 P .any l.toArray Q R1 R2 D fuel (listed.setIfInBounds i true) (a.put oi.dst v) w):zA9 P .any l.toArray Q R1 R2 D (fuel+1) listed a w:=by
 obtain⟨v,h1,h2⟩:=h;have hi':l.toArray[i]? =some oi:=by rw[←hi,zAz];simp
 exact zEm (S:=fun _ _=>True) (fun _=>trivial) (fun _ _ _ _ _=>trivial) hi' (fun w=>by unfold Rj;split;(· exact h2r w);(· exact h1r w)) (Region.noSelect_spec hs) (hQ v) (fun _=>True) (fun _ _ _ _ _ _=>⟨fun _ _ _=>trivial,trivial⟩) fuel listed a w trivial (Region.free_spec hi' hf) (by simpa using hr) ⟨hg,fun w' _=>h1 w'⟩ h2
theorem zA6 {id:Nat} (n:Nat)(hn:l.length=n)(hm:P.follows .mixedOrders=true)
  (h:zA9 P .any l.toArray Q R1 R2 D n (Array.replicate n false) a w.drew):(Code.region id l.toArray true).wp P Q a w:=by
 subst hn;refine wp_region_any hm (zGd (R1:=R1) (R2:=R2) (D:=D) _ _ _ _ ?_);simpa using h
theorem zPw(hr:Region.ready .any l.toArray listed=[])(h:Q .normal a w):zA9 P .any l.toArray Q R1 R2 D fuel listed a w:=by
 cases fuel with
 |zero=>exact⟨hr,h⟩
 |succ n=>exact⟨fun _=>h,by rw[hr];simp⟩
theorem anyU_one(i:Nat) {oi:Oper} (hi:zBn l i=some oi)(hr:Region.ready .any l.toArray listed=[i])(hg:Region.wanted oi (yielded l.toArray a.tmps)=true)
  (h1:oi.wp P a w (fun a' w''=>Rj R1 R2 D i w w''∧zA9 P .any l.toArray Q R1 R2 D fuel (listed.setIfInBounds i true) a' w'') Q):
  zA9 P .any l.toArray Q R1 R2 D (fuel+1) listed a w:=by
 have hi':l.toArray[i]? =some oi:=by rw[←hi,zAz];simp
 refine⟨fun h0=>(by rw[hr]at h0;cases h0),fun k hk=> ?_⟩;rw[hr]at hk;unfold wpOp;obtain rfl:k=i:=by simpa using hk
 rw[hi'];simp only[hg,if_true];exact .inl h1
theorem uX(hp:Pre R1)(i:Nat)(B:List Nat) {oi:Oper} {v:Value} {p:Prop} (h:p)(hi:zBn l i=some oi:=by exact rfl)(hg:Region.wanted oi (yielded l.toArray a.tmps)=true:=by rfl)(hiD:D.contains i=false:=by rfl)(hsub:D.all (fun d=>B.contains d)=true:=by rfl)(hbl:zMr .any l.toArray B i=true:=by kernel_rfl)(hun:B.all (fun d=> !(listed.getD d true))=true:=by kernel_rfl)(h1:∀w',R1 w w'→(execOp a.eval oi).run P w'= .ok (.value v) w':=by intro v h;go_simp;rfl)(hn:zA9 P .any l.toArray Q R1 R2 D fuel (listed.setIfInBounds i true) (a.put oi.dst v) w=p:=by conv=>lhs;simp only[Act.put,sA,sB,sC])(hs:Region.noSelect l.toArray=true:=by kernel_rfl)(hf:Region.free .any l.toArray listed i=true:=by kernel_rfl)(hr:(Region.ready .any l.toArray listed).contains i=true:=by kernel_rfl)(hQ:∀v c a w,Q (.panic c) (a.put oi.dst v) w→Q (.panic c) a w:=by intro _ _ _ _ h;first|exact h|cases h.1):zA9 P .any l.toArray Q R1 R2 D (fuel+1) listed a w:=anyU_val hp i B hi hiD hsub hbl hun hs hf hr hQ hg ⟨v,h1,Eq.mpr hn h⟩
theorem pX(h1r:∀w,R1 w w)(h2r:∀w,R2 w w)(i:Nat) {oi:Oper} {v:Value} {p:Prop} (h:p)(hi:zBn l i=some oi:=by exact rfl)(hg:Region.wanted oi (yielded l.toArray a.tmps)=true:=by rfl)(h1:∀w',(execOp a.eval oi).run P w'= .ok (.value v) w':=by intro v;go_simp;rfl)(hn:zA9 P .any l.toArray Q R1 R2 D fuel (listed.setIfInBounds i true) (a.put oi.dst v) w=p:=by conv=>lhs;simp only[Act.put,sA,sB,sC])(hs:Region.noSelect l.toArray=true:=by kernel_rfl)(hf:Region.free .any l.toArray listed i=true:=by kernel_rfl)(hr:(Region.ready .any l.toArray listed).contains i=true:=by kernel_rfl)(hQ:∀v c a w,Q (.panic c) (a.put oi.dst v) w→Q (.panic c) a w:=by intro _ _ _ _ h;first|exact h|cases h.1):zA9 P .any l.toArray Q R1 R2 D (fuel+1) listed a w:=zFe h1r h2r i hi hs hf hr hQ hg ⟨v,h1,Eq.mpr hn h⟩
theorem uO(i:Nat) {oi:Oper} (h1:oi.wp P a w (fun a' w''=>Rj R1 R2 D i w w''∧zA9 P .any l.toArray Q R1 R2 D fuel (listed.setIfInBounds i true) a' w'') Q)(hi:zBn l i=some oi:=by exact rfl)(hr:Region.ready .any l.toArray listed=[i]:=by kernel_rfl)(hg:Region.wanted oi (yielded l.toArray a.tmps)=true:=by rfl):zA9 P .any l.toArray Q R1 R2 D (fuel+1) listed a w:=anyU_one i hi hr hg h1
theorem uD(h:Q .normal a w)(hr:Region.ready .any l.toArray listed=[]:=by kernel_rfl):zA9 P .any l.toArray Q R1 R2 D fuel listed a w:=zPw hr h
end
set_option linter.unusedSimpArgs false
def zD6 (sp dp sq ak fl wn ur:Int) (ob zd:List Int):List Int:=[sp,dp].flatMap b2++[sq,ak].flatMap b4++[(20+(ob.length:Int))/4*16,fl]++[wn,0,ur].flatMap b2++ob++zd
def tcp (sp dp sq ak fl wn ur:Int) (ob:List Int) (src dst:Int) (zd:List Int):List Int:=Mt.put2 (zD6 sp dp sq ak fl wn ur ob zd) 16 (Mt.cks (psd src dst 6 (20+ob.length+zd.length:Nat)++zD6 sp dp sq ak fl wn ur ob zd))
theorem zDg(sp dp sq ak fl wn ur:Int)(ob zd:List Int):(zD6 sp dp sq ak fl wn ur ob zd).length=20+ob.length+zd.length:=by simp[zD6,b2,b4];omega
theorem zGe(sp dp sq ak fl wn ur:Int)(ob:List Int)(src dst:Int)(zd:List Int):(tcp sp dp sq ak fl wn ur ob src dst zd).length=20+ob.length+zd.length:=by simp[tcp,Mt.put2_length,zDg]
theorem zPx(sp dp sq ak fl wn ur:Int)(ob zd:List Int)(h1:0≤sp∧sp≤65535)(h2:0≤dp∧dp≤65535)(h3:0≤sq∧sq≤4294967295)(h4:0≤ak∧ak≤4294967295)(h5:0≤fl∧fl≤255)(h6:0≤wn∧wn≤65535)(h7:0≤ur∧ur≤65535)(ho:ob.length≤40)(hB:Mt.By ob)(hB2:Mt.By zd):Mt.By (zD6 sp dp sq ak fl wn ur ob zd):=by
 unfold zD6;refine(Mt.By.append ?_ hB).append hB2;simp only[List.flatMap_cons,List.flatMap_nil,b2,b4,List.cons_append,List.nil_append,List.append_nil];exact .mk (by omega) (.mk (by omega) (.mk (by omega) (.mk (by omega) (.mk (by omega) (.mk (by omega) (.mk (by omega) (.mk (by omega) (.mk (by omega) (.mk (by omega) (.mk (by omega) (.mk (by omega) (.mk (by omega) (.mk (by omega) (.mk (by omega) (.mk (by omega) (.mk (by omega) (.mk (by omega) (.mk (by omega) (.mk (by omega) .nil)))))))))))))))))))
theorem By_tcp(sp dp sq ak fl wn ur:Int)(ob:List Int)(src dst:Int)(zd:List Int)(h:Mt.By (zD6 sp dp sq ak fl wn ur ob zd)):Mt.By (tcp sp dp sq ak fl wn ur ob src dst zd):=h.put2 16 (Mt.cks_bd _)
def bte (os:List Opt) (lo lm:Nat):Int:=if zOy os then flt lo (20+(pad (obs os)).length+lm)else 4
theorem zEn(tos id ttl proto src dst sp dp sq ak fl wn ur:Int)(keep:Bool)(so sd sO sm:Value)(zo zm:List Int)(os:List Opt)(w:World)(hBo:Mt.By zo)(hIo:Rd w.heap.size w so zo)(hBm:Mt.By zm)(hIm:Rd w.heap.size w sm zm)
  (hBO:ByO os)(hIO:RdO w.heap.size w sO os)(hlO:∀o∈os,o.2.length≤140737488355000)
  (h1:zo.length≤140737488355328)(h2:zm.length≤140737488355000)(ht:0≤tos∧tos≤255)(hid:0≤id∧id≤65535)(htt:0≤ttl∧ttl≤255)(hsr:0≤src∧src≤4294967295)(hds:0≤dst∧dst≤4294967295)
  (hsp:0≤sp∧sp≤65535)(hdp:0≤dp∧dp≤65535)(hsq:0≤sq∧sq≤4294967295)(hak:0≤ak∧ak≤4294967295)(hfl:0≤fl∧fl≤255)(hwn:0≤wn∧wn≤65535)(hur:0≤ur∧ur≤65535):
  Calls Tryz.prog 23 #[.agg #[.int .u8 tos,.int .u16 id,.bool keep,.int .u8 ttl,.int .u8 proto,.int .u32 src,.int .u32 dst,so,sd],.agg #[.int .u16 sp,.int .u16 dp,.int .u32 sq,.int .u32 ak,.int .u8 fl,.int .u16 wn,.int .u16 ur,sO,sm]] w fun e w'=>Below w.heap.size w w'∧((bte os zo.length zm.length≠0∧e= .returned (.tuple #[.agg zcc.toArray,.int .i64 (bte os zo.length zm.length)]))∨
   (bte os zo.length zm.length=0∧∃ao co ad cd,e= .returned (.tuple #[.agg #[.int .u8 tos,.int .u16 id,.bool keep,.int .u8 ttl,.int .u8 6,.int .u32 src,.int .u32 dst,.slice ao zo.length co,.slice ad (20+(pad (obs os)).length+zm.length) cd],.int .i64 0])∧Ow w.heap.size w' (.slice ao zo.length co) zo∧Ow w.heap.size w' (.slice ad (20+(pad (obs os)).length+zm.length) cd) (tcp sp dp sq ak fl wn ur (pad (obs os)) src dst zm))):=by
 obtain⟨ao,co,rfl,_,_⟩:=hIo.slice;obtain⟨am,cm,rfl,_,_⟩:=hIm.slice;obtain⟨aO,cO,rfl,_,_⟩:=hIO.slice;have hb0:Below w.heap.size w (((w.alloc (.cells #[.int .u8 tos,.int .u16 id,.bool keep,.int .u8 ttl,.int .u8 proto,.int .u32 src,.int .u32 dst,.slice ao zo.length co,sd] 40)).alloc (.cells #[.int .u16 sp,.int .u16 dp,.int .u32 sq,.int .u32 ak,.int .u8 fl,.int .u16 wn,.int .u16 ur,.slice aO os.length cO,.slice am zm.length cm] 32)).alloc (.cells zcc.toArray 40)):=((bA _ _).alloc (by simp) _).alloc (by simp<;>omega) _;have p0:(((w.alloc (.cells #[.int .u8 tos,.int .u16 id,.bool keep,.int .u8 ttl,.int .u8 proto,.int .u32 src,.int .u32 dst,.slice ao zo.length co,sd] 40)).alloc (.cells #[.int .u16 sp,.int .u16 dp,.int .u32 sq,.int .u32 ak,.int .u8 fl,.int .u16 wn,.int .u16 ur,.slice aO os.length cO,.slice am zm.length cm] 32)).alloc (.cells zcc.toArray 40)).heap[w.heap.size]? =some (.cells #[.int .u8 tos,.int .u16 id,.bool keep,.int .u8 ttl,.int .u8 proto,.int .u32 src,.int .u32 dst,.slice ao zo.length co,sd] 40):=(Below.heap_alloc _ _ _ (by simp<;>omega)).trans ((Below.heap_alloc _ _ _ (by simp)).trans (heap_alloc_new w _))
 have s0:(((w.alloc (.cells #[.int .u8 tos,.int .u16 id,.bool keep,.int .u8 ttl,.int .u8 proto,.int .u32 src,.int .u32 dst,.slice ao zo.length co,sd] 40)).alloc (.cells #[.int .u16 sp,.int .u16 dp,.int .u32 sq,.int .u32 ak,.int .u8 fl,.int .u16 wn,.int .u16 ur,.slice aO os.length cO,.slice am zm.length cm] 32)).alloc (.cells zcc.toArray 40)).heap[w.heap.size+1]? =some (.cells #[.int .u16 sp,.int .u16 dp,.int .u32 sq,.int .u32 ak,.int .u8 fl,.int .u16 wn,.int .u16 ur,.slice aO os.length cO,.slice am zm.length cm] 32):=by
  have:=heap_alloc_new (w.alloc (.cells #[.int .u8 tos,.int .u16 id,.bool keep,.int .u8 ttl,.int .u8 proto,.int .u32 src,.int .u32 dst,.slice ao zo.length co,sd] 40)) (.cells #[.int .u16 sp,.int .u16 dp,.int .u32 sq,.int .u32 ak,.int .u8 fl,.int .u16 wn,.int .u16 ur,.slice aO os.length cO,.slice am zm.length cm] 32);rw[World.size_alloc]at this;exact(Below.heap_alloc _ _ _ (by simp)).trans this
 have r0:(((w.alloc (.cells #[.int .u8 tos,.int .u16 id,.bool keep,.int .u8 ttl,.int .u8 proto,.int .u32 src,.int .u32 dst,.slice ao zo.length co,sd] 40)).alloc (.cells #[.int .u16 sp,.int .u16 dp,.int .u32 sq,.int .u32 ak,.int .u8 fl,.int .u16 wn,.int .u16 ur,.slice aO os.length cO,.slice am zm.length cm] 32)).alloc (.cells zcc.toArray 40)).heap[w.heap.size+1+1]? =some (.cells zcc.toArray 40 (0,0)):=by
  have:=heap_alloc_new ((w.alloc (.cells #[.int .u8 tos,.int .u16 id,.bool keep,.int .u8 ttl,.int .u8 proto,.int .u32 src,.int .u32 dst,.slice ao zo.length co,sd] 40)).alloc (.cells #[.int .u16 sp,.int .u16 dp,.int .u32 sq,.int .u32 ak,.int .u8 fl,.int .u16 wn,.int .u16 ur,.slice aO os.length cO,.slice am zm.length cm] 32)) (.cells zcc.toArray 40);simpa only[World.size_alloc]using this
 have hs0:(((w.alloc (.cells #[.int .u8 tos,.int .u16 id,.bool keep,.int .u8 ttl,.int .u8 proto,.int .u32 src,.int .u32 dst,.slice ao zo.length co,sd] 40)).alloc (.cells #[.int .u16 sp,.int .u16 dp,.int .u32 sq,.int .u32 ak,.int .u8 fl,.int .u16 wn,.int .u16 ur,.slice aO os.length cO,.slice am zm.length cm] 32)).alloc (.cells zcc.toArray 40)).heap.size=w.heap.size+1+1+1:=by simp
 have S0:=zAc s0;have P0:=zAc p0;have R0:=zAc r0;have HS0:=zAc hs0;clear p0 s0 r0 hs0;go_enter Tryz.func23,Tryz.ntmps23;go_wp2_with fail;generalize ((w.alloc (.cells #[.int .u8 tos,.int .u16 id,.bool keep,.int .u8 ttl,.int .u8 proto,.int .u32 src,.int .u32 dst,.slice ao zo.length co,sd] 40)).alloc (.cells #[.int .u16 sp,.int .u16 dp,.int .u32 sq,.int .u32 ak,.int .u8 fl,.int .u16 wn,.int .u16 ur,.slice aO os.length cO,.slice am zm.length cm] 32)).alloc (.cells zcc.toArray 40)=W0 at*;refine(zFd _ os W0 hBO ((hIO.below hb0).mono hb0.size) hlO).mono ?_;rintro e w1 ⟨hb1,⟨hno,rfl⟩|⟨hyes,aB,cB,rfl,hOB⟩⟩
 ·have r1:=zAb hb1 R0.out
  have hw1:=hb0.trans (hb1.mono hb0.size);have HF:Hid (bte os zo.length zm.length=4):=by show _=_;unfold bte;rw[if_neg hno]
  have K1:=zAa r1;have F1:=zAd r1;clear hno;go_wp2_with fail;generalize hV:World.setCell _ ⟨w.heap.size+1+1,8,none⟩ _=V8;have hV9:V8=zAj w1 (w.heap.size+1+1) 0 zcc:=hV.symm;have hb8:But (fun b=>b=w.heap.size+1+1) w1 V8:=by rw[hV9];exact zAf (E:=fun b=>b=w.heap.size+1+1) (n:=w.heap.size+1+1) rfl _ _ _ _ (But.refl _ _)
  have p8:=zAg zcc r1 rfl;rw[←hV9]at p8;clear hV hV9;have P8:=zAa p8;have hw8:Below w.heap.size w V8:=(hw1).trans (hb8.below (hw1).size (fun k h e=>by omega));exact bodyPost_ret (v:= .tuple #[.agg zcc.toArray,.int .i64 4]) (by simp[results,Tryz.results23,go_sem,P8]) rfl (⟨hw8,.inl ⟨by rw[HF.out];decide,by rw[HF.out]⟩⟩)
 ·have r1:=zAb hb1 R0.out
  have p1:=zAb hb1 P0.out;have s1:=zAb hb1 S0.out;have hw1:=hb0.trans (hb1.mono hb0.size);have hsz1:w.heap.size+1+1+1≤w1.heap.size:=by have:=hb1.size;have:=HS0.out;omega
  have hBt:Hid (bte os zo.length zm.length=flt zo.length (20+(pad (obs os)).length+zm.length)):=by show _=_;unfold bte;rw[if_pos hyes]
  have h40:(pad (obs os)).length≤40:=pad_le _ hyes.2;have hm4:(pad (obs os)).length % 4=0:=zKu _;have hBp:=By_pad _ (By_obs os hBO hyes.2);have HYES:=zAc hyes;have HBP:=zAc hBp;clear hyes hBp P0 R0 S0 HS0 hb1 hb0;have K1:=zAa s1;go_upto_region 6 with fail;have hHu:HSt [.int .u8 6] 147 w1.heap.size (fun _=>False) [] (w1.alloc (.cells #[.slice none 0 0,.int .u8 6] 147)):=⟨.slice none 0 0,heap_alloc_new _ _,World.ownsRow_nil _ _ _ _,fun _ h=>by cases h⟩;have hEu:But (fun b=>w1.heap.size≤b) w1 (w1.alloc (.cells #[.slice none 0 0,.int .u8 6] 147)):=But.of ((Below.refl _ w1).alloc (Nat.le_refl _) _);have hsu:w1.heap.size+1≤(w1.alloc (.cells #[.slice none 0 0,.int .u8 6] 147)).heap.size:=by simp
  generalize w1.alloc (.cells #[.slice none 0 0,.int .u8 6] 147)=wxu at*;clear K1;have Ku:=zAa ((hEu.block (w.heap.size+1) (by omega) (by omega)).trans s1);have hA:=hHu.alloc (.cells ([sp,dp].map (Value.int .u16)).toArray 22);have hkA:=heap_alloc_new wxu (.cells ([sp,dp].map (Value.int .u16)).toArray 22);go_wp2_with fail;refine(zEd [.int .u8 6] 147 22 w1.heap.size wxu.heap.size 2 (fun b=>False∨b=wxu.heap.size) _ [sp,dp] _ hA (fun b hb=>by rcases hb with h|h;exact h.elim;subst h;exact⟨by simp,by have:=hsu;omega⟩) (.inr rfl) hkA (by intro n hn;simp at hn;omega) (by simp[b2,b4]) (by simp)).mono ?_;rintro e wxa ⟨rfl,hHa',hX⟩;have hHa:HSt [.int .u8 6] 147 w1.heap.size (fun _=>False) _ wxa:=hHa'.weaken (fun _ h=>h.elim);have hEa:But (fun b=>w1.heap.size≤b) w1 wxa:=hEu.trans ((But.of ((Below.refl _ wxu).alloc (Nat.le_refl _) _)).trans (hX.wk fun b h=>h.1));have hsa:w1.heap.size+1≤wxa.heap.size:=Nat.le_trans hsu (((But.of ((Below.refl _ wxu).alloc (Nat.le_refl _) _)).trans (hX.wk (E':=fun b=>w1.heap.size≤b) fun b h=>h.1)).size);have Ka:=zAa ((hEa.block (w.heap.size+1) (by omega) (by omega)).trans s1);clear hA hkA hX hHa' hHu hEu Ku;have hA:=hHa.alloc (.cells ([sq,ak].map (Value.int .u32)).toArray 29);have hkA:=heap_alloc_new wxa (.cells ([sq,ak].map (Value.int .u32)).toArray 29);go_wp2_with fail
  refine(zNz [.int .u8 6] 147 29 w1.heap.size wxa.heap.size 2 (fun b=>False∨b=wxa.heap.size) _ [sq,ak] _ hA (fun b hb=>by rcases hb with h|h;exact h.elim;subst h;exact⟨by simp,by have:=hsa;omega⟩) (.inr rfl) hkA (by intro n hn;simp at hn;omega) (by simp[b2,b4]) (by simp)).mono ?_;rintro e wxb ⟨rfl,hHb',hX⟩;have hHb:HSt [.int .u8 6] 147 w1.heap.size (fun _=>False) _ wxb:=hHb'.weaken (fun _ h=>h.elim);have hEb:But (fun b=>w1.heap.size≤b) w1 wxb:=hEa.trans ((But.of ((Below.refl _ wxa).alloc (Nat.le_refl _) _)).trans (hX.wk fun b h=>h.1));have hsb:w1.heap.size+1≤wxb.heap.size:=Nat.le_trans hsa (((But.of ((Below.refl _ wxa).alloc (Nat.le_refl _) _)).trans (hX.wk (E':=fun b=>w1.heap.size≤b) fun b h=>h.1)).size);have Kb:=zAa ((hEb.block (w.heap.size+1) (by omega) (by omega)).trans s1);clear hA hkA hX hHb' hHa hEa Ka;go_wp2_with fail;have hRn:=Rd.new [(20+((pad (obs os)).length:Int))/4*16,fl] 5 wxb (by simp) (by simp);refine(zCt [.int .u8 6] 147 w1.heap.size (fun _=>False) _ _ [(20+((pad (obs os)).length:Int))/4*16,fl] _ _ (hHb.below ((Below.refl _ wxb).alloc (Nat.le_refl _) _)) (fun b hb=>hb.elim) hRn (by simp[b2,b4])).mono ?_;rintro e wxc ⟨rfl,hHc,hX⟩;have hEc:But (fun b=>w1.heap.size≤b) w1 wxc:=hEb.trans ((But.of ((Below.refl _ wxb).alloc (Nat.le_refl _) _)).trans (hX.wk fun b h=>h.1));have hsc:w1.heap.size+1≤wxc.heap.size:=Nat.le_trans hsb (((But.of ((Below.refl _ wxb).alloc (Nat.le_refl _) _)).trans (hX.wk (E':=fun b=>w1.heap.size≤b) fun b h=>h.1)).size)
  have Kc:=zAa ((hEc.block (w.heap.size+1) (by omega) (by omega)).trans s1);clear hRn hX hHb hEb Kb;have hA:=hHc.alloc (.cells ([wn,0,ur].map (Value.int .u16)).toArray 22);have hkA:=heap_alloc_new wxc (.cells ([wn,0,ur].map (Value.int .u16)).toArray 22);go_wp2_with fail;refine(zEd [.int .u8 6] 147 22 w1.heap.size wxc.heap.size 3 (fun b=>False∨b=wxc.heap.size) _ [wn,0,ur] _ hA (fun b hb=>by rcases hb with h|h;exact h.elim;subst h;exact⟨by simp,by have:=hsc;omega⟩) (.inr rfl) hkA (by intro n hn;simp at hn;omega) (by simp[b2,b4]) (by simp)).mono ?_;rintro e wxd ⟨rfl,hHd',hX⟩;have hHd:HSt [.int .u8 6] 147 w1.heap.size (fun _=>False) _ wxd:=hHd'.weaken (fun _ h=>h.elim);have hEd:But (fun b=>w1.heap.size≤b) w1 wxd:=hEc.trans ((But.of ((Below.refl _ wxc).alloc (Nat.le_refl _) _)).trans (hX.wk fun b h=>h.1));have hsd:w1.heap.size+1≤wxd.heap.size:=Nat.le_trans hsc (((But.of ((Below.refl _ wxc).alloc (Nat.le_refl _) _)).trans (hX.wk (E':=fun b=>w1.heap.size≤b) fun b h=>h.1)).size);have Kd:=zAa ((hEd.block (w.heap.size+1) (by omega) (by omega)).trans s1);clear hA hkA hX hHd' hHc hEc Kc;go_wp2_with fail;have hRB:=hOB.rd.below (hEd.below (Nat.le_refl _) (fun k h e=>by omega));refine(zCt [.int .u8 6] 147 w1.heap.size (fun _=>False) _ _ (pad (obs os)) _ _ hHd (fun b hb=>hb.elim) hRB (by simp[b2,b4];omega)).mono ?_;rintro e wxe ⟨rfl,hHe,hX⟩;have hEe:But (fun b=>w1.heap.size≤b) w1 wxe:=hEd.trans ((hX.wk fun b h=>h.1))
  have hse:w1.heap.size+1≤wxe.heap.size:=Nat.le_trans hsd (((hX.wk (E':=fun b=>w1.heap.size≤b) fun b h=>h.1)).size);have Ke:=zAa ((hEe.block (w.heap.size+1) (by omega) (by omega)).trans s1);clear hRB hX hHd hEd Kd;go_wp2_with fail;have hwe:Below w.heap.size w wxe:=hw1.trans (hEe.below (by omega) (fun k h e=>by omega));refine(zCt [.int .u8 6] 147 w1.heap.size (fun _=>False) _ _ zm _ _ hHe (fun b hb=>hb.elim) (hIm.below hwe) (by simp[b2,b4];omega)).mono ?_;rintro e wxf ⟨rfl,hHf,hX⟩;have hEf:But (fun b=>w1.heap.size≤b) w1 wxf:=hEe.trans ((hX.wk fun b h=>h.1));have hsf:w1.heap.size+1≤wxf.heap.size:=Nat.le_trans hse (((hX.wk (E':=fun b=>w1.heap.size≤b) fun b h=>h.1)).size);have Kf:=zAa ((hEf.block (w.heap.size+1) (by omega) (by omega)).trans s1);clear hX hHe hEe Ke hwe;have HU:Hid ([]++[sp,dp].flatMap b2++[sq,ak].flatMap b4++[(20+((pad (obs os)).length:Int))/4*16,fl]++[wn,0,ur].flatMap b2++pad (obs os)++zm=(zD6 sp dp sq ak fl wn ur (pad (obs os)) zm)):=by show _=_;rw[List.nil_append];rfl
  rw[HU.out]at hHf;have hw2:Below w.heap.size w wxf:=hw1.trans (hEf.below (by omega) (fun k h e=>by omega));have p2:=(hEf.block w.heap.size (by omega) (by omega)).trans p1;have r2:=(hEf.block (w.heap.size+1+1) (by omega) (by omega)).trans r1;clear Kf hEf HU p1 r1 s1 hOB;obtain⟨v2,u2,hown2,_⟩:=hHf;have hOu:=Ow.of_row hown2;obtain⟨av,cv,rfl,_,_⟩:=hOu.slice;have K2:=zAa p2;have hB0:=zPx sp dp sq ak fl wn ur (pad (obs os)) zm hsp hdp hsq hak hfl hwn hur h40 HBP.out hBm;have HTL:=zAc (zDg sp dp sq ak fl wn ur (pad (obs os)) zm);go_wp2_with fail;refine(zKt tos id ttl proto src dst 6 keep _ _ _ zo (zD6 sp dp sq ak fl wn ur (pad (obs os)) zm) wxf w1.heap.size _ u2 hBo ((hIo.below hw2).mono hw2.size) hOu.rd h1 (by rw[HTL.out];omega) ht hid htt (by omega) hsr hds).mono ?_;rw[HTL.out]at hOu⊢;clear K2 u2 hown2 p2;have HTC:Hid (tcp sp dp sq ak fl wn ur (pad (obs os)) src dst zm=Mt.put2 (zD6 sp dp sq ak fl wn ur (pad (obs os)) zm) 16 (Mt.cks (psd src dst 6 (20+(pad (obs os)).length+zm.length)++(zD6 sp dp sq ak fl wn ur (pad (obs os)) zm)))):=rfl;rintro e w3 ⟨hb3,⟨hf,rfl⟩|⟨hf,ao3,co3,rfl,hO3⟩⟩
  ·have hf':(flt zo.length (20+(pad (obs os)).length+zm.length) !=0)=true:=by simp[hf]
   have HF:=zAc hf;have r3:=(hb3.block (w.heap.size+1+1) (by omega)).trans r2;have hw3:=hw2.trans (hb3.mono hw2.size);clear hf r2;go_upto_region 14 with fail;generalize hV:w3.alloc _=W4;have W4l:Later w3 W4:=by rw[←hV];exact(Below.refl _ w3).alloc (Nat.le_refl _) _
   clear hV;have r4:=(W4l.block (w.heap.size+1+1) (by have:=hb3.size;omega)).trans r3;have hw4:=hw3.trans (W4l.mono hw3.size);have K4:=zAa r4;have F4:=zAd r4;clear r3 hb3;go_wp2_with fail;generalize hV:World.setCell _ ⟨w.heap.size+1+1,8,none⟩ _=V8;have hV9:V8=zAj W4 (w.heap.size+1+1) 0 zcc:=hV.symm;have hb8:But (fun b=>b=w.heap.size+1+1) W4 V8:=by rw[hV9];exact zAf (E:=fun b=>b=w.heap.size+1+1) (n:=w.heap.size+1+1) rfl _ _ _ _ (But.refl _ _)
   have p8:=zAg zcc r4 rfl;rw[←hV9]at p8;clear hV hV9;have P8:=zAa p8;have hw8:Below w.heap.size w V8:=(hw4).trans (hb8.below (hw4).size (fun k h e=>by omega));exact bodyPost_ret (v:= .tuple #[.agg zcc.toArray,.int .i64 (flt zo.length (20+(pad (obs os)).length+zm.length))]) (by simp[results,Tryz.results23,go_sem,P8]) rfl (⟨hw8,.inl ⟨by rw[hBt.out];exact HF.out,by rw[hBt.out]⟩⟩)
  ·have HF:Hid (bte os zo.length zm.length=0):=by show _=_;rw[hBt.out];exact hf
   have r3:=(hb3.block (w.heap.size+1+1) (by omega)).trans r2;have hw3:=hw2.trans (hb3.mono hw2.size);have hs3:=hb3.size;have hOu3:=hOu.later hb3;clear hf r2;go_upto_region 15 with fail;generalize hV:w3.alloc _=W4;have W4l:Later w3 W4:=by rw[←hV];exact(Below.refl _ w3).alloc (Nat.le_refl _) _
   have W4q:W4.heap[w3.heap.size]? =some (.cells [.int .u8 tos,.int .u16 id,.bool keep,.int .u8 ttl,.int .u8 6,.int .u32 src,.int .u32 dst,.slice ao3 zo.length co3,.slice av (20+(pad (obs os)).length+zm.length) cv].toArray 40 (0,0)):=by rw[←hV];exact heap_alloc_new w3 _
   clear hV;have r4:=(W4l.block (w.heap.size+1+1) (by omega)).trans r3;have hw4:=hw3.trans (W4l.mono hw3.size);have hO4:=hO3.later W4l;have hOu4:=hOu3.later W4l;clear r3 hO3 hOu3;have hBS:=(zId src dst 6 (20+(pad (obs os)).length+zm.length) hsr hds (by omega)).append hB0;have HLS:Hid ((psd src dst 6 (20+(pad (obs os)).length+zm.length)++(zD6 sp dp sq ak fl wn ur (pad (obs os)) zm)).length=12+(20+(pad (obs os)).length+zm.length)):=by show _=_;rw[List.length_append,zBk,HTL.out]
   refine zA6 (R1:=Later) (R2:=But (fun b=>b=w3.heap.size)) (D:=[7]) 8 rfl (by kernel_rfl) ?_;have hd:Later W4 W4.drew:=Later.drew W4;have q5:=zAb hd W4q;have r5:=zAb hd r4;have hw5:=hw4.trans (hd.mono hw4.size);have hO5:=hO4.later hd;have hOu5:=hOu4.later hd;clear W4q r4 hO4 hOu4;generalize W4.drew=W5 at*;have Q5:=zAa q5;have q0:=fun v1 (hv:Later W5 v1)=>zAa (zAb hv q5);refine uX Later.pre 0 [1,5,7] ?_;refine uX Later.pre 1 [5,7] ?_;clear q0;refine uO 2 ?_;unfold Oper.wp;go_simp;refine⟨zBr (by rfl) (Later.refl _),?_⟩;refine uO 3 ?_;refine zAi 64 #[.agg #[.int .u8 tos,.int .u16 id,.bool keep,.int .u8 ttl,.int .u8 6,.int .u32 src,.int .u32 dst,.slice ao3 zo.length co3,.slice av (20+(pad (obs os)).length+zm.length) cv]] (by go_simp) ?_;refine(zF9 tos id ttl 6 src dst keep _ _ (zD6 sp dp sq ak fl wn ur (pad (obs os)) zm) W5 hOu5.rd (by rw[HTL.out];omega) hsr hds).mono ?_;rw[HTL.out];rintro e W6 ⟨a6',c6',rfl,hS6,hb6⟩;refine⟨zBr (by rfl) hb6,?_⟩;simp only[Act.put,sA,sB,sC];refine uO 4 ?_;refine zAi 63 #[.slice a6' (12+(20+(pad (obs os)).length+zm.length)) c6'] (by go_simp) ?_;refine(zEy _ (psd src dst 6 (20+(pad (obs os)).length+zm.length)++(zD6 sp dp sq ak fl wn ur (pad (obs os)) zm)) hBS (by rw[HLS.out];omega) W6 hS6.rd).mono ?_;rintro e W7 ⟨rfl,hb7⟩;refine⟨zBr (by rfl) hb7,?_⟩;simp only[Act.put,sA,sB,sC];have hb57:Later W5 W7:=hb6.trans (hb7.mono hb6.size);have hO7:=hO5.later hb57
   have hOu7:=hOu5.later hb57;have r7:=zAb hb57 r5;have q7:=zAb hb57 q5;have hw7:=hw5.trans (hb57.mono hw5.size);have hq5:=(eS q5);have hcb:=Mt.cks_bd (psd src dst 6 (20+(pad (obs os)).length+zm.length)++(zD6 sp dp sq ak fl wn ur (pad (obs os)) zm));refine uO 5 ?_;refine zAi 62 #[.slice av (20+(pad (obs os)).length+zm.length) cv,.int .i64 16,.int .u16 (Mt.cks (psd src dst 6 (20+(pad (obs os)).length+zm.length)++(zD6 sp dp sq ak fl wn ur (pad (obs os)) zm)))] (by go_simp) ?_;refine(zBf _ (zD6 sp dp sq ak fl wn ur (pad (obs os)) zm) 16 (Mt.cks (psd src dst 6 (20+(pad (obs os)).length+zm.length)++(zD6 sp dp sq ak fl wn ur (pad (obs os)) zm))) W7 (by rw[HTL.out];omega) hOu7.rd hcb).mono ?_;rw[HTL.out];rintro e W8 ⟨a6,rfl,hO8,hb8'⟩;rw[zAv _ 16 16 _ rfl (by rw[HTL.out];omega)]at hO8;refine⟨zBr (by rfl) hb8',?_⟩;simp only[Act.put,sA,sB,sC];have r8:=zAb hb8' r7;have q8:=zAb hb8' q7;have hw8':=hw7.trans (hb8'.mono hw7.size);have hOo:=hO7.later hb8';have hs57:=hb57.size;have hs78:=hb8'.size;clear hOu5 hO5 hOu7 hO7 r7 q7 r5 q5 Q5 hS6;refine uO 6 ?_;unfold Oper.wp;go_simp;refine⟨zBr (by rfl) (Later.refl _),?_⟩;have Q8:=zAa q8;have F8:=zAd q8;refine uO 7 ?_;unfold Oper.wp;go_simp;refine⟨zEf (by rfl) ((But.refl (fun b=>b=w3.heap.size) W8).setCell (p:=⟨w3.heap.size,8,none⟩) rfl _),?_⟩;clear Q8 F8;refine uD ?_
   have E9:But (fun b=>b=w3.heap.size) W8 (W8.setCell ⟨w3.heap.size,8,none⟩ (.slice a6 (20+(pad (obs os)).length+zm.length) (20+(pad (obs os)).length+zm.length))):=(But.refl (fun b=>b=w3.heap.size) W8).setCell (p:=⟨w3.heap.size,8,none⟩) rfl _;have q9:(W8.setCell ⟨w3.heap.size,8,none⟩ (.slice a6 (20+(pad (obs os)).length+zm.length) (20+(pad (obs os)).length+zm.length))).heap[w3.heap.size]? =some (.cells [.int .u8 tos,.int .u16 id,.bool keep,.int .u8 ttl,.int .u8 6,.int .u32 src,.int .u32 dst,.slice ao3 zo.length co3,.slice a6 (20+(pad (obs os)).length+zm.length) (20+(pad (obs os)).length+zm.length)].toArray 40 (0,0)):=zAh q8 8 _;generalize W8.setCell ⟨w3.heap.size,8,none⟩ (.slice a6 (20+(pad (obs os)).length+zm.length) (20+(pad (obs os)).length+zm.length))=W9 at*;have r9:=(E9.block (w.heap.size+1+1) (by omega) (by omega)).trans r8;have hwL:Below w.heap.size w W9:=hw8'.trans (E9.below (by omega) (fun k h e=>by omega));have hO9:=hOo.aside q8 (by decide) E9;have hOd:=hO8.aside q8 (by decide) E9;have Q9:=zAa q9;have R9:=zAa r9;have F9:=zAd r9;go_wp2_with fail;generalize hV:World.setCell _ ⟨w.heap.size+1+1,8,none⟩ _=V8;have hV9:V8=zAj W9 (w.heap.size+1+1) 0 [.int .u8 tos,.int .u16 id,.bool keep,.int .u8 ttl,.int .u8 6,.int .u32 src,.int .u32 dst,.slice ao3 zo.length co3,.slice a6 (20+(pad (obs os)).length+zm.length) (20+(pad (obs os)).length+zm.length)]:=hV.symm
   have hb8:But (fun b=>b=w.heap.size+1+1) W9 V8:=by rw[hV9];exact zAf (E:=fun b=>b=w.heap.size+1+1) (n:=w.heap.size+1+1) rfl _ _ _ _ (But.refl _ _)
   have p8:=zAg [.int .u8 tos,.int .u16 id,.bool keep,.int .u8 ttl,.int .u8 6,.int .u32 src,.int .u32 dst,.slice ao3 zo.length co3,.slice a6 (20+(pad (obs os)).length+zm.length) (20+(pad (obs os)).length+zm.length)] r9 rfl;rw[←hV9]at p8;clear hV hV9;have P8:=zAa p8;have hw8:Below w.heap.size w V8:=(hwL).trans (hb8.below (hwL).size (fun k h e=>by omega));exact bodyPost_ret (v:= .tuple #[.agg #[.int .u8 tos,.int .u16 id,.bool keep,.int .u8 ttl,.int .u8 6,.int .u32 src,.int .u32 dst,.slice ao3 zo.length co3,.slice a6 (20+(pad (obs os)).length+zm.length) (20+(pad (obs os)).length+zm.length)],.int .i64 0]) (by simp[results,Tryz.results23,go_sem,P8]) rfl (⟨hw8,.inr ⟨HF.out,_,_,_,_,rfl,(hO9.but hb8 (fun b h e=>by omega)).mono hw2.size,by rw[HTC.out];exact(hOd.but hb8 (fun b h e=>by omega)).mono (by omega)⟩⟩)
attribute [local go_sem] Oper.semAt_some
theorem zAp {α:Type} {n:Nat} {l:List α} (h:l.length=n+1):∃a r,l=a::r∧r.length=n:=by
 cases l with
 |nil=>simp at h
 |cons a r=>exact⟨a,r,rfl,by simpa using h⟩
theorem list49 {α:Type} {l:List α} (h:l.length=49):∃v0 v1 v2 v3 v4 v5 v6 v7 v8 v9 v10 v11 v12 v13 v14 v15 v16 v17 v18 v19 v20 v21 v22 v23 v24 v25 v26 v27 v28 v29 v30 v31 v32 v33 v34 v35 v36 v37 v38 v39 v40 v41 v42 v43 v44 v45 v46 v47 v48,l=[v0,v1,v2,v3,v4,v5,v6,v7,v8,v9,v10,v11,v12,v13,v14,v15,v16,v17,v18,v19,v20,v21,v22,v23,v24,v25,v26,v27,v28,v29,v30,v31,v32,v33,v34,v35,v36,v37,v38,v39,v40,v41,v42,v43,v44,v45,v46,v47,v48]:=by
 obtain⟨v0,l0,rfl,h0⟩:=zAp h;obtain⟨v1,l1,rfl,h1⟩:=zAp h0;obtain⟨v2,l2,rfl,h2⟩:=zAp h1;obtain⟨v3,l3,rfl,h3⟩:=zAp h2;obtain⟨v4,l4,rfl,h4⟩:=zAp h3;obtain⟨v5,l5,rfl,h5⟩:=zAp h4;obtain⟨v6,l6,rfl,h6⟩:=zAp h5;obtain⟨v7,l7,rfl,h7⟩:=zAp h6;obtain⟨v8,l8,rfl,h8⟩:=zAp h7;obtain⟨v9,l9,rfl,h9⟩:=zAp h8;obtain⟨v10,l10,rfl,h10⟩:=zAp h9;obtain⟨v11,l11,rfl,h11⟩:=zAp h10;obtain⟨v12,l12,rfl,h12⟩:=zAp h11;obtain⟨v13,l13,rfl,h13⟩:=zAp h12;obtain⟨v14,l14,rfl,h14⟩:=zAp h13;obtain⟨v15,l15,rfl,h15⟩:=zAp h14;obtain⟨v16,l16,rfl,h16⟩:=zAp h15;obtain⟨v17,l17,rfl,h17⟩:=zAp h16;obtain⟨v18,l18,rfl,h18⟩:=zAp h17;obtain⟨v19,l19,rfl,h19⟩:=zAp h18;obtain⟨v20,l20,rfl,h20⟩:=zAp h19;obtain⟨v21,l21,rfl,h21⟩:=zAp h20;obtain⟨v22,l22,rfl,h22⟩:=zAp h21;obtain⟨v23,l23,rfl,h23⟩:=zAp h22;obtain⟨v24,l24,rfl,h24⟩:=zAp h23;obtain⟨v25,l25,rfl,h25⟩:=zAp h24;obtain⟨v26,l26,rfl,h26⟩:=zAp h25;obtain⟨v27,l27,rfl,h27⟩:=zAp h26;obtain⟨v28,l28,rfl,h28⟩:=zAp h27;obtain⟨v29,l29,rfl,h29⟩:=zAp h28;obtain⟨v30,l30,rfl,h30⟩:=zAp h29;obtain⟨v31,l31,rfl,h31⟩:=zAp h30;obtain⟨v32,l32,rfl,h32⟩:=zAp h31;obtain⟨v33,l33,rfl,h33⟩:=zAp h32;obtain⟨v34,l34,rfl,h34⟩:=zAp h33;obtain⟨v35,l35,rfl,h35⟩:=zAp h34;obtain⟨v36,l36,rfl,h36⟩:=zAp h35;obtain⟨v37,l37,rfl,h37⟩:=zAp h36;obtain⟨v38,l38,rfl,h38⟩:=zAp h37;obtain⟨v39,l39,rfl,h39⟩:=zAp h38;obtain⟨v40,l40,rfl,h40⟩:=zAp h39;obtain⟨v41,l41,rfl,h41⟩:=zAp h40
 obtain⟨v42,l42,rfl,h42⟩:=zAp h41;obtain⟨v43,l43,rfl,h43⟩:=zAp h42;obtain⟨v44,l44,rfl,h44⟩:=zAp h43;obtain⟨v45,l45,rfl,h45⟩:=zAp h44;obtain⟨v46,l46,rfl,h46⟩:=zAp h45;obtain⟨v47,l47,rfl,h47⟩:=zAp h46;obtain⟨v48,l48,rfl,h48⟩:=zAp h47;obtain rfl:l48=[]:=List.eq_nil_of_length_eq_zero h48;exact⟨v0,v1,v2,v3,v4,v5,v6,v7,v8,v9,v10,v11,v12,v13,v14,v15,v16,v17,v18,v19,v20,v21,v22,v23,v24,v25,v26,v27,v28,v29,v30,v31,v32,v33,v34,v35,v36,v37,v38,v39,v40,v41,v42,v43,v44,v45,v46,v47,v48,rfl⟩
theorem zKx(x:Int)(w:World):Calls Tryz.prog 250 #[.int .u8 x] w fun e w'=>e= .returned (.bool (x !=0))∧w'=w:=by
 go_enter Tryz.func250,Tryz.ntmps250;go_wp2
 go_ret
 exact⟨rfl,rfl⟩
theorem idxb_any(n₀:Nat)(sv:Value)(zs:List Int)(w:World)(hI:Rd n₀ w sv zs)(hl:zs.length≤140737488355328):
  Calls Tryz.prog 300 #[sv,.func (.func 250) #[] #[]] w fun e w'=>w'=w∧(((∀x∈zs,x=0)∧e= .returned (.int .i64 (-1)))∨((¬ ∀x∈zs,x=0)∧∃k:Nat,k<zs.length∧e= .returned (.int .i64 (k:Int)))):=by
 obtain⟨a,cap,rfl,hc1,hc2⟩:=hI.slice;go_enter Tryz.func300,Tryz.ntmps300;go_wp2
 go_loopw [8] (fun i wr=>∃k:Nat,k≤zs.length∧i= .int .i64 (k:Int)∧(∀j,j<k→zs[j]?.getD 0=0)∧wr=w) (fun i _=>zs.length-(intOf i).toNat)
 case atStart=>exact⟨0,by omega,rfl,fun j h=>by omega,rfl⟩
 case round=>
  obtain⟨k,hk,rfl,hz,rfl⟩:=hrel;by_cases hlt:k<zs.length
  ·obtain ⟨b,off,cp,e,_,_,hbb,hcs⟩:=hI.cells (by omega)
   simp at e
   obtain⟨rfl,rfl⟩:=e;have c0:=hcs k hlt;have hlt':(k:Int)<zs.length:=by omega
   have HX:Hid (zs[k]?.getD 0=zs[k]?.getD 0):=rfl;generalize hx:zs[k]?.getD 0=x at c0;have HXX:=zAc hx;have HZ:=zAc hz;clear hx hcs hz;go_wp2_with fail;refine(zKx x _).mono ?_;rintro e w' ⟨rfl,rfl⟩;cases hx0:(x !=0) with
   |true=>
    have hne:x≠0:=by simpa using hx0
    clear hx0;go_wp2_with fail;go_ret
    refine⟨rfl,.inr ⟨fun h=>hne ?_,k,hlt,rfl⟩⟩;rw[←HXX.out];have:=h (zs[k]?.getD 0) (by simp[hlt]);exact this
   |false=>
    have hne:x=0:=by simpa using hx0
    have HNE:=zAc hne;clear hx0 hne;go_wp2_with fail;go_roundw
    case rel=>exact⟨k+1,by omega,by go_num,fun j hj=>by by_cases h:j=k;(subst h;rw[HXX.out];exact HNE.out);exact HZ.out j (by omega),trivial⟩
    case measure=>simp[intOf];omega
  ·obtain rfl:k=zs.length:=by omega
   have HZ:=zAc hz;clear hz;go_wp2_with fail;go_ret
   refine⟨rfl,.inl ⟨fun x hx=> ?_,rfl⟩⟩;obtain⟨j,hj,rfl⟩:=List.getElem_of_mem hx;have:=HZ.out j hj;simpa[hj]using this
def azb (zs:List Int):Bool:=decide (∀x∈zs,x=0)
theorem zPy(n₀:Nat)(sv:Value)(zs:List Int)(w:World)(hI:Rd n₀ w sv zs)(hl:zs.length≤140737488355328):
  Calls Tryz.prog 179 #[sv] w fun e w'=>e= .returned (.bool (azb zs))∧w'=w:=by
 obtain⟨a,cap,rfl,hc1,hc2⟩:=hI.slice
 have hcf:Calls Tryz.prog 249 #[.slice a zs.length cap,.func (.func 250) #[] #[]] w fun e w'=>e= .returned (.bool (!azb zs))∧w'=w:=by
  go_enter Tryz.func249,Tryz.ntmps249;go_wp2_with fail;refine(idxb_any n₀ _ zs w hI hl).mono ?_;rintro e w' ⟨rfl,⟨hz,rfl⟩|⟨hz,k,hk,rfl⟩⟩
  ·go_wp2
   go_ret
   exact⟨by unfold azb;rw[decide_eq_true hz];rfl,rfl⟩
  ·go_wp2
   go_ret
   refine⟨?_,rfl⟩;unfold azb;rw[decide_eq_false hz];simp
 go_enter Tryz.func179,Tryz.ntmps179;go_wp2_with fail;refine hcf.mono ?_;rintro e w' ⟨rfl,rfl⟩;go_wp2
 go_ret
 exact⟨by simp,rfl⟩
abbrev zop:List Value:=[.int .u8 0,.slice none 0 0]
theorem zEo(sv:Value)(zs:List Int)(w:World)(hI:Rd w.heap.size w sv zs)(hB:Mt.By zs)(hl:zs.length≤140737488355328)(h1:0<zs.length)(h2:zs[0]?.getD 0≠1→2≤zs.length):
  Calls Tryz.prog 180 #[sv] w fun e w'=>Below w.heap.size w w'∧∃s,e= .returned (.agg #[.int .u8 (zs[0]?.getD 0),s])∧Ow w.heap.size w' s (if zs[0]?.getD 0=1 then []else zs.drop 2):=by
 obtain⟨b,off,cap,rfl,hc1,hc2,hbb,hcs⟩:=hI.cells h1;have d0:=hcs 0 h1;rw[Nat.add_zero]at d0;clear hcs;have hb0:Below w.heap.size w (w.alloc (.cells zop.toArray 244)):=bA _ _;have r0:(w.alloc (.cells zop.toArray 244)).heap[w.heap.size]? =some (.cells zop.toArray 244 (0,0)):=heap_alloc_new _ _;have hs0:(w.alloc (.cells zop.toArray 244)).heap.size=w.heap.size+1:=by simp
 have dW:=(hb0.cell (p:=⟨b,off,none⟩) hbb).trans d0;have R0:=zAc r0;have HS:=zAc hs0;clear r0 hs0 d0;have i0:(0:Int)<zs.length:=by omega
 generalize hx:zs[0]?.getD 0=x at*;have HX:=zAc hx;clear hx;by_cases c1:x=1
 ·have t1:(x==1)=true:=by simp[c1]
  have C1:=zAc c1;clear c1 h2;go_enter Tryz.func180,Tryz.ntmps180;go_wp2_with fail;exact bodyPost_ret (v:= .agg #[.int .u8 1,.slice none 0 0]) (by simp[results,Tryz.results180,go_sem]) rfl ⟨by simpa using(Below.refl w.heap.size w).alloc (Nat.le_refl _) _,.slice none 0 0,rfl,.inl ⟨rfl,rfl⟩⟩
 ·have t1:(x==1)=false:=by simp[c1]
  have C1:=zAc c1;have h22:=h2 c1;clear c1 h2;have i2:(2:Int)≤zs.length:=by omega
  have i2c:(zs.length:Int)≤cap:=by omega
  go_enter Tryz.func180,Tryz.ntmps180;go_upto_region 3 with fail;generalize w.alloc (.cells zop.toArray 244)=W0 at*;refine zAk (R:=But (fun b=>b=w.heap.size)) 8 rfl (by kernel_rfl) ?_;have hd:Later W0 W0.drew:=Later.drew W0;have hb1:=hb0.trans (hd.mono hb0.size);have r1:=zAb hd R0.out;have hs1:w.heap.size+1≤W0.drew.heap.size:=by have:=hd.size;have:=HS.out;omega
  have dV:∀v1,But (fun b=>b=w.heap.size) W0.drew v1→v1.cell? ⟨b,off,none⟩=some (.int .u8 x):=fun v1 h=>h.cell ((hd.cell dW)) (by simp;omega);clear dW R0 HS;generalize W0.drew=W1 at*;refine tX (But.pre _) 0 ?_;refine tX (But.pre _) 1 ?_;refine tX (But.pre _) 2 ?_;refine tX (But.pre _) 3 ?_;refine tX (But.pre _) 4 ?_;have hs8:=(hI.below hb1).cutAt 2 (by omega);generalize (if cap=2 then some (⟨b,off,none⟩:Addr)else some ⟨b,off+2,none⟩)=ad2 at*;clear dV;refine tO 5 ?_;refine zAi 71 #[.slice ad2 (zs.length-2) (cap-2)] (by go_simp) ?_;refine(zBd _ (zs.drop 2) W1 (by simp;omega) (hs8.mono hb1.size)).mono ?_;rw[List.length_drop];rintro e W2 ⟨a2,c2,rfl,hO2,hb2⟩;refine⟨But.of hb2,?_⟩;simp only[Act.put,sA,sB,sC];have r2:=zAb hb2 r1;have R2:=zAa r2;have F2:=zAd r2;have hw2:=hb1.trans (hb2.mono hb1.size);refine tO 6 ?_;unfold Oper.wp;go_simp;refine⟨But.refl _ _,?_⟩;refine tO 7 ?_;unfold Oper.wp;go_simp;generalize hV:World.setCell _ ⟨w.heap.size,1,none⟩ _=V8;have hV9:V8=zAj W2 (w.heap.size) 0 [.int .u8 x,.slice a2 (zs.length-2) c2]:=hV.symm;have hb8:But (fun b=>b=w.heap.size) W2 V8:=by rw[hV9];exact zAf (E:=fun b=>b=w.heap.size) (n:=w.heap.size) rfl _ _ _ _ (But.refl _ _)
  have p8:=zAg [.int .u8 x,.slice a2 (zs.length-2) c2] r2 rfl;rw[←hV9]at p8;clear hV hV9 R2 F2;refine⟨hb8,?_⟩;refine tD ?_;have P8:=zAa p8;have hw8:Below w.heap.size w V8:=hw2.trans (hb8.below hw2.size (fun k h e=>by omega));go_wp2_with fail;exact bodyPost_ret (v:= .agg #[.int .u8 x,.slice a2 (zs.length-2) c2]) (by simp[results,Tryz.results180,go_sem,P8]) rfl ⟨hw8,.slice a2 (zs.length-2) c2,rfl,(hO2.but hb8 (fun b h e=>by omega)).mono (by omega)⟩
attribute [local go_sem] Oper.semAt_some
abbrev It:=Value × Option Opt
def encI (x:It):Array Value:=#[x.1,.bool x.2.isSome]
def XI (n₁ N:Nat) (pre:List It) (x:It) (V:World):Prop:=pre.length≤N∧
 match x.2 with
 |some o=>∃s,x.1= .agg #[.int .u8 o.1,s]∧Ow n₁ V s o.2
 |none=>x.1= .agg #[.int .u8 0,.slice none 0 0]
def SI (zs:List Int) (xs:List It):Prop:=(∃os,zB7 zs=some os∧xs.map (·.2)=os.map some)∨(zB7 zs=none∧∃l v,xs=l++[(v,none)])
def SpI (zs:List Int) (xs:List It):Prop:=(∃l v,xs=l++[(v,none)])→zB7 zs=none
def InvI (zs:List Int) (p:Nat) (pre:List It):Prop:=pre.length≤p∧∃os,pre.map (·.2)=os.map some∧zB7 zs=(zB7 (zs.drop p)).map (os++ ·)
theorem InvI.zero(zs:List Int):InvI zs 0 []:=⟨Nat.le_refl _,[],rfl,by rw[List.drop_zero];cases zB7 zs<;>rfl⟩
theorem InvI.bad {zs:List Int} {p:Nat} {pre:List It} (h:InvI zs p pre)(hn:zB7 (zs.drop p)=none):zB7 zs=none:=by
 obtain⟨_,os,_,h2⟩:=h;rw[h2,hn];rfl
theorem InvI.done {zs:List Int} {p:Nat} {pre:List It} (h:InvI zs p pre)(hn:zB7 (zs.drop p)=some []):SI zs pre:=by
 obtain⟨_,os,h1,h2⟩:=h;exact .inl ⟨os,by rw[h2,hn];simp,h1⟩
theorem InvI.next {zs:List Int} {p q:Nat} {pre:List It} {o:Opt} {v:Value} (h:InvI zs p pre)(hq:p+1≤q)(hn:zB7 (zs.drop p)=(zB7 (zs.drop q)).map (o:: ·)):InvI zs q (pre++[(v,some o)]):=by
 obtain⟨hl,os,h1,h2⟩:=h;refine⟨by simp;omega,os++[o],by simp[h1],?_⟩;rw[h2,hn];cases zB7 (zs.drop q)<;>simp
theorem zDw(l:Nat)(J:Act→World→Prop)(Q:Exit→Act→World→Prop)(a:Act)(w:World):Exit.jump l J Q .ret a w=Q .ret a w:=rfl
theorem zFf(l:Nat)(J:Act→World→Prop)(Q:Exit→Act→World→Prop)(a:Act)(w:World):Exit.jump l J Q .normal a w=Q .normal a w:=rfl
theorem KB.later {n₀ Bs:Nat} {A B:World} (h1:n₀≤A.heap.size)(h2:Bs<A.heap.size)(h:Later A B):KB n₀ Bs A B:=⟨h.mono h1,h.block Bs h2⟩
theorem zPz {pre:List It} {v:Value} {o:Opt} (h:∃l v',pre++[(v,some o)]=l++[((v':Value),(none:Option Opt))]):False:=by
 obtain⟨l,v',h⟩:=h;have h3:=congrArg List.getLast? h
 simp at h3
theorem zP0(zs:List Int)(p:Nat)(h:p<zs.length):zs.drop p=zs[p]?.getD 0::zs.drop (p+1):=by
 rw[List.drop_eq_getElem_cons h];simp[h]
theorem walk1_in(n:Nat)(hn:1≤n)(l Bs n₀ n₁ b off cap:Nat)(zs:List Int)(hB:Mt.By zs)(hreach:zs.length≤cap)(hcap:cap≤9223372036854775807)(hlen:zs.length≤140737488355328)(hb:b<n₀)(J Jx:List It→World→Prop)
  (hJ:∀s A B,J s A→Later A B→J s B)
  (hY:∀pre x V,J pre V→XI n₁ zs.length pre x V→YieldAt Fence.wide (n-1) Tryz.prog l (encI x) V fun e V'=>(e= .returned (.bool true)∧J (pre++[x]) V'∧KB n₀ Bs V V')∨(e= .returned (.bool false)∧Jx (pre++[x]) V'))
  (W:World)(hn1:n₁≤W.heap.size)(hBs:W.cell? ⟨Bs,0,none⟩=some (.slice (some ⟨b,off,none⟩) zs.length cap))(hBl:Bs<W.heap.size)(hn0:n₀≤W.heap.size)(hc:∀j,j<zs.length→W.cell? ⟨b,off+j,none⟩=some (.int .u8 (zs[j]?.getD 0)))(h0:J [] W):
  CallsIn Fence.wide n Tryz.prog 178 #[.func (.yield l) #[] #[],.pointer (some ⟨Bs,0,none⟩)] W fun e W'=>(∃v,e= .returned v)∧((∃xs,SI zs xs∧J xs W')∨(∃pre,SpI zs pre∧Jx pre W')):=by
 refine callsIn_of_wp Tryz.func178 rfl trivial ?_ rfl;simp only[Tryz.ntmps178,List.size_toArray,List.length_cons,List.length_nil,Nat.reduceAdd,Nat.reduceSub,Array.replicate_succ,Array.replicate_zero,List.push_toArray,List.append_toArray,List.nil_append,List.cons_append];refine wpIn_wide.2 (wp_scope_jumps 0 (fun a w=>∃(tl:List Value) (pre:List It),tl.length=49∧a= { tmps:=(Value.func (.yield l) #[] #[]:: .pointer (some ⟨Bs,0,none⟩)::tl).toArray,defers:=[] } ∧J pre w∧zB7 zs=none∧pre.length≤zs.length) (fun _ _=>0) rfl ((wpIn_wide (n:=n)).1 ?_) (fun a w hJ1=>(wpIn_wide (n:=n)).1 ?_))
 ·have HC :=zAc hc
  clear hc;gi_wp2
  gi_loopw [3] (fun i wr=>∃(p:Nat) (pre:List It),p≤zs.length∧i= .int .i64 (p:Int)∧InvI zs p pre∧J pre wr∧KB n₀ Bs W wr) (fun i _=>zs.length-(intOf i).toNat)
  case atStart=>exact⟨0,[],by omega,rfl,InvI.zero zs,h0,KB.refl _ _ _⟩
  case round=>
   obtain⟨p,pre,hp,rfl,hinv,hJs,hnx⟩:=hrel;have hbx:wr.cell? ⟨Bs,0,none⟩=some (.slice (some ⟨b,off,none⟩) zs.length cap):=hnx.box.trans hBs;have hcx:∀j,j<zs.length→wr.cell? ⟨b,off+j,none⟩=some (.int .u8 (zs[j]?.getD 0)):=fun j h=>(hnx.1.cell (p:=⟨b,off+j,none⟩) hb).trans (HC.out j h);by_cases hlt:p<zs.length
   ·have c0:=hcx p hlt
    have b0:=hB.at p;have HD:=zAc (zP0 zs p hlt);have hlt':(p:Int)<zs.length:=by omega
    have hRr:Rd n₀ wr (.slice (some ⟨b,off+p,none⟩) (zs.length-p) (cap-p)) (zs.drop p):= .inr ⟨b,off+p,cap-p,by simp,by intro e;have:=congrArg List.length e;simp at this;omega,by simp;omega,by omega,hb,fun j hj=>by
     have h9:=hcx (p+j) (by simp at hj;omega);rw[show off+p+j=off+(p+j)from by omega,h9];simp[List.getElem?_drop]⟩
    have HRR:=zAc hRr;have c1:p+1<zs.length→wr.cell? ⟨b,off+p+1,none⟩=some (.int .u8 (zs[p+1]?.getD 0)):=fun h=>by have:=hcx (p+1) h;rw[←Nat.add_assoc]at this;exact this
    have HC1:=zAc c1;clear hcx c1;have hn0':n₀≤wr.heap.size:=Nat.le_trans hn0 hnx.1.size;have hBl':Bs<wr.heap.size:=Nat.lt_of_lt_of_le hBl hnx.1.size;generalize hx:zs[p]?.getD 0=x at c0 b0 HD;have HX:=zAc hx;have hcp:(zs.length-p:Nat)≤cap-p:=by omega
    clear hx hRr;by_cases x0:x=0
    ·have t0:(x==0)=true:=by simp[x0]
     have X0:=zAc x0;clear x0;gi_wp2
     refine⟨trivial,?_⟩;refine(callsIn_wide.2 (zPy n₀ (.slice (some ⟨b,off+p,none⟩) (zs.length-p) (cap-p)) (zs.drop p) _ HRR.out (by simp;omega))).mono ?_;rintro e w' ⟨rfl,rfl⟩;cases hz:azb (zs.drop p) with
     |true=>
      gi_wp2
      rw[zDw];refine bodyPost_ret (results_none rfl _ _ _) rfl ?_;refine⟨⟨_,rfl⟩,.inl ⟨pre,hinv.done ?_,hJs⟩⟩;have h1:=of_decide_eq_true hz;rw[HD.out]at h1⊢;rw[X0.out,zFc,if_pos (fun y hy=>h1 y (by simp[hy]))]
     | false=>
      have hno:zB7 (zs.drop p)=none:=by
       have h1:=of_decide_eq_false hz;rw[HD.out]at h1⊢;rw[X0.out]at h1⊢;rw[zFc,if_neg (fun h=>h1 (fun y hy=>by rcases List.mem_cons.1 hy with h'|h';exact h';exact h y h'))]
      gi_wp2
      refine wpIn_goto ⟨rfl,_,pre,?_,rfl,hJs,hinv.bad hno,Nat.le_trans hinv.1 hp⟩;rfl
    ·have t0:(x==0)=false:=by simp[x0]
     have X0:=zAc x0;clear x0;by_cases x1:x=1
     ·have t1:(x==1)=true:=by simp[x1]
      subst x1;have hT0:((zs.drop p).take 1)[0]?.getD 0=1:=by rw[HD.out];rfl
      have hBt:Mt.By ((zs.drop p).take 1):=(hB.drop p).take 1;have hTw:((zs.drop p).take 1)[0]?.getD 0≠1→2≤((zs.drop p).take 1).length:=fun h=>(h hT0).elim;have hRt':∀v,Rd n₀ wr v ((zs.drop p).take 1)→Rd wr.heap.size wr v ((zs.drop p).take 1):=fun _ h=>h.mono hn0';have hn1':n₁≤wr.heap.size:=Nat.le_trans hn1 hnx.1.size;gi_wp2
      refine⟨trivial,?_⟩;have hRt:=HRR.out.take 1 (by omega);refine(callsIn_wide.2 (zEo _ ((zs.drop p).take 1) wr (hRt' _ hRt) hBt (by simp;omega) (by simp;omega) hTw)).mono ?_;rw[hT0];rintro e V ⟨hbV,s,rfl,hOs⟩;rw[if_pos rfl]at hOs;obtain⟨fn,tmps,assign,body,hy,hR⟩:=hY pre (.agg #[.int .u8 1,s],some (1,[])) V (hJ _ _ _ hJs hbV) ⟨Nat.le_trans hinv.1 hp,s,rfl,hOs.mono hn1'⟩;dsimp only[encI,Option.isSome]at hy
      have hbx2:V.cell? ⟨Bs,0,none⟩=some (.slice (some ⟨b,off,none⟩) zs.length cap):=(hbV.cell (p:=⟨Bs,0,none⟩) hBl').trans hbx;gi_wp2
      refine hR.mono ?_;rintro e W3 (⟨rfl,hJ3,hk3⟩|⟨rfl,hJx3⟩)
      ·gi_wp2
       go_roundw
       case rel=>exact⟨p+1,_,by omega,by go_num,hinv.next (by omega) (by rw[HD.out,zMp]),hJ3,hnx.trans ((KB.later hn0' hBl' hbV).trans hk3)⟩
       case measure=>simp[intOf];omega
      ·gi_wp2
       rw[zDw];refine bodyPost_ret (results_none rfl _ _ _) rfl ?_;exact⟨⟨_,rfl⟩,.inr ⟨_,fun hl=>(zPz hl).elim,hJx3⟩⟩
     ·have t1:(x==1)=false:=by simp[x1]
      have X1:=zAc x1;clear x1;by_cases hs2:zs.length-p<2
      ·have hno:zB7 (zs.drop p)=none:=by
        rw[HD.out,List.drop_of_length_le (by omega)];exact zPu x X0.out X1.out
       have t2:((zs.length-p:Nat):Int)<2:=by omega
       gi_wp2
       refine wpIn_goto ⟨rfl,_,pre,?_,rfl,hJs,hinv.bad hno,Nat.le_trans hinv.1 hp⟩;rfl
      ·have hp1:p+1<zs.length:=by omega
       have t2:¬((zs.length-p:Nat):Int)<2:=by omega
       have c1:=HC1.out hp1;have b1:=hB.at (p+1);have HD2:=zAc (zP0 zs (p+1) hp1);have i1:(1:Int)<((zs.length-p:Nat):Int):=by omega
       clear HC1;generalize hz:zs[p+1]?.getD 0=z at c1 b1 HD2;have HZ:=zAc hz;clear hz;by_cases hz2:z<2
       ·have hno:zB7 (zs.drop p)=none:=by rw[HD.out,HD2.out];exact zGc x z _ X0.out X1.out (.inl hz2)
        gi_wp2
        refine wpIn_goto ⟨rfl,_,pre,?_,rfl,hJs,hinv.bad hno,Nat.le_trans hinv.1 hp⟩;rfl
       ·by_cases hzl:((zs.length-p:Nat):Int)<z
        ·have hno:zB7 (zs.drop p)=none:=by rw[HD.out,HD2.out];exact zGc x z _ X0.out X1.out (.inr (by simp;omega))
         gi_wp2
         refine wpIn_goto ⟨rfl,_,pre,?_,rfl,hJs,hinv.bad hno,Nat.le_trans hinv.1 hp⟩;rfl
        ·obtain ⟨m,rfl⟩:=Int.eq_ofNat_of_zero_le b1.1
         have hm2:2≤m:=by omega
         have hml:p+m≤zs.length:=by omega
         have hT0:((zs.drop p).take m)[0]?.getD 0=x:=by rw[HD.out];cases m with|zero=>omega|succ k=>rfl
         have hBt:Mt.By ((zs.drop p).take m):=(hB.drop p).take m;have hTw:((zs.drop p).take m)[0]?.getD 0≠1→2≤((zs.drop p).take m).length:=fun _=>by simp;omega
         have hRt':∀v,Rd n₀ wr v ((zs.drop p).take m)→Rd wr.heap.size wr v ((zs.drop p).take m):=fun _ h=>h.mono hn0';have hn1':n₁≤wr.heap.size:=Nat.le_trans hn1 hnx.1.size
         have hni:zB7 (zs.drop p)=(zB7 (zs.drop (p+m))).map ((x,((zs.drop p).take m).drop 2):: ·):=by
          have e1:zs.drop p=x::(m:Int)::zs.drop (p+2):=by rw[HD.out,HD2.out]
          have h9:=zIf x (m:Int) (zs.drop (p+2)) X0.out X1.out (by omega) (by simp;omega);rw[←e1]at h9;rw[h9,List.drop_drop]
          have e2:((zs.drop p).take m).drop 2=(zs.drop (p+2)).take ((m:Int).toNat-2):=by
           rw[List.drop_take,List.drop_drop];simp
          rw[e2,show p+2+((m:Int).toNat-2)=p+m from by omega]
         gi_wp2
         refine⟨trivial,?_⟩;have hRt:=HRR.out.take m (by omega);refine(callsIn_wide.2 (zEo _ ((zs.drop p).take m) wr (hRt' _ hRt) hBt (by simp;omega) (by simp;omega) hTw)).mono ?_;rw[hT0];rintro e V ⟨hbV,s,rfl,hOs⟩;rw[if_neg X1.out]at hOs;obtain⟨fn,tmps,assign,body,hy,hR⟩:=hY pre (.agg #[.int .u8 x,s],some (x,((zs.drop p).take m).drop 2)) V (hJ _ _ _ hJs hbV) ⟨Nat.le_trans hinv.1 hp,s,rfl,hOs.mono hn1'⟩;dsimp only[encI,Option.isSome]at hy
         have hbx2:V.cell? ⟨Bs,0,none⟩=some (.slice (some ⟨b,off,none⟩) zs.length cap):=(hbV.cell (p:=⟨Bs,0,none⟩) hBl').trans hbx;gi_wp2
         refine hR.mono ?_;rintro e W3 (⟨rfl,hJ3,hk3⟩|⟨rfl,hJx3⟩)
         ·gi_wp2
          go_roundw
          case rel=>exact⟨p+m,_,by omega,by go_num,hinv.next (by omega) hni,hJ3,hnx.trans ((KB.later hn0' hBl' hbV).trans hk3)⟩
          case measure=>simp[intOf];omega
         ·gi_wp2
          rw[zDw];refine bodyPost_ret (results_none rfl _ _ _) rfl ?_;exact⟨⟨_,rfl⟩,.inr ⟨_,fun hl=>(zPz hl).elim,hJx3⟩⟩
   ·obtain rfl:p=zs.length:=by omega
    clear hcx;gi_wp2
    rw[zDw];refine bodyPost_ret (results_none rfl _ _ _) rfl ?_;exact⟨⟨_,rfl⟩,.inl ⟨pre,hinv.done (by rw[List.drop_of_length_le (Nat.le_refl _)];rfl),hJs⟩⟩
 ·obtain ⟨tl,pre,htl,rfl,hJs,hno,hpl⟩:=hJ1
  obtain⟨v0,v1,v2,v3,v4,v5,v6,v7,v8,v9,v10,v11,v12,v13,v14,v15,v16,v17,v18,v19,v20,v21,v22,v23,v24,v25,v26,v27,v28,v29,v30,v31,v32,v33,v34,v35,v36,v37,v38,v39,v40,v41,v42,v43,v44,v45,v46,v47,v48,rfl⟩:=list49 htl;have HNO:=zAc hno;clear hno htl;obtain⟨fn,tmps,assign,body,hy,hR⟩:=hY pre (.agg #[.int .u8 0,.slice none 0 0],none) w hJs ⟨hpl,rfl⟩;dsimp only[encI,Option.isSome]at hy
  gi_wp2
  refine hR.mono ?_;rintro e W3 (⟨rfl,hJ3,hk3⟩|⟨rfl,hJx3⟩)
  ·gi_wp2
   rw[zFf];go_end0
   exact⟨⟨_,rfl⟩,.inl ⟨_,.inr ⟨HNO.out,_,_,rfl⟩,hJ3⟩⟩
  ·gi_wp2
   rw[zFf];go_end0
   exact⟨⟨_,rfl⟩,.inr ⟨_,fun _=>HNO.out,hJx3⟩⟩
def zP1 (os:List Opt) (ss:List Value):List Value:=(os.zip ss).flatMap fun p=>[.int .u8 p.1.1,p.2]
theorem zP2:∀(os:List Opt) (ss:List Value),ss.length=os.length→∀j,j<os.length→(zP1 os ss)[j*2]? =some (.int .u8 (os[j]?.getD (0,[])).1)∧(zP1 os ss)[j*2+1]? =some (ss[j]?.getD undef)
 |o::os,s::ss,_,0,_=>by simp[zP1]
 |o::os,s::ss,h,j+1,hj=>by
  have ih:=zP2 os ss (by simpa using h) j (by simpa using hj);unfold zP1 at ih⊢;simp only[List.zip_cons_cons,List.flatMap_cons,List.cons_append,List.nil_append];rw[show (j+1)*2=j*2+1+1 from by omega];simpa using ih
theorem zP3(os:List Opt)(ss:List Value)(h:ss.length=os.length)(o:Opt)(s:Value):zP1 (os++[o]) (ss++[s])=zP1 os ss++[.int .u8 o.1,s]:=by
 unfold zP1;rw[List.zip_append h.symm];simp
def OwO (base:Nat) (W:World) (v:Value) (os:List Opt):Prop:=
 ∃ss,ss.length=os.length∧W.ownsRow base 244 2 v os.length (zP1 os ss)∧∀j,j<os.length→Ow base W (ss[j]?.getD undef) (os[j]?.getD (0,[])).2
def CK (A B:World):Prop:=A.heap.size≤B.heap.size∧∀(k:Nat) (o:Obj),A.heap[k]? =some o→o.isCells=true→B.heap[k]? =some o
theorem CK.of {A B:World} (h:Later A B):CK A B:=⟨h.size,fun k o ho _=>zAb h ho⟩
theorem CK.row {A B:World} {row:Option Nat} (hg:A.grownBy B row)(hr:∀r,row=some r→∃o:Obj,A.heap[r]? =some o∧o.isCells=false):CK A B:=
 ⟨hg.size,fun k o ho hc=>(hg.block k (eS ho) (fun e=>by obtain⟨o',h1,h2⟩:=hr k e.symm;rw[ho]at h1;cases h1;rw[hc]at h2;cases h2)).trans ho⟩
theorem CK.put {A:World} {l:Nat} {o o':Obj} (h:A.heap[l]? =some o)(hc:o.isCells=false):CK A (A.putObj l o'):=
 CK.row (grownBy_putObj' A l o') (fun r e=>by cases e;exact⟨o,h,hc⟩)
theorem Ow.ck {base:Nat} {A B:World} {v:Value} {zs:List Int} (h:Ow base A v zs)(c:CK A B):Ow base B v zs:=by
 rcases h with h|⟨g,cap,cur,h1,h2,h3,h4,h5,h6,h7⟩
 ·exact .inl h
 ·exact .inr ⟨g,cap,cur,h1,h2,h3,h4,h5,c.2 g _ h6 rfl,h7⟩
theorem zGf {base:Nat} {e:TypeId} {size:Nat} {A B:World} {v:Value} {n:Nat} {xs:List Value} (h:A.ownsRow base e size v n xs)(c:CK A B):B.ownsRow base e size v n xs:=by
 refine⟨h.1,h.2.imp id ?_⟩;rintro⟨g,cap,cur,h1,h2,h3,r⟩;exact⟨g,cap,cur,h1,h2,c.2 g _ h3 rfl,r⟩
theorem OwO.ck {base:Nat} {A B:World} {v:Value} {os:List Opt} (h:OwO base A v os)(c:CK A B):OwO base B v os:=by
 obtain⟨ss,h1,h2,h3⟩:=h;exact⟨ss,h1,zGf h2 c,fun j hj=>(h3 j hj).ck c⟩
theorem OwO.nil(base:Nat)(W:World):OwO base W (.slice none 0 0) []:=⟨[],rfl,World.ownsRow_nil _ _ _ _,fun j h=>by simp at h⟩
theorem OwO.mono {base base':Nat} {W:World} {v:Value} {os:List Opt} (h:OwO base W v os)(hb:base'≤base):OwO base' W v os:=by
 obtain⟨ss,h1,h2,h3⟩:=h;refine⟨ss,h1,⟨h2.1,h2.2.imp id ?_⟩,fun j hj=>(h3 j hj).mono hb⟩;rintro⟨g,cap,cur,h1,h2,r⟩;exact⟨g,cap,cur,h1,by omega,r⟩
theorem OwO.but {base:Nat} {E:Nat→Prop} {A B:World} {v:Value} {os:List Opt} (h:OwO base A v os)(hb:But E A B)(hE:∀b,base≤b→¬E b):OwO base B v os:=by
 obtain⟨ss,h1,h2,h3⟩:=h;refine⟨ss,h1,⟨h2.1,h2.2.imp id ?_⟩,fun j hj=>(h3 j hj).but hb hE⟩;rintro⟨g,cap,cur,h1,h2,h3,r⟩;exact⟨g,cap,cur,h1,h2,(hb.block g (eS h3) (hE g h2)).trans h3,r⟩
theorem OwO.rd {base:Nat} {W:World} {v:Value} {os:List Opt} (h:OwO base W v os):RdO W.heap.size W v os:=by
 obtain⟨ss,h1,h2,h3⟩:=h;rcases h2.2 with⟨rfl,hn⟩|⟨g,cap,cur,rfl,hg,hh,hl,hm,hs,hc⟩
 ·exact .inl ⟨none,0,rfl,List.eq_nil_of_length_eq_zero hn,by omega,fun _=>rfl⟩
 ·by_cases h0:os=[]
  ·subst h0
   exact .inl ⟨_,cap,rfl,rfl,by simpa[maxLen]using hm,fun h=>by cases h⟩
  ·refine .inr ⟨g,0,cap,rfl,h0,hl,by simpa[maxLen]using hm,(eS hh),fun j hj=> ?_⟩
   have hat:=zP2 os ss h1 j hj
   have hk:∀i,i<os.length*2→W.cell? ⟨g,0+i,none⟩=(zP1 os ss)[i]? :=fun i hi=>by
    rw[Nat.zero_add,zAa hh i,←hc,List.getElem?_take_of_lt hi];simp
   refine⟨ss[j]?.getD undef,by rw[hk _ (by omega)];exact hat.1,by rw[Nat.add_assoc,hk _ (by omega)];exact hat.2,(h3 j hj).rd⟩
theorem OwO.slice {base:Nat} {W:World} {v:Value} {os:List Opt} (h:OwO base W v os):∃a cap,v= .slice a os.length cap∧os.length≤cap∧cap≤9223372036854775807:=h.rd.slice
attribute [local go_sem] Oper.semAt_some
theorem zP4(n:Nat)(l Bs:Nat)(a:Option Addr)(cap:Nat)(J:List It→World→Prop)(W:World)(hBs:W.cell? ⟨Bs,0,none⟩=some (.slice a 0 cap))(h0:J [] W):
  CallsIn Fence.wide n Tryz.prog 178 #[.func (.yield l) #[] #[],.pointer (some ⟨Bs,0,none⟩)] W fun e W'=>(∃v,e= .returned v)∧J [] W':=by
 refine callsIn_of_wp Tryz.func178 rfl trivial ?_ rfl;simp only[Tryz.ntmps178,List.size_toArray,List.length_cons,List.length_nil,Nat.reduceAdd,Nat.reduceSub,Array.replicate_succ,Array.replicate_zero,List.push_toArray,List.append_toArray,List.nil_append,List.cons_append];refine wpIn_wide.2 (wp_scope_jumps 0 (fun a w=>False) (fun _ _=>0) rfl ((wpIn_wide (n:=n)).1 ?_) (fun a w hJ1=>hJ1.elim));gi_wp2
 gi_loopw [3] (fun i wr=>i= .int .i64 0∧J [] wr∧wr.cell? ⟨Bs,0,none⟩=some (.slice a 0 cap)) (fun _ _=>0)
 case atStart=>exact⟨rfl,h0,hBs⟩
 case round=>
  obtain⟨rfl,hJs,hbx⟩:=hrel;gi_wp2
  rw[zDw];refine bodyPost_ret (results_none rfl _ _ _) rfl ?_;exact⟨⟨_,rfl⟩,hJs⟩
theorem walk_in(n:Nat)(a:Option Addr)(len cap:Nat)(w:World):
  CallsIn Fence.wide n Tryz.prog 133 #[.slice a len cap] w fun e w'=>e= .returned (.func (.func 178) #[] #[.pointer (some ⟨w.heap.size,0,none⟩)])∧w'=w.alloc (.cells #[.slice a len cap] 26):=by
 refine callsIn_of_wp Tryz.func133 rfl trivial ?_ rfl;simp only[Tryz.ntmps133,List.size_toArray,List.length_cons,List.length_nil,Nat.reduceAdd,Nat.reduceSub,Array.replicate_succ,Array.replicate_zero,List.push_toArray,List.append_toArray,List.nil_append,List.cons_append];gi_wp2
 go_ret
 exact⟨rfl,rfl⟩
theorem walk_gen(n:Nat)(hn:1≤n)(Bs n₀ n₁:Nat)(sv:Value)(zs:List Int)(hB:Mt.By zs)(hl:zs.length≤40)(w:World)(hBl:Bs<w.heap.size)(hn₀:n₀≤w.heap.size)(hn₁:n₁≤w.heap.size)
  (hc:w.cell? ⟨Bs,0,none⟩=some sv)(hI:Rd n₀ w sv zs):
  GenX Fence.wide n Tryz.prog 178 #[.pointer (some ⟨Bs,0,none⟩)] encI (KB n₀ Bs) (XI n₁ zs.length) (SI zs) (SpI zs) w:=fun l J Jx W hW hJ hY h0=>by
 have hc':=(hW.cell (p:=⟨Bs,0,none⟩) hBl).trans hc;rcases hI.below (hW.mono hn₀)with⟨a,cap,rfl,rfl,_,_⟩|⟨b,off,cap,rfl,_,hl',hm,hb,hcs⟩
 ·exact (zP4 n l Bs a cap J W hc' h0).mono fun e W' ⟨he,hj⟩=>⟨he,.inl ⟨[],.inl ⟨[],rfl,rfl⟩,hj⟩⟩
 ·exact walk1_in n hn l Bs n₀ n₁ b off cap zs hB hl' hm (by omega) hb J Jx hJ hY W (Nat.le_trans hn₁ hW.size) hc' (Nat.lt_of_lt_of_le hBl hW.size) (Nat.le_trans hn₀ hW.size) hcs h0
theorem info_opt:(Tryz.prog.info? 244).map (fun i=>(i.zero,i.size,i.bytes))=some (some (.agg #[.int .u8 0,.slice none 0 0]),2,32):=by kernel_rfl
theorem zBb {W:World} {n m j:Nat} {v:Value} {o:Obj} (h:W.heap[n]? =some o)(hne:n≠m):(W.setCell ⟨m,j,none⟩ v).heap[n]? =some o:=(Below.heap_setCell W ⟨m,j,none⟩ v n hne).trans h
theorem KeepsFrom.set2(B:Nat)(W:World)(p q:Addr)(u v:Value):KeepsFrom B W ((W.setCell p u).setCell q v):=((KeepsOthers.setCell W p u).from B).trans ((KeepsOthers.setCell _ q v).from B)
def PI (rb base:Nat) (pre:List It) (W:World):Prop:=
 (∃os v,pre.map (·.2)=os.map some∧W.heap[rb+1+1]? =some (.cells #[v] 30 (0,0))∧OwO base W v os)∧W.heap[rb]? =some (.cells #[.slice none 0 0] 30 (0,0))∧W.heap[rb+1]? =some (.cells #[.bool false] 4 (0,0))
theorem PI.ck {rb base:Nat} {pre:List It} {A B:World} (h:PI rb base pre A)(c:CK A B):PI rb base pre B:=by
 obtain⟨⟨os,v,h1,h2,h3⟩,h4,h5⟩:=h;exact⟨⟨os,v,h1,c.2 _ _ h2 rfl,h3.ck c⟩,c.2 _ _ h4 rfl,c.2 _ _ h5 rfl⟩
def PX (rb:Nat) (pre:List It) (W:World):Prop:=(∃l v,pre=l++[(v,none)])∧W.heap[rb]? =some (.cells #[.slice none 0 0] 30 (0,0))∧W.heap[rb+1]? =some (.cells #[.bool false] 4 (0,0))
theorem PX.ck {rb:Nat} {pre:List It} {A B:World} (h:PX rb pre A)(c:CK A B):PX rb pre B:=⟨h.1,c.2 _ _ h.2.1 rfl,c.2 _ _ h.2.2 rfl⟩
theorem XI.ck {n₁ N:Nat} {pre:List It} {x:It} {A B:World} (h:XI n₁ N pre x A)(c:CK A B):XI n₁ N pre x B:=by
 obtain⟨v,o⟩:=x;cases o with
 |none=>exact h
 |some o=>
  obtain⟨h0,s,h1,h2⟩:=h;exact⟨h0,s,h1,h2.ck c⟩
theorem zFg(sv:Value)(zs:List Int)(hB:Mt.By zs)(hl:zs.length≤40)(w:World)(hI:Rd w.heap.size w sv zs):
  Calls Tryz.prog 69 #[sv] w fun e w'=>Below w.heap.size w w'∧((zB7 zs=none∧e= .returned (.tuple #[.slice none 0 0,.bool false]))∨∃os v,zB7 zs=some os∧e= .returned (.tuple #[v,.bool true])∧OwO w.heap.size w' v os):=by
 obtain⟨a,cap,rfl,_⟩:=hI.slice;refine(callsIn_wide (n:=5)).1 ?_;refine callsIn_of_wp_marks Tryz.func69 rfl trivial ?_ rfl;simp only[Tryz.ntmps69,List.size_toArray,List.length_cons,List.length_nil,Nat.reduceAdd,Nat.reduceSub,Array.replicate_succ,Array.replicate_zero,List.push_toArray,List.append_toArray,List.nil_append,List.cons_append];have hb4:Below w.heap.size w ((((w.alloc (.cells #[.slice none 0 0] 30)).alloc (.cells #[.bool false] 4)).alloc (.cells #[.slice none 0 0] 30)).alloc (.cells #[.slice a zs.length cap] 26)):=(((bA _ _).alloc (by simp) _).alloc (by simp<;>omega) _).alloc (by simp<;>omega) _;have c0:((((w.alloc (.cells #[.slice none 0 0] 30)).alloc (.cells #[.bool false] 4)).alloc (.cells #[.slice none 0 0] 30)).alloc (.cells #[.slice a zs.length cap] 26)).heap[w.heap.size]? =some (.cells #[.slice none 0 0] 30):=(Below.heap_alloc _ _ _ (by simp<;>omega)).trans ((Below.heap_alloc _ _ _ (by simp<;>omega)).trans ((Below.heap_alloc _ _ _ (by simp)).trans (heap_alloc_new w _)))
 have c1:((((w.alloc (.cells #[.slice none 0 0] 30)).alloc (.cells #[.bool false] 4)).alloc (.cells #[.slice none 0 0] 30)).alloc (.cells #[.slice a zs.length cap] 26)).heap[w.heap.size+1]? =some (.cells #[.bool false] 4):=by
  have:=heap_alloc_new (w.alloc (.cells #[.slice none 0 0] 30)) (.cells #[.bool false] 4);rw[World.size_alloc]at this;exact(Below.heap_alloc _ _ _ (by simp<;>omega)).trans ((Below.heap_alloc _ _ _ (by simp)).trans this)
 have c2:((((w.alloc (.cells #[.slice none 0 0] 30)).alloc (.cells #[.bool false] 4)).alloc (.cells #[.slice none 0 0] 30)).alloc (.cells #[.slice a zs.length cap] 26)).heap[w.heap.size+1+1]? =some (.cells #[.slice none 0 0] 30):=by
  have:=heap_alloc_new ((w.alloc (.cells #[.slice none 0 0] 30)).alloc (.cells #[.bool false] 4)) (.cells #[.slice none 0 0] 30);simp only[World.size_alloc]at this;exact(Below.heap_alloc _ _ _ (by simp)).trans this
 have c3:((((w.alloc (.cells #[.slice none 0 0] 30)).alloc (.cells #[.bool false] 4)).alloc (.cells #[.slice none 0 0] 30)).alloc (.cells #[.slice a zs.length cap] 26)).heap[w.heap.size+1+1+1]? =some (.cells #[.slice a zs.length cap] 26):=by
  have:=heap_alloc_new (((w.alloc (.cells #[.slice none 0 0] 30)).alloc (.cells #[.bool false] 4)).alloc (.cells #[.slice none 0 0] 30)) (.cells #[.slice a zs.length cap] 26);simpa only[World.size_alloc]using this
 have hs4:((((w.alloc (.cells #[.slice none 0 0] 30)).alloc (.cells #[.bool false] 4)).alloc (.cells #[.slice none 0 0] 30)).alloc (.cells #[.slice a zs.length cap] 26)).heap.size=w.heap.size+1+1+1+1:=by simp
 have C0:=zAc c0;have C1:=zAc c1;have C2:=zAc c2;have C3:=zAc c3;have HS4:=zAc hs4;clear c0 c1 c2 c3 hs4;gi_wp2_with (refine⟨trivial,?_⟩;gi_at_call 133;refine(walk_in _ _ _ _ _).mono ?_;rintro e w' ⟨rfl,rfl⟩)
 generalize (((w.alloc (.cells #[.slice none 0 0] 30)).alloc (.cells #[.bool false] 4)).alloc (.cells #[.slice none 0 0] 30)).alloc (.cells #[.slice a zs.length cap] 26)=w4 at*;have hs4:w4.heap.size=w.heap.size+1+1+1+1:=HS4.out
 refine zBt (w:=w4) rfl (by omega) (gf:=178) (lb:=#[.pointer (some ⟨w.heap.size+1+1+1,0,none⟩)]) rfl trivial (enters_of Tryz.func178 (by kernel_rfl) rfl)
  (walk_gen 4 (by omega) (w.heap.size+1+1+1) w.heap.size (w.heap.size+1+1+1+1) _ zs hB hl w4 (by omega) (by omega) (by omega) (zAa C3.out 0) (hI.below hb4))
  KB.trans (kb_b (by omega) (by omega)) (fun hA hL=>KB.later (by omega) (by omega) hL) (fun _ _ _ _ h l=>h.ck (CK.of l)) (fun _ _ _ _ _ _ _ ho hc h=>h.ck (CK.put ho hc)) (fun _=>rfl)
  (fun pre W=>PI w.heap.size (w.heap.size+1+1+1+1) pre W∧Below w.heap.size w W) (fun pre W=>PX w.heap.size pre W∧Below w.heap.size w W)
  (OwnFrom.and (fun s A B row hs hg hr=>hs.ck (CK.row hg (fun r e=>(hr r e).2))) (ownFrom_below (Nat.le_refl _) (by omega)))
  (fun s A B h l=>⟨h.1.ck (CK.of l),h.2.trans (l.mono h.2.size)⟩)
  (OwnFrom.and (fun s A B row hs hg hr=>hs.ck (CK.row hg (fun r e=>(hr r e).2))) (ownFrom_below (Nat.le_refl _) (by omega)))
  ⟨⟨⟨[],.slice none 0 0,rfl,C2.out,OwO.nil _ _⟩,C0.out,C1.out⟩,hb4⟩
  (fun x a' W=>∃(bx:Nat) (k:Int) (sa:Option Addr) (sl sc:Nat),w.heap.size+1+1+1+1≤bx∧x.1= .agg #[.int .u8 k,.slice sa sl sc]∧W.heap[bx]? =some (.cells #[.int .u8 k,.slice sa sl sc] 244 (0,0))∧a'= { tmps:=#[.slice a zs.length cap,undef,.pointer (some ⟨w.heap.size,0,none⟩),.pointer (some ⟨w.heap.size+1,0,none⟩),.pointer (some ⟨w.heap.size+1+1,0,none⟩),.pointer (some ⟨bx,0,none⟩),.bool x.2.isSome,.slice a zs.length cap,.func (.func 178) #[] #[.pointer (some ⟨w.heap.size+1+1+1,0,none⟩)],x.1,.bool x.2.isSome,undef,undef,undef,undef,undef,undef,undef],defers:=[] })
  (fun x a' W l o o' hl ho hc h=>by obtain⟨bx,k,sa,sl,sc,h1,h2,h3,h4⟩:=h;exact⟨bx,k,sa,sl,sc,h1,h2,(CK.put ho hc).2 _ _ h3 rfl,h4⟩) ?assign ?body ?done ?stop
 case assign=>
  rintro l pre x W K hsz _ hX hK
  obtain⟨k,sa,sl,sc,hxv⟩:∃(k:Int) (sa:Option Addr) (sl sc:Nat),x.1= .agg #[.int .u8 k,.slice sa sl sc]:=by
   obtain⟨v,o⟩:=x;cases o with
   |none=>exact⟨_,_,_,_,hX.2⟩
   |some o=>
    obtain⟨_,s,h1,h2⟩:=hX;obtain⟨sa,sc,rfl,_,_⟩:=h2.slice;exact⟨_,_,_,_,h1⟩
  obtain⟨v,o⟩:=x;dsimp only at hxv
  subst hxv;dsimp only[encI]
  gi_wp2
  refine hK _ _ ?_ ⟨W.heap.size,k,sa,sl,sc,by omega,rfl,heap_alloc_new _ _,rfl⟩;exact(Below.refl _ W).alloc (Nat.le_refl _) _
 case body=>
  rintro l pre ⟨v,o⟩ a' W ⟨⟨⟨os,vr,hos,hob,hOw⟩,hr0,hr1⟩,hbW⟩ hX ⟨bx,k,sa,sl,sc,hbx,hxv,hbo,rfl⟩;dsimp only at hxv
  subst hxv;have hbsz:=hbW.size;have Kb:=zAa hbo;have Kv:=zAa hob;have Fv:=zAd hob;have hobl:=(eS hob);have hbl:=(eS hbo);cases o with
  |none=>
   have K0:=zAa hr0;have K1:=zAa hr1;have F0:=zAd hr0;have F1:=zAd hr1;dsimp only[Option.isSome]
   gi_wp2
   refine⟨KeepsFrom.set2 _ _ _ _ _ _,⟨⟨_,_,rfl⟩,?_,?_⟩,?_⟩
   ·exact (zBb (zAh hr0 0 _) (by simp))
   ·exact (zAh (zBb hr1 (by simp)) 0 _)
   ·exact (hbW.setCell (p:=⟨w.heap.size,0,none⟩) (Nat.le_refl _) _).setCell (p:=⟨w.heap.size+1,0,none⟩) (Nat.le_succ _) _
  | some o=>
   obtain⟨hpl,s,hsv,hOs⟩:=hX;dsimp only at hsv hOs
   obtain⟨kd,dt⟩:=o
   simp at hsv
   obtain⟨rfl,rfl⟩:=hsv;dsimp only at hOs
   dsimp only[Option.isSome]
   obtain⟨ss,hsl,hrow,hdat⟩:=hOw;obtain⟨i0,hi,hz0,hz1,hz2⟩:=info_parts info_opt;have hlo:os.length≤40:=by have:=congrArg List.length hos;simp at this;omega
   have hcka:CK W (W.alloc (.cells #[.int .u8 k,.slice sa sl sc] 244)):=CK.of ((Below.refl _ W).alloc (Nat.le_refl _) _);have hrowA:=zGf hrow hcka
   have hnews:∀j u,[Value.int .u8 k,.slice sa sl sc][j]? =some u→(W.alloc (.cells #[.int .u8 k,.slice sa sl sc] 244)).cell? ((⟨W.heap.size,0,none⟩:Addr).add j)=some u:=fun j u hj=>by
    rw[show (⟨W.heap.size,0,none⟩:Addr).add j=⟨W.heap.size,j,none⟩from by unfold Addr.add;split<;>simp_all,zAa (heap_alloc_new W _) j];simpa using hj
   have hbl2:∀r,vr.ownBlock=some r→∃cur,(W.alloc (.cells #[.int .u8 k,.slice sa sl sc] 244)).heap[r]? =some (.cells cur 244 (0,0))∧w.heap.size+1+1+1+1≤r:=fun r hr=>by
    rcases hrowA.2 with⟨rfl,_⟩|⟨g,cp,cur,rfl,hg,hh,_⟩
    ·cases hr
    ·cases hr
     exact⟨cur,hh,hg⟩
   have HNW:=zAc hnews;have HRA:=zAc hrowA;have HB2:=zAc hbl2;clear hnews hrowA hbl2 hrow;gi_wp2_with (gi_at_builtin;refine wpListIn_append_own _ rfl (.tmp 13) (.tmp 15) 30 rfl (w.heap.size+1+1+1+1) 244 i0 (.agg #[.int .u8 0,.slice none 0 0]) 2 32 Tryz.underlying30 hi hz0 hz1 hz2 rfl (by decide) _ os.length (zP1 os ss) rfl HRA.out ⟨W.heap.size,0,none⟩ 1 1 [.int .u8 k,.slice sa sl sc] rfl rfl HNW.out (by intro u hu;simp at hu;rcases hu with rfl|rfl<;>rfl) (by simp only[maxLen];omega) (by omega) (by simp;omega) ?_;intro v2 W2 hrow2 hg2 hnn;obtain⟨g2,cp2,rfl⟩:=ownsRow_succ hrow2;have hob2:=(hg2.block (w.heap.size+1+1) (by simp;omega) (fun e=>by obtain⟨_,_,h⟩:=HB2.out _ e.symm;omega)).trans ((Below.heap_alloc W _ (w.heap.size+1+1) hobl).trans hob);have Kv2:=zAa hob2;have Fv2:=zAd hob2)
   have hkeep:∀i o,W.heap[i]? =some o→some i≠vr.ownBlock→i≠w.heap.size+1+1→(W2.setCell ⟨w.heap.size+1+1,0,none⟩ (.slice (some ⟨g2,0,none⟩) (os.length+1) cp2)).heap[i]? =some o:=fun i o hi h1 h2=>
    zBb ((hg2.block i (by have:=(eS hi);simp;omega) h1).trans ((Below.heap_alloc W _ i (eS hi)).trans hi)) h2
   have hsz2:W.heap.size+1≤W2.heap.size:=by have:=hg2.size;simpa using this
   have hown2:(W2.setCell ⟨w.heap.size+1+1,0,none⟩ (.slice (some ⟨g2,0,none⟩) (os.length+1) cp2)).ownsRow (w.heap.size+1+1+1+1) 244 2 (.slice (some ⟨g2,0,none⟩) (os.length+1) cp2) (os.length+1) (zP1 os ss++[.int .u8 k,.slice sa sl sc]):=by
    refine⟨hrow2.1,hrow2.2.imp id ?_⟩;rintro⟨g,cp,cur,e1,e2,e3,r⟩;exact⟨g,cp,cur,e1,e2,zBb e3 (by omega),r⟩
   have hdk:∀v zs',Ow (w.heap.size+1+1+1+1) W v zs'→Ow (w.heap.size+1+1+1+1) (W2.setCell ⟨w.heap.size+1+1,0,none⟩ (.slice (some ⟨g2,0,none⟩) (os.length+1) cp2)) v zs':=fun v zs' h=>by
    rcases h with h|⟨g,cp,cur,e1,e2,e3,e4,e5,e6,e7⟩
    ·exact .inl h
    ·refine .inr ⟨g,cp,cur,e1,e2,e3,e4,e5,hkeep g _ e6 (fun e=> ?_) (by omega),e7⟩
     obtain⟨c2,h2,_⟩:=HB2.out g e.symm;rw[Below.heap_alloc W _ g (eS e6),e6]at h2
     simp at h2
   have hbn:Below w.heap.size W (W2.setCell ⟨w.heap.size+1+1,0,none⟩ (.slice (some ⟨g2,0,none⟩) (os.length+1) cp2)):=⟨hg2.os,hg2.tape,hg2.output,by simp;omega,fun i hi=>by
    cases hh:W.heap[i]? with
    |none=>have:=Array.getElem?_eq_none_iff.1 hh;omega
    |some o=>exact hkeep i o hh (fun e=>by obtain⟨_,_,h⟩:=HB2.out _ e.symm;omega) (by omega)⟩
   refine⟨⟨by simp;omega,fun i o hi ho hc=>hkeep i o ho (fun e=> ?_) (by omega)⟩,⟨hbn,?_⟩,⟨⟨os++[(k,dt)],(.slice (some ⟨g2,0,none⟩) (os.length+1) cp2),by simp[hos],zAh hob2 0 _,ss++[.slice sa sl sc],by simp[hsl],?_,?_⟩,?_,?_⟩,hbW.trans hbn⟩
   ·obtain ⟨c2,h2,_⟩:=HB2.out i e.symm
    rw[Below.heap_alloc W _ i (eS ho),ho]at h2;cases h2
    cases hc
   ·cases hh:W.heap[w.heap.size+1+1+1]? with
    |none=>have:=Array.getElem?_eq_none_iff.1 hh;omega
    |some o=>exact hkeep _ o hh (fun e=>by obtain⟨_,_,h⟩:=HB2.out _ e.symm;omega) (by omega)
   ·rw[List.length_append,List.length_singleton,zP3 os ss hsl]
    exact hown2
   ·intro j hj
    simp at hj
    by_cases h:j<os.length
    ·rw[List.getElem?_append_left h,List.getElem?_append_left (by omega)]
     exact hdk _ _ (hdat j h)
    ·obtain rfl:j=os.length:=by omega
     rw[List.getElem?_append_right (Nat.le_refl _),List.getElem?_append_right (by omega),hsl];simpa using hdk _ _ hOs
   ·exact hkeep _ _ hr0 (fun e=>by obtain⟨_,_,h⟩:=HB2.out _ e.symm;omega) (by omega)
   ·exact hkeep _ _ hr1 (fun e=>by obtain⟨_,_,h⟩:=HB2.out _ e.symm;omega) (by omega)
 case done=>
  rintro D xs W hD hS ⟨⟨⟨os,v,h1,h2,h3⟩,h4,h5⟩,hbW⟩ hK;obtain⟨av,cv,rfl,_,_⟩:=h3.slice;have hbsz:=hbW.size
  have hopts:zB7 zs=some os:=by
   rcases hS with⟨os',e1,e2⟩|⟨_,l',v',rfl⟩
   ·rw[e1]
    congr 1
    rw[h1]at e2;have:=congrArg (List.filterMap id) e2;simpa[List.filterMap_map]using this.symm
   ·have:=congrArg List.getLast? h1
    cases hl:os.getLast? <;>simp[hl]at this
  have K2:=zAa h2;have K4:=zAa h4;have K5:=zAa h5;have F4:=zAd h4;have F5:=zAd h5;have HOP:=zAc hopts;clear hopts h1 hS;gi_wp2
  have r4:((W.setCell ⟨w.heap.size,0,none⟩ (.slice av os.length cv)).setCell ⟨w.heap.size+1,0,none⟩ (.bool true)).heap[w.heap.size]? =some (.cells #[.slice av os.length cv] 30 (0,0)):=zBb (zAh h4 0 _) (by simp);have r5:((W.setCell ⟨w.heap.size,0,none⟩ (.slice av os.length cv)).setCell ⟨w.heap.size+1,0,none⟩ (.bool true)).heap[w.heap.size+1]? =some (.cells #[.bool true] 4 (0,0)):=zAh (zBb h5 (by simp)) 0 _;have rD:((W.setCell ⟨w.heap.size,0,none⟩ (.slice av os.length cv)).setCell ⟨w.heap.size+1,0,none⟩ (.bool true)).heap[D]? =some (.deferred (some [])):=zBb (zBb hK (by omega)) (by omega);have hE:But (fun b=>b=w.heap.size∨b=w.heap.size+1) W ((W.setCell ⟨w.heap.size,0,none⟩ (.slice av os.length cv)).setCell ⟨w.heap.size+1,0,none⟩ (.bool true)):=((But.refl _ W).setCell (p:=⟨w.heap.size,0,none⟩) (.inl rfl) _).setCell (p:=⟨w.heap.size+1,0,none⟩) (.inr rfl) _;generalize (W.setCell ⟨w.heap.size,0,none⟩ (.slice av os.length cv)).setCell ⟨w.heap.size+1,0,none⟩ (.bool true)=V at*;have hbV:Below w.heap.size w V:=hbW.trans (hE.below hbW.size (fun k h e=>by omega));have hOV:=h3.but hE (fun b h e=>by omega);have q4:=(CK.put (o':= .deferred none) rD rfl).2 _ _ r4 rfl;have q5:=(CK.put (o':= .deferred none) rD rfl).2 _ _ r5 rfl;have Q4:=zAa q4;have Q5:=zAa q5;refine⟨by simp,.inl ⟨_,_,rfl,run_takeDeferred rD,?_⟩⟩
  exact⟨.tuple #[.slice av os.length cv,.bool true],by simp[results,Tryz.results69,go_sem,Q4,Q5],hbV.trans (belowK_b (w:=w) (Nat.le_refl _) V D _ _ (by omega) rD rfl rfl),.inr ⟨os,_,HOP.out,rfl,(hOV.ck (CK.put rD rfl)).mono (by omega)⟩⟩
 case stop=>
  rintro D pre W hD hSp ⟨⟨hl,h4,h5⟩,hbW⟩ hK;have hno:=hSp hl;have q4:=(CK.put (o':= .deferred none) hK rfl).2 _ _ h4 rfl;have q5:=(CK.put (o':= .deferred none) hK rfl).2 _ _ h5 rfl;have Q4:=zAa q4;have Q5:=zAa q5;gi_wp2
  refine⟨by simp,.inl ⟨_,_,rfl,run_takeDeferred hK,?_⟩⟩;exact⟨.tuple #[.slice none 0 0,.bool false],by simp[results,Tryz.results69,go_sem,Q4,Q5],hbW.trans (belowK_b (w:=w) (Nat.le_refl _) W D _ _ (by omega) hK rfl rfl),.inl ⟨hno,rfl⟩⟩
def thd (zs:List Int):Int:=zs[12]?.getD 0/16*4
def ptc (proto src dst:Int) (zs:List Int):Int:=if proto≠6 then 12 else if zs.length<20 then 3 else if thd zs<20∨zs[12]?.getD 0 % 16≠0 then 4 else if(zs.length:Int)<thd zs then 3 else if Mt.cks (psd src dst 6 zs.length++zs)≠0 then 5 else 0
theorem zKy(tos id ttl proto src dst:Int)(keep:Bool)(so sd:Value)(zs:List Int)(w:World)(hB:Mt.By zs)(hI:Rd w.heap.size w sd zs)(hl:12+zs.length≤140737488355328)(hsr:0≤src∧src≤4294967295)(hds:0≤dst∧dst≤4294967295):
  Calls Tryz.prog 68 #[.agg #[.int .u8 tos,.int .u16 id,.bool keep,.int .u8 ttl,.int .u8 proto,.int .u32 src,.int .u32 dst,so,sd]] w fun e w'=>Below w.heap.size w w'∧((ptc proto src dst zs≠0∧e= .returned (.tuple #[.int .i64 0,.int .i64 (ptc proto src dst zs)]))∨(ptc proto src dst zs=0∧e= .returned (.tuple #[.int .i64 (thd zs),.int .i64 0]))):=by
 obtain⟨ad,cd,rfl,hl1,hm1⟩:=hI.slice;have hb0:Below w.heap.size w (w.alloc (.cells #[.int .u8 tos,.int .u16 id,.bool keep,.int .u8 ttl,.int .u8 proto,.int .u32 src,.int .u32 dst,so,.slice ad zs.length cd] 40)):=bA _ _;by_cases c1:proto=6
 ·have t1:(proto !=6)=false:=by simp[c1]
  have C1:=zAc c1;clear c1;by_cases c2:zs.length<20
  ·have HF:Hid (ptc proto src dst zs=3):=by show _=_;unfold ptc;rw[if_neg (by simp[C1.out]),if_pos c2]
   have t2:(zs.length:Int)<20:=by omega
   clear c2;go_enter Tryz.func68,Tryz.ntmps68;go_wp2_with fail;exact bodyPost_ret (v:= .tuple #[.int .i64 0,.int .i64 3]) (by simp[results,Tryz.results68,go_sem]) rfl ⟨hb0,.inl ⟨by rw[HF.out];decide,by rw[HF.out]⟩⟩
  ·have t2:¬(zs.length:Int)<20:=by omega
   obtain⟨b,off,cap,e0,hlc,hmc,hbb,hcs⟩:=hI.cells (by omega)
   simp at e0
   obtain⟨rfl,rfl⟩:=e0;have d0:=(hb0.cell (p:=⟨b,off+12,none⟩) hbb).trans (hcs 12 (by omega));have b0:=hB.at 12;have i12:(12:Int)<zs.length:=by omega
   clear hcs;have HTH:Hid (thd zs=zs[12]?.getD 0/16*4):=rfl;have HC2:=zAc c2;generalize hx:zs[12]?.getD 0=x at d0 b0 HTH;have HX:=zAc hx;have hand:=and15 x b0;clear hx c2;by_cases c3:x/16*4<20
   ·have HF:Hid (ptc proto src dst zs=4):=by show _=_;unfold ptc;rw[if_neg (by simp[C1.out]),if_neg HC2.out,if_pos (.inl (by rw[HTH.out];exact c3))]
    go_enter Tryz.func68,Tryz.ntmps68;go_wp2_with fail;exact bodyPost_ret (v:= .tuple #[.int .i64 0,.int .i64 4]) (by simp[results,Tryz.results68,go_sem]) rfl ⟨hb0,.inl ⟨by rw[HF.out];decide,by rw[HF.out]⟩⟩
   ·by_cases c4:x % 16=0
    ·have t4:(x % 16 !=0)=false:=by simp[c4]
     by_cases c5:(zs.length:Int)<x/16*4
     ·have HF:Hid (ptc proto src dst zs=3):=by show _=_;unfold ptc;rw[if_neg (by simp[C1.out]),if_neg HC2.out,if_neg (by rw[HTH.out,HX.out];omega),if_pos (by rw[HTH.out];exact c5)]
      have C4:=zAc c4;clear c4;go_enter Tryz.func68,Tryz.ntmps68;go_wp2_with fail;exact bodyPost_ret (v:= .tuple #[.int .i64 0,.int .i64 3]) (by simp[results,Tryz.results68,go_sem]) rfl ⟨hb0,.inl ⟨by rw[HF.out];decide,by rw[HF.out]⟩⟩
     ·have C4:=zAc c4
      clear c4;have hBs:=(zId src dst 6 zs.length hsr hds (by omega)).append hB;have hln:(psd src dst 6 zs.length++zs).length=12+zs.length:=by rw[List.length_append,zBk]
      have hBS:=zAc hBs;have HLN:=zAc hln;clear hBs hln;go_enter Tryz.func68,Tryz.ntmps68;go_wp2_with fail;rw[C1.out];refine(zF9 tos id ttl 6 src dst keep _ _ zs _ ((hI.below (by rw[C1.out]at hb0;exact hb0)).mono (by simp)) hl hsr hds).mono ?_;rintro e w3 ⟨a3,c3',rfl,hO3,hb3⟩;rw[C1.out]at hb0;generalize hgW:w.alloc (.cells #[.int .u8 tos,.int .u16 id,.bool keep,.int .u8 ttl,.int .u8 6,.int .u32 src,.int .u32 dst,so,.slice (some ⟨b,off,none⟩) zs.length cd] 40)=W0 at*;clear hgW;go_wp2_with fail;rw[←HLN.out]at hO3⊢;refine(zMc _ _ hBS.out (by rw[HLN.out];exact hl) w3 hO3.rd).mono ?_;rintro e w4 ⟨rfl,hb4⟩;have hw4:Below w.heap.size w w4:=hb0.trans ((hb3.trans (hb4.mono hb3.size)).mono hb0.size);by_cases c6:Mt.cks (psd src dst 6 zs.length++zs)=0
      ·have t6:(Mt.cks (psd src dst 6 zs.length++zs)==0)=true:=by simp[c6]
       have HF:Hid (ptc proto src dst zs=0):=by show _=_;unfold ptc;rw[if_neg (by simp[C1.out]),if_neg HC2.out,if_neg (by rw[HTH.out,HX.out];have:=C4.out;omega),if_neg (by rw[HTH.out];omega),if_neg (by simp[c6])]
       clear c6;go_wp2_with fail;exact bodyPost_ret (v:= .tuple #[.int .i64 (x/16*4),.int .i64 0]) (by simp[results,Tryz.results68,go_sem]) rfl ⟨hw4,.inr ⟨HF.out,by rw[HTH.out]⟩⟩
      ·have t6:(Mt.cks (psd src dst 6 zs.length++zs)==0)=false:=by simp[c6]
       have HF:Hid (ptc proto src dst zs=5):=by show _=_;unfold ptc;rw[if_neg (by simp[C1.out]),if_neg HC2.out,if_neg (by rw[HTH.out,HX.out];have:=C4.out;omega),if_neg (by rw[HTH.out];omega),if_pos c6]
       clear c6;go_wp2_with fail;exact bodyPost_ret (v:= .tuple #[.int .i64 0,.int .i64 5]) (by simp[results,Tryz.results68,go_sem]) rfl ⟨hw4,.inl ⟨by rw[HF.out];decide,by rw[HF.out]⟩⟩
    ·have t4:(x % 16 !=0)=true:=by simp[c4]
     have HF:Hid (ptc proto src dst zs=4):=by show _=_;unfold ptc;rw[if_neg (by simp[C1.out]),if_neg HC2.out,if_pos (.inr (by rw[HX.out];exact c4))]
     clear c4;go_enter Tryz.func68,Tryz.ntmps68;go_wp2_with fail;exact bodyPost_ret (v:= .tuple #[.int .i64 0,.int .i64 4]) (by simp[results,Tryz.results68,go_sem]) rfl ⟨hb0,.inl ⟨by rw[HF.out];decide,by rw[HF.out]⟩⟩
 ·have t1:(proto !=6)=true:=by simp[c1]
  have HF:Hid (ptc proto src dst zs=12):=by show _=_;unfold ptc;rw[if_pos c1]
  clear c1;go_enter Tryz.func68,Tryz.ntmps68;go_wp2_with fail;exact bodyPost_ret (v:= .tuple #[.int .i64 0,.int .i64 12]) (by simp[results,Tryz.results68,go_sem]) rfl ⟨hb0,.inl ⟨by rw[HF.out];decide,by rw[HF.out]⟩⟩
end Go.Proofs.YteaeilghamjjkaaGreatDoor
