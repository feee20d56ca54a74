import Derived.Test.YteaeilghamjjkaaGreatDoorX12
namespace Go.Proofs.YteaeilghamjjkaaGreatDoor
set_option maxHeartbeats 4000000
open Go.RowKit Go.Shelf
set_option maxRecDepth 100000
set_option linter.unusedVariables false
set_option linter.unusedSimpArgs false
def GnZ (w w':World) (lo hi:Int) (e:Ending):Prop:=∃g s,e= .returned (.pointer (some ⟨g,0,none⟩))∧Later w w'∧GI w.heap.size w' g s∧s.ls=[]∧GsK w.heap.size lo hi s∧s.now=0
def RuZ (base:Nat) (w w':World) (g:Nat) (s:Gs) (l:List Ru):Prop:=Below base w w'∧∃s',s'.ls=l∧GI base w' g s'∧SmG s s'∧s'.now=s.now
def GwZ (w w':World) (e:Ending):Prop:=∃g s,e= .returned (.pointer (some ⟨g,0,none⟩))∧Later w w'∧GI w.heap.size w' g s∧s.ls=[mqR]∧GsK w.heap.size 1000 1063 s∧s.now=0
theorem gnew_now(lo hi:Int)(w:World)(h0:lo≠0)(h1:lo≤hi):Calls Tryz.prog 44 #[.int .u16 lo,.int .u16 hi] w fun e w'=>GnZ w w' lo hi e:=by
 have t0:(lo==0)=false:=by rw[beq_eq_false_iff_ne];exact h0
 have t1:¬hi<lo:=by omega
 have hmm:= @run_makeMap Tryz.prog;go_enter Tryz.func44,Tryz.ntmps44;go_upto_region 3 with fail;clear h0 h1 t0 t1;go_wp2_with fail;refine(new9_any w).mono ?_;rintro e w1 ⟨rfl,l1,r1⟩;have m2:=heap_alloc_new w1 (.map #[] 0);have l2:=zAe w1 (.map #[] 0);have r2:=r1.later l2;have HR2:=zAc r2;have HM2:=zAc m2;clear r1 r2 m2;go_wp2_with fail;change Calls _ _ _ (w1.alloc (.map #[] 0)) _;have hgf1:w.heap.size≤w1.heap.size:=l1.size;have hgf2:w1.heap.size<(w1.alloc (.map #[] 0)).heap.size:=by rw[World.size_alloc];omega
 generalize w1.alloc (.map #[] 0)=w2 at*;generalize w1.heap.size=gf at*;refine(new_yes 128 w2 (by decide) (by decide)).mono ?_;rintro e w3 ⟨rfl,l3,r3⟩;have HT3:=zAc r3;have l3':Later w2 w3:=l3;clear r3;go_wp2_with fail;refine(zPm w3).mono ?_;rintro e w4 ⟨rfl,l4,r4⟩;have HB4:=zAc r4;clear r4;have m5:=heap_alloc_new w4 (.map #[] 0);have l5:=zAe w4 (.map #[] 0);have HM5:=zAc m5;clear m5;go_wp2_with fail;have e1:w2.heap.size≤w3.heap.size:=l3'.size;have e0:w.heap.size≤w2.heap.size:=Nat.le_trans l1.size l2.size;have e2:w3.heap.size≤w4.heap.size:=l4.size;generalize hw5:w4.alloc (.map #[] 0)=w5 at*;have hs5:w5.heap.size=w4.heap.size+1:=by rw[←hw5,World.size_alloc]
 generalize hg5:w4.heap.size=gp at*;have m6:=heap_alloc_new w5 (.cells #[.int .u16 lo,.int .u16 hi,.int .i64 0,.int .i64 0,.pointer (some ⟨w.heap.size,0,none⟩),.map (some gf),.pointer (some ⟨w2.heap.size,0,none⟩),.pointer (some ⟨w3.heap.size,0,none⟩),.map (some gp)] 91);have l6:=zAe w5 (.cells #[.int .u16 lo,.int .u16 hi,.int .i64 0,.int .i64 0,.pointer (some ⟨w.heap.size,0,none⟩),.map (some gf),.pointer (some ⟨w2.heap.size,0,none⟩),.pointer (some ⟨w3.heap.size,0,none⟩),.map (some gp)] 91);have k36:=l4.trans (Later.trans l5 l6);have k26:=l3'.trans k36;rw[hs5]at m6;go_ret
 refine⟨gp+1,⟨lo,hi,0,[],w.heap.size,gf,w2.heap.size,w3.heap.size,gp,.slice none 0 0,.slice none 0 0,0,0⟩,rfl,Later.trans l1 (Later.trans l2 k26),?_,rfl,⟨rfl,rfl,⟨Int.le_refl _,by show(0:Int)≤549755813888;decide⟩,?_⟩,rfl⟩
 ·exact ⟨by show w.heap.size≤gp+1;omega,m6,HR2.out.later k26,(HT3.out.laterD k36).monoG e0,(HB4.out.later (Later.trans l5 l6)).monoG (Nat.le_trans e0 e1),zAb k26 HM2.out,zAb l6 HM5.out⟩
 ·exact ⟨by show gf≠gp;omega,hgf1,by show w.heap.size≤gp;omega⟩
theorem zR7(base g:Nat)(s:Gs)(x:Ru)(w:World)(h:GI base w g s)(hx:wfR x)(hl:s.ls.length≤32)(hbs:base≤w.heap.size):
  Calls Tryz.prog 45 #[.pointer (some ⟨g,0,none⟩),.agg (ruc x).toArray] w fun e w'=>e= .returned (.int .i64 (adE s.ls x))∧RuZ base w w' g s (adL s.ls x):=by
 have l0:=zAe w (.cells (ruc x).toArray 125);have C0:=zAc (heap_alloc_new w (.cells (ruc x).toArray 125));have H1:=zAc (h.later l0);have HAD:=zAc (fun W v (hr:RL 285 base W s.gr v s.ls) (hb:base≤W.heap.size)=>add9_any base s.gr v s.ls x W hr hx hl hb);unfold ruc at*;clear h hx hl;go_enter Tryz.func45,Tryz.ntmps45;go_upto_region 3 with fail;generalize w.alloc _=w1 at*;generalize w.heap.size=gx at C0⊢;refine zC6 ?_;refine zA6 (R1:=Later) (R2:=fun _ _=>True) (D:=[5]) 7 rfl (by kernel_rfl) ?_;have ld:Later w1 w1.drew:=Later.drew w1;generalize w1.drew=Wd at*;have H2:=zAc (H1.out.later ld);have q0:∀v,Later Wd v→∀j,v.cell? ⟨gx,j,none⟩=_:=fun v hv=>zAa (zAb (ld.trans hv) C0.out);have q1:∀v,Later Wd v→∀j,v.cell? ⟨g,j,none⟩=(gtc s).toArray[j]? :=fun v hv=>zAa (zAb hv H2.out.gc);unfold gtc at q1;refine uX Later.pre 0 [1,2,3,5,6] ?_;refine uX Later.pre 1 [2,3,5,6] ?_;refine uX Later.pre 2 [3,5,6] ?_;refine uX Later.pre 3 [5,6] ?_;refine uX Later.pre 4 [5,6] ?_;clear q0 q1;have hbd:base≤Wd.heap.size:=Nat.le_trans hbs (Later.trans l0 ld).size;refine uO 5 ?_;refine zAi 95 #[.pointer (some ⟨s.gr,0,none⟩),.agg (ruc x).toArray] (by unfold ruc;go_simp) ?_;refine(HAD.out Wd s.vr H2.out.rl hbd).mono ?_;rintro e w3 ⟨rfl,v3,hr3,hb3,_⟩;refine⟨zEf (by rfl) trivial,?_⟩;simp only[Act.put,sA,sB,sC];refine uO 6 ?_;refine zG2 (w':=w3) (.int .i64 (adE s.ls x)) (by go_simp) ?_;refine⟨zBr (by rfl) (Later.refl _),?_⟩
 simp only[Act.put,sA,sB,sC];refine uD ?_;refine⟨rfl,?_⟩;have h3:=H2.out.rules H2.out.rl.ruE hb3 hr3
 have B3:Below base Wd w3:=hb3.below hbd (fun k hk e=>by
  rcases e with e|e
  ·have:=H2.out.rl.1;omega
  ·obtain ⟨_,⟨e',_⟩|⟨g',cap,cur,e',hge,hh,_⟩⟩:=H2.out.rl.2.2
   ·rw[e']at e;cases e
   ·rw[e']at e
    have e2:g'=k:=by simpa[Value.ownBlock]using e
    omega)
 go_wp2_with fail;go_ret
 exact⟨rfl,((Later.trans l0 ld).mono hbs).trans B3,_,rfl,h3,⟨rfl,fun _ _ _ h=>h⟩,rfl⟩
theorem zL0(w:World):Calls Tryz.prog 17 #[] w fun e w'=>GwZ w w' e:=by
 go_enter Tryz.func17,Tryz.ntmps17;go_wp2_with fail;refine(gnew_now 1000 1063 w (by decide) (by decide)).mono ?_;rintro e w1 ⟨g,s,rfl,l1,h1,hls,hgk,hnw⟩;have HR:=zAc (zR7 w.heap.size g s mqR w1 h1 mq_wf (by rw[hls];simp) l1.size);rw[hls,mq_ok,mq_list]at HR;go_wp2_with fail;refine HR.out.mono ?_;rintro e w2 ⟨rfl,b2,s2,hl2,h2,hsm,hn2⟩;go_wp2_with fail;go_ret
 exact⟨g,s2,rfl,Below.trans l1 b2,h2,hl2,hsm.2 _ _ _ hgk,hn2.trans hnw⟩
end Go.Proofs.YteaeilghamjjkaaGreatDoor
