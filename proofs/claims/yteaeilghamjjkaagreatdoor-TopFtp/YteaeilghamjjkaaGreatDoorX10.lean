import Derived.Test.YteaeilghamjjkaaGreatDoorX11
import Derived.Deep.DeepCutAuto
import Derived.Deep.CutBlock
import Derived.Scope
import Derived.WalkMore
import Derived.Deep.AppendLies
namespace Go.Proofs.YteaeilghamjjkaaGreatDoor
set_option maxHeartbeats 8000000
open Go.RowKit Go.Shelf
set_option maxRecDepth 100000
set_option linter.unusedVariables false
def postZ {α:Type} (ex:Nat) (B:Nat) (Kp:World→World→Prop) (I Ix:List α→World→Prop) (xs:List α) (W:World):Exit→Act→World→Prop
 | .normal,_,V=>KeepsFrom B W V∧Kp W V∧I xs V
 | .exit id,_,V=>id=ex∧KeepsFrom B W V∧Ix xs V
 |_,_,_=>False
theorem zNa(ex:Nat) {F:Fence} {n:Nat} {P:Program} {α:Type} {g:Operand} {ps:Array Tmp} {assign body:Code} {Q:Exit→Act→World→Prop} {a:Act} {w:World}
  (hro:F.round=none)(h1:1≤n) {gf:Nat} {lb:Array Value} (hg:a.eval g= .func (.func gf) #[] lb)(hFg:F.fn gf)(eg:∀args w,(callFunc gf args).run P w= .ok (.enter gf args) w)
  {encs:α→Array Value} {Kp:World→World→Prop} {X:List α→α→World→Prop} {S Sp:List α→Prop} (hseq:GenX F (n-1) P gf lb encs Kp X S Sp w)
  (hKt:∀ {A B C:World},Kp A B→Kp B C→Kp A C)(hKb:∀(W:World) (l:Nat) (o o':Obj),w.heap.size≤l→W.heap[l]? =some o→o.isCells=false→o.isWalk=false→Kp W (W.putObj l o'))
  (hKl:∀ {A B:World},w.heap.size≤A.heap.size→Later A B→Kp A B)(hXl:∀pre x A B,X pre x A→Later A B→X pre x B)
  (hXb:∀pre x (W:World) (l:Nat) (o o':Obj),w.heap.size≤l→W.heap[l]? =some o→o.isCells=false→X pre x W→X pre x (W.putObj l o'))(hps:∀x,(encs x).size=ps.size)
  (I Ix:List α→World→Prop)(hI:OwnFrom w.heap.size I)(hIl:∀s A B,I s A→Later A B→I s B)(hIx:OwnFrom w.heap.size Ix)(h0:I [] w)
  (A:α→Act→World→Prop)(hA:∀x a' (W:World) (l:Nat) (o o':Obj),w.heap.size≤l→W.heap[l]? =some o→o.isCells=false→A x a' W→A x a' (W.putObj l o'))
  (hassign:∀(l:Nat) (pre:List α) (x:α) (W:World) (K:Act→World→Prop),w.heap.size≤W.heap.size→I pre W→X pre x W→(∀a' W',Later W W'→A x a' W'→K a' W')→
   assign.wpIn (F.inRound l) (n-1-1) P (Exit.then K (fun _ _ _=>False)) { tmps:=(ps.zip (encs x)).foldl (fun t (p,v)=>t.setIfInBounds p v) a.tmps,defers:=[] } W)
  (hbody:∀(l:Nat) (pre:List α) (x:α) (a':Act) (W:World),I pre W→X pre x W→A x a' W→body.wpIn (F.inRound l) (n-1-1) P (postZ ex w.heap.size Kp I Ix (pre++[x]) W) a' W)
  (hdone:∀(D:Nat) (xs:List α) (W:World),w.heap.size≤D→S xs→I xs W→W.heap[D]? =some (.deferred (some []))→Q .normal { a with defers:= { target:= .collected D,args:=#[] } ::a.defers } W)
  (hstop:∀(D:Nat) (pre:List α) (W:World),w.heap.size≤D→Sp pre→Ix pre W→W.heap[D]? =some (.deferred (some []))→(Code.exit ex).wpIn F n P Q { a with defers:= { target:= .collected D,args:=#[] } ::a.defers } W):
  (Code.rangeFunc g ps assign body).wpIn F n P Q a w:=by
 refine wpIn_rangeFunc fun fn hfn=> ?_;rw[hro];obtain⟨rec,hrec⟩:∃rec:LoopState→Option Code→Loop,rec=fun st pe=> { state:=st,pending:=pe,fn,tmps:=a.tmps,params:=ps,assign,body,defers:=w.heap.size } :=⟨_,rfl⟩;obtain⟨V,hV⟩:∃V,(w.alloc (.deferred (some []))).alloc (.loop (rec .ready none))=V:=⟨_,rfl⟩
 have hl:V.heap[w.heap.size+1]? =some (.loop (rec .ready none)):=by
  have:=World.alloc_heap_new (w.alloc (.deferred (some []))) (.loop (rec .ready none));rw[World.size_alloc]at this;rw[←hV];exact this
 have hk:V.heap[w.heap.size]? =some (.deferred (some [])):=by
  rw[←hV];exact(Below.heap_alloc _ _ _ (by simp)).trans (World.alloc_heap_new w _)
 have hi:I [] V:=by rw[←hV];exact hI.alloc _ (hI.alloc _ h0)
 have hb:Below w.heap.size w V:=by rw[←hV];exact((Below.refl _ w).alloc (Nat.le_refl _) _).alloc (by simp) _
 refine⟨w.heap.size+1,[{ target:= .collected w.heap.size,args:=#[] }],V, { target:= .fn (.func gf) lb,args:=#[.func (.yield (w.heap.size+1)) #[] #[]] },V,gf,#[.func (.yield (w.heap.size+1)) #[] #[]]++lb,V,?_,?_,?_,?_,fun _=>h1,?_⟩
 ·rw[←hV,hrec];exact run_enterLoop_outer _ _ _ _ _
 ·simp only[resolve,hg]
  simp[go_sem]
 ·intro f' hf';simp[Target.leads]at hf';subst hf';exact hFg
 ·simp[invoke,go_sem,eg]
 refine(hseq (w.heap.size+1) (fun pre W=>I pre W∧W.heap[w.heap.size+1]? =some (.loop (rec .ready none))∧W.heap[w.heap.size]? =some (.deferred (some [])))
  (fun pre W=>Ix pre W∧W.heap[w.heap.size+1]? =some (.loop (rec .done (some (.exit ex))))∧W.heap[w.heap.size]? =some (.deferred (some []))) V hb
  (fun s A B hs h=>⟨hIl s A B hs.1 h,zAb h hs.2.1,zAb h hs.2.2⟩) ?_ ⟨hi,hl,hk⟩).mono ?_
 ·rintro pre x W ⟨ji,jl,jk⟩ hx
  have hlt:w.heap.size+1<W.heap.size:=(bl9 jl);have hy:=run_yield (P:=P) (args:=encs x) jl (by rw[hrec];exact hps x);rw[hrec]at hy;refine⟨fn,_,assign,body,hy,roundIn_of_wpIn hfn (hassign _ pre x W _ (by omega) ji hx fun a' W' hL hAx=> ?_)⟩;have pL:Kp W W':=hKl (by omega) hL;replace ji:=hIl _ _ _ ji hL
  replace jl:=zAb hL jl
  replace jk:=zAb hL jk
  replace hx:=hXl _ _ _ _ hx hL
  replace hlt:w.heap.size+1<W'.heap.size:=(bl9 jl)
  refine⟨_,run_beginRound jl (by rw[hrec]),?_⟩;obtain⟨U,hU⟩:∃U,W'.putObj (w.heap.size+1) (.loop { rec .ready none with state:= .busy })=U:=⟨_,rfl⟩;have l2:U.heap[w.heap.size+1]? =some (.loop { rec .ready none with state:= .busy }):=by rw[←hU];exact World.putObj_heap_same hlt
  have k2:U.heap[w.heap.size]? =some (.deferred (some [])):=by rw[←hU];exact(World.putObj_heap_other (by omega)).trans jk
  have p2:Kp W U:=by rw[←hU];exact hKt pL (hKb _ _ _ _ (by omega) jl rfl rfl)
  have a2:A x a' U:=by rw[←hU];exact hA _ _ _ _ _ _ (by omega) jl rfl hAx
  have i2:I pre U:=by rw[←hU];exact hI.putObj _ ji (by omega) jl rfl
  have x2:X pre x U:=by rw[←hU];exact hXb _ _ _ _ _ _ (by omega) jl rfl hx
  rw[hU];refine wpIn_mono (hbody _ pre x a' U i2 x2 a2) ?_
  have fin:∀(jump:Option Code) (Z:World),KeepsFrom w.heap.size U Z→
    (Instr.endRound (w.heap.size+1) jump).run P Z= .ok (.bool jump.isNone) (Z.putObj (w.heap.size+1) (.loop (rec (if jump.isNone then .ready else .done) jump)))∧Z.heap[w.heap.size+1]? =some (.loop { rec .ready none with state:= .busy })∧
    (Z.putObj (w.heap.size+1) (.loop (rec (if jump.isNone then .ready else .done) jump))).heap[w.heap.size+1]? =some (.loop (rec (if jump.isNone then .ready else .done) jump))∧
    (Z.putObj (w.heap.size+1) (.loop (rec (if jump.isNone then .ready else .done) jump))).heap[w.heap.size]? =some (.deferred (some [])):=fun jump Z hZ=>by
   have l3:=hZ.same _ _ (by omega) l2 rfl;have r3:=run_endRound (P:=P) jump l3;rw[hrec]at r3⊢;exact⟨r3,by rw[hrec]at l3;exact l3,World.putObj_heap_same (bl9 l3),(World.putObj_heap_other (by omega)).trans (hZ.same _ _ (Nat.le_refl _) k2 rfl)⟩
  rintro e a3 Z hp;cases e with
  |normal=>
   obtain⟨hZ,hp3,hi3⟩:=hp;obtain⟨hr,l3,l4,k4⟩:=fin none Z hZ;exact⟨_,_,hr,.inl ⟨rfl,⟨hI.putObj _ hi3 (by omega) l3 rfl,l4,k4⟩,hKt (hKt p2 hp3) (hKb _ _ _ _ (by omega) l3 rfl rfl)⟩⟩
  |ret=>exact hp.elim
  |exit id=>
   obtain⟨he,hZ,hi3⟩:=hp;rw[he];obtain⟨hr,l3,l4,k4⟩:=fin (some (.exit ex)) Z hZ;exact⟨_,_,hr,.inr ⟨rfl,hIx.putObj _ hi3 (by omega) l3 rfl,l4,k4⟩⟩
  |goto t=>exact hp.elim
  |panic ch=>exact hp.elim
  |outgrown=>exact hp.elim
 ·rintro e W2 ⟨⟨v,rfl⟩,(⟨xs,hS,ji,jl,jk⟩|⟨pre,hSp,ji,jl,jk⟩)⟩
  ·exact ⟨none,_,by have:=run_endLoop (P:=P) jl (by rw[hrec];simp);rw[hrec]at this;exact this,hdone _ xs _ (Nat.le_refl _) hS (hI.putObj _ ji (by omega) jl rfl) ((World.putObj_heap_other (by omega)).trans jk)⟩
  ·exact ⟨some (.exit ex),_,by have:=run_endLoop (P:=P) jl (by rw[hrec];simp);rw[hrec]at this;exact this,hstop _ pre _ (Nat.le_refl _) hSp (hIx.putObj _ ji (by omega) jl rfl) ((World.putObj_heap_other (by omega)).trans jk)⟩
attribute [local go_sem] Oper.semAt_some
set_option linter.unusedSimpArgs false
theorem zNb(w:World)(A B C:Obj):Later w (((w.alloc A).alloc B).alloc C)∧(((w.alloc A).alloc B).alloc C).heap[w.heap.size]? =some A∧(((w.alloc A).alloc B).alloc C).heap[w.heap.size+1]? =some B∧(((w.alloc A).alloc B).alloc C).heap[w.heap.size+1+1]? =some C:=by
 have h1:Later w ((w.alloc A).alloc B):=(bA _ _).alloc (by simp) _;have h2:((w.alloc A).alloc B).heap[w.heap.size]? =some A:=(Below.heap_alloc _ _ _ (by simp)).trans (heap_alloc_new w _)
 have h3:((w.alloc A).alloc B).heap[w.heap.size+1]? =some B:=by
  have:=heap_alloc_new (w.alloc A) B;rwa [World.size_alloc]at this
 refine⟨h1.trans (bA _ _),(Below.heap_alloc _ _ _ (by simp<;>omega)).trans h2,(Below.heap_alloc _ _ _ (by simp)).trans h3,?_⟩;have:=heap_alloc_new ((w.alloc A).alloc B) C;simpa only[World.size_alloc]using this
def bhd (a b:Int):Bool:=decide (0<ahd a b)
theorem zRi(a b:Int)(w:World):Calls Tryz.prog 390 #[.int .u32 a,.int .u32 b] w fun e w'=>e= .returned (.bool (bhd a b))∧w'=w:=by
 have HA:=zAd (zJ7 a b w);unfold bhd;generalize ahd a b=d at*;go_enter Tryz.func390,Tryz.ntmps390;go_wp2_with fail;refine HA.out.mono ?_;rintro e w1 ⟨rfl,rfl⟩;go_wp2_with fail;go_ret
 exact⟨rfl,rfl⟩
theorem map1_any(p:Pa)(w:World):Calls Tryz.prog 376 #[.agg (pac p).toArray] w fun e w'=>e= .returned (.tuple #[.agg #[.int .u32 p.ws,.int .u32 p.we],.agg #[.int .u32 p.is,.int .u32 p.ie]])∧Later w w':=by
 obtain⟨lb0,c0,c1,c2⟩:=zNb w (.cells #[.int .u32 p.ws,.int .u32 p.we,.int .u32 p.is,.int .u32 p.ie,.slice p.ta p.tn p.tc] 509) (.cells #[.int .u32 0,.int .u32 0] 507) (.cells #[.int .u32 0,.int .u32 0] 507);unfold pac;go_enter Tryz.func376,Tryz.ntmps376;go_upto_region 1 with fail;generalize ((w.alloc _).alloc _).alloc _=w0 at*;refine zAl (R:=But (fun g=>g=w.heap.size+1∨g=w.heap.size+1+1)) 6 rfl (by kernel_rfl) ?_;have ld:Later w0 w0.drew:=Later.drew w0;have L0:=lb0.trans ld;have d0:=zAb ld c0;have d1:=zAb ld c1;have d2:=zAb ld c2;generalize w0.drew=Wd at*;have ha:∀v1,But (fun g=>g=w.heap.size+1∨g=w.heap.size+1+1) Wd v1→∀j,v1.cell? ⟨w.heap.size,j,none⟩=#[.int .u32 p.ws,.int .u32 p.we,.int .u32 p.is,.int .u32 p.ie,.slice p.ta p.tn p.tc][j]? :=fun v1 hv=>zAa ((hv.block w.heap.size (bl9 d0) (by omega)).trans d0);refine tX (But.pre _) 0 ?_;refine tX (But.pre _) 1 ?_;refine tX (But.pre _) 2 ?_;refine tX (But.pre _) 3 ?_;clear ha;refine tO 4 ?_;have k1:=zAa d1;have f1:=zAc d1;unfold Oper.wp;go_simp;have hb1:But (fun g=>g=w.heap.size+1) Wd (zAi Wd (w.heap.size+1) 0 [.int .u32 p.ws,.int .u32 p.we]):=zA1 (rb:=w.heap.size+1) _ Wd;have e1:=zAe [.int .u32 p.ws,.int .u32 p.we] d1 rfl;change But _ _ (zAi Wd (w.heap.size+1) 0 [.int .u32 p.ws,.int .u32 p.we])∧_;refine⟨⟨hb1.os,hb1.tape,hb1.output,hb1.size,fun k hk he=>hb1.block k hk (fun e=>he (.inl e))⟩,?_⟩
 have e2:=(hb1.block (w.heap.size+1+1) (bl9 d2) (by omega)).trans d2;change zAy _ _ _ _ _ _ _ _ (zAi Wd (w.heap.size+1) 0 [.int .u32 p.ws,.int .u32 p.we]);generalize zAi Wd (w.heap.size+1) 0 [.int .u32 p.ws,.int .u32 p.we]=W1 at*;refine tO 5 ?_;clear k1 f1;have k2:=zAa e2;have f2:=zAc e2;unfold Oper.wp;go_simp;have hb2:But (fun g=>g=w.heap.size+1+1) W1 (zAi W1 (w.heap.size+1+1) 0 [.int .u32 p.is,.int .u32 p.ie]):=zA1 (rb:=w.heap.size+1+1) _ W1;have g2:=zAe [.int .u32 p.is,.int .u32 p.ie] e2 rfl;change But _ _ (zAi W1 (w.heap.size+1+1) 0 [.int .u32 p.is,.int .u32 p.ie])∧_;refine⟨⟨hb2.os,hb2.tape,hb2.output,hb2.size,fun k hk he=>hb2.block k hk (fun e=>he (.inr e))⟩,?_⟩;have g1:=(hb2.block (w.heap.size+1) (bl9 e1) (by omega)).trans e1;change zAy _ _ _ _ _ _ _ _ (zAi W1 (w.heap.size+1+1) 0 [.int .u32 p.is,.int .u32 p.ie]);have hsz:=L0.size;have hs1:=hb1.size;have LL:Below w.heap.size w (zAi W1 (w.heap.size+1+1) 0 [.int .u32 p.is,.int .u32 p.ie]):=Below.trans L0 ((hb1.below hsz (fun k hk e=>by omega)).trans (hb2.below (by omega) (fun k hk e=>by omega)));generalize zAi W1 (w.heap.size+1+1) 0 [.int .u32 p.is,.int .u32 p.ie]=W2 at*;refine tD ?_;clear k2 f2;have j1:=zAa g1;have j2:=zAa g2;go_wp2_with fail;refine bodyPost_ret (v:= .tuple #[.agg #[.int .u32 p.ws,.int .u32 p.we],.agg #[.int .u32 p.is,.int .u32 p.ie]]) (by simp[results,Tryz.results376,go_sem,j1,j2]) rfl ⟨rfl,LL⟩
theorem zRj(p:Pa)(w:World):Calls Tryz.prog 377 #[.agg (pac p).toArray] w fun e w'=>e= .returned (.tuple #[.agg #[.int .u32 p.is,.int .u32 p.ie],.agg #[.int .u32 p.ws,.int .u32 p.we]])∧Later w w':=by
 obtain⟨lb0,c0,c1,c2⟩:=zNb w (.cells #[.int .u32 p.ws,.int .u32 p.we,.int .u32 p.is,.int .u32 p.ie,.slice p.ta p.tn p.tc] 509) (.cells #[.int .u32 0,.int .u32 0] 507) (.cells #[.int .u32 0,.int .u32 0] 507);unfold pac;go_enter Tryz.func377,Tryz.ntmps377;go_upto_region 1 with fail;generalize ((w.alloc _).alloc _).alloc _=w0 at*;refine zAl (R:=But (fun g=>g=w.heap.size+1∨g=w.heap.size+1+1)) 6 rfl (by kernel_rfl) ?_;have ld:Later w0 w0.drew:=Later.drew w0;have L0:=lb0.trans ld;have d0:=zAb ld c0;have d1:=zAb ld c1;have d2:=zAb ld c2;generalize w0.drew=Wd at*;have ha:∀v1,But (fun g=>g=w.heap.size+1∨g=w.heap.size+1+1) Wd v1→∀j,v1.cell? ⟨w.heap.size,j,none⟩=#[.int .u32 p.ws,.int .u32 p.we,.int .u32 p.is,.int .u32 p.ie,.slice p.ta p.tn p.tc][j]? :=fun v1 hv=>zAa ((hv.block w.heap.size (bl9 d0) (by omega)).trans d0);refine tX (But.pre _) 0 ?_;refine tX (But.pre _) 1 ?_;refine tX (But.pre _) 2 ?_;refine tX (But.pre _) 3 ?_;clear ha;refine tO 4 ?_;have k1:=zAa d1;have f1:=zAc d1;unfold Oper.wp;go_simp;have hb1:But (fun g=>g=w.heap.size+1) Wd (zAi Wd (w.heap.size+1) 0 [.int .u32 p.is,.int .u32 p.ie]):=zA1 (rb:=w.heap.size+1) _ Wd;have e1:=zAe [.int .u32 p.is,.int .u32 p.ie] d1 rfl;change But _ _ (zAi Wd (w.heap.size+1) 0 [.int .u32 p.is,.int .u32 p.ie])∧_;refine⟨⟨hb1.os,hb1.tape,hb1.output,hb1.size,fun k hk he=>hb1.block k hk (fun e=>he (.inl e))⟩,?_⟩
 have e2:=(hb1.block (w.heap.size+1+1) (bl9 d2) (by omega)).trans d2;change zAy _ _ _ _ _ _ _ _ (zAi Wd (w.heap.size+1) 0 [.int .u32 p.is,.int .u32 p.ie]);generalize zAi Wd (w.heap.size+1) 0 [.int .u32 p.is,.int .u32 p.ie]=W1 at*;refine tO 5 ?_;clear k1 f1;have k2:=zAa e2;have f2:=zAc e2;unfold Oper.wp;go_simp;have hb2:But (fun g=>g=w.heap.size+1+1) W1 (zAi W1 (w.heap.size+1+1) 0 [.int .u32 p.ws,.int .u32 p.we]):=zA1 (rb:=w.heap.size+1+1) _ W1;have g2:=zAe [.int .u32 p.ws,.int .u32 p.we] e2 rfl;change But _ _ (zAi W1 (w.heap.size+1+1) 0 [.int .u32 p.ws,.int .u32 p.we])∧_;refine⟨⟨hb2.os,hb2.tape,hb2.output,hb2.size,fun k hk he=>hb2.block k hk (fun e=>he (.inr e))⟩,?_⟩;have g1:=(hb2.block (w.heap.size+1) (bl9 e1) (by omega)).trans e1;change zAy _ _ _ _ _ _ _ _ (zAi W1 (w.heap.size+1+1) 0 [.int .u32 p.ws,.int .u32 p.we]);have hsz:=L0.size;have hs1:=hb1.size;have LL:Below w.heap.size w (zAi W1 (w.heap.size+1+1) 0 [.int .u32 p.ws,.int .u32 p.we]):=Below.trans L0 ((hb1.below hsz (fun k hk e=>by omega)).trans (hb2.below (by omega) (fun k hk e=>by omega)));generalize zAi W1 (w.heap.size+1+1) 0 [.int .u32 p.ws,.int .u32 p.we]=W2 at*;refine tD ?_;clear k2 f2;have j1:=zAa g1;have j2:=zAa g2;go_wp2_with fail;refine bodyPost_ret (v:= .tuple #[.agg #[.int .u32 p.is,.int .u32 p.ie],.agg #[.int .u32 p.ws,.int .u32 p.we]]) (by simp[results,Tryz.results377,go_sem,j1,j2]) rfl ⟨rfl,LL⟩
theorem zNc(n:Nat)(p:Option Addr)(w:World):
  CallsIn Fence.wide n Tryz.prog 389 #[.pointer p] w fun e w'=>e= .returned (.func (.func 396) #[] #[.pointer (some ⟨w.heap.size,0,none⟩)])∧w'=w.alloc (.cells #[.pointer p] 472):=by
 refine callsIn_of_wp Tryz.func389 rfl trivial ?_ rfl;simp only[Tryz.ntmps389,List.size_toArray,List.length_cons,List.length_nil,Nat.reduceAdd,Nat.reduceSub,Array.replicate_succ,Array.replicate_zero,List.push_toArray,List.append_toArray,List.nil_append,List.cons_append];gi_wp2
 go_ret
 exact⟨rfl,rfl⟩
def encP (r:Pa):Array Value:=#[.agg (pac r).toArray]
def XP (l:List Pa) (pre:List Pa) (x:Pa) (_V:World):Prop:=∃rest,pre++x::rest=l
theorem zLb(n:Nat)(hn:1≤n)(l B b n₀:Nat)(v:Value)(ls:List Pa)(J Jx:List Pa→World→Prop)(hlen:ls.length≤1000)
  (hY:∀pre x V,J pre V→XP ls.reverse pre x V→YieldAt Fence.wide (n-1) Tryz.prog l (encP x) V fun e V'=>(e= .returned (.bool true)∧J (pre++[x]) V'∧Below n₀ V V')∨(e= .returned (.bool false)∧Jx (pre++[x]) V'))
  (W:World)(hB:W.cell? ⟨B,0,none⟩=some (.pointer (some ⟨b,0,none⟩)))(hBn:B<n₀)(hbn:b<n₀)(hc:W.cell? ⟨b,0,none⟩=some v)(hR:RdP n₀ W v ls)(h0:J [] W):
  CallsIn Fence.wide n Tryz.prog 396 #[.func (.yield l) #[] #[],.pointer (some ⟨B,0,none⟩)] W fun e W'=>(∃v,e= .returned v)∧((∃xs,xs=ls.reverse∧J xs W')∨(∃pre,(∃rest,pre++rest=ls.reverse)∧Jx pre W')):=by
 obtain⟨sa,cap,rfl,hc1,hc2⟩:=hR.slice;have HR:=zAd hR;have hli:(ls.length:Int)≤1000:=by omega
 have HB:=zAd hB;have HC:=zAd hc;clear hR;refine callsIn_of_wp Tryz.func396 rfl trivial ?_ rfl;simp only[Tryz.ntmps396,List.size_toArray,List.length_cons,List.length_nil,Nat.reduceAdd,Nat.reduceSub,Array.replicate_succ,Array.replicate_zero,List.push_toArray,List.append_toArray,List.nil_append,List.cons_append];gi_wp2
 gi_loopw [3] (fun i wx=>∃k:Nat,k≤ls.length∧i= .int .i64 ((ls.length:Int)-1-(k:Int))∧J (ls.reverse.take k) wx∧Below n₀ W wx) (fun i _=>((intOf i)+1).toNat)
 case atStart=>exact⟨0,by omega,by simp,by rw[List.take_zero];exact h0,Below.refl _ _⟩
 case round=>
  obtain⟨k,hk,rfl,hJk,hbk⟩:=hrel;have hBr:=(hbk.cell (p:=⟨B,0,none⟩) hBn).trans HB.out;have hcr:=(hbk.cell (p:=⟨b,0,none⟩) hbn).trans HC.out;clear hB hc;by_cases hkl:k<ls.length
  ·have hq:ls.length-1-k<ls.length:=by omega
   have hqi:(ls.length:Int)-1-(k:Int)=((ls.length-1-k:Nat):Int):=by omega
   obtain⟨g,off,cp,e,_,_,hgn,hcs⟩:=(HR.out.below hbk).cells (by omega)
   simp at e
   obtain⟨rfl,rfl⟩:=e;have c0:=hcs (ls.length-1-k) hq 0 (by omega);have c1:=hcs (ls.length-1-k) hq 1 (by omega);have c2:=hcs (ls.length-1-k) hq 2 (by omega);have c3:=hcs (ls.length-1-k) hq 3 (by omega);have c4:=hcs (ls.length-1-k) hq 4 (by omega);have hrk:k<ls.reverse.length:=by simpa using hkl
   have hre:ls.reverse[k]=ls[ls.length-1-k]:=by rw[List.getElem_reverse]
   have hat:∃rest,ls.reverse.take k++ls.reverse[k]::rest=ls.reverse:=⟨ls.reverse.drop (k+1),by rw[←List.drop_eq_getElem_cons hrk,List.take_append_drop]⟩;have htk:ls.reverse.take (k+1)=ls.reverse.take k++[ls.reverse[k]]:=(List.take_append_getElem hrk).symm;have htl:∃rest,ls.reverse.take k++[ls.reverse[k]]++rest=ls.reverse:=⟨ls.reverse.drop (k+1),by rw[List.take_append_getElem hrk,List.take_append_drop]⟩;rw[hre]at hat htk htl;rw[hqi];clear hcs hre;generalize ls[ls.length-1-k]=r at*;have HAT:=zAd hat;have HTK:=zAd htk;have HTL:=zAd htl;clear hat htk htl;generalize hqq:ls.length-1-k=q at*;have hq':(q:Int)<ls.length:=by omega
   simp only[pac,List.getElem?_cons_zero,List.getElem?_cons_succ,Nat.add_zero]at c0 c1 c2 c3 c4;obtain⟨fn,tmps,assign,body,hy,hRr⟩:=hY _ r _ hJk HAT.out;dsimp only[encP,pac]at hy
   gi_wp2
   refine hRr.mono ?_;rintro e W3 (⟨rfl,hJ3,hk3⟩|⟨rfl,hJx3⟩)
   ·gi_wp2
    go_roundw
    case rel=>exact⟨k+1,by omega,by(congr 1;omega),by rw[HTK.out];exact hJ3,hbk.trans hk3⟩
    case measure=>first|(simp[intOf];done)|(simp[intOf];omega)
   ·gi_wp2
    refine bodyPost_ret (results_none rfl _ _ _) rfl ?_;exact⟨⟨_,rfl⟩,.inr ⟨_,HTL.out,hJx3⟩⟩
  ·obtain rfl:k=ls.length:=by omega
   have hneg:(ls.length:Int)-1-(ls.length:Int)= -1:=by omega
   rw[hneg];gi_wp2
   go_end0
   exact⟨⟨_,rfl⟩,.inl ⟨_,rfl,by rw[←List.length_reverse,List.take_length]at hJk;exact hJk⟩⟩
attribute [local go_sem] Oper.semAt_some
theorem zLc(n:Nat)(hn:1≤n)(B base b:Nat)(v:Value)(ls:List Pa)(w0 w:World)(hT:SL 479 base w0 b v ls)(hlen:ls.length≤1000)(hw:Later w0 w)(n₀:Nat)(hn0:w0.heap.size≤n₀)(hnw:n₀≤w.heap.size)(hBl:B<n₀)(hB:w.cell? ⟨B,0,none⟩=some (.pointer (some ⟨b,0,none⟩))):
  GenX Fence.wide n Tryz.prog 396 #[.pointer (some ⟨B,0,none⟩)] encP (Below n₀) (XP ls.reverse) (fun xs=>xs=ls.reverse) (fun pre=>∃rest,pre++rest=ls.reverse) w:=fun l J Jx W hW hJ hY h0=>by
 have hwW:Later w0 W:=hw.trans hW;have hBW:=(hW.cell (p:=⟨B,0,none⟩) (show B<w.heap.size by omega)).trans hB;have hb:=hT.blt;exact zLb n hn l B b n₀ v ls J Jx hlen hY W hBW hBl (by omega) ((zAa (hT.later hwW).2.1 0).trans rfl) (((zBx hT.2.2).below hwW).mono hn0) h0
def CTs (A B:World):Prop:=A.heap.size≤B.heap.size∧∀(k:Nat) (o:Obj),A.heap[k]? =some o→o.isCells=true→B.heap[k]? =some o
theorem CTs.of {A B:World} (h:Later A B):CTs A B:=⟨h.size,fun k o ho _=>zAb h ho⟩
theorem CTs.row {A B:World} {row:Option Nat} (hg:A.grownBy B row)(hr:∀r,row=some r→∃o:Obj,A.heap[r]? =some o∧o.isCells=false):CTs A B:=
 ⟨hg.size,fun k o ho hc=>(hg.block k (bl9 ho) (fun e=>by obtain⟨o',h1,h2⟩:=hr k e.symm;rw[ho]at h1;cases h1;rw[hc]at h2;cases h2)).trans ho⟩
theorem CTs.put {A:World} {l:Nat} {o o':Obj} (h:A.heap[l]? =some o)(hc:o.isCells=false):CTs A (A.putObj l o'):=
 CTs.row (grownBy_putObj' A l o') (fun r e=>by cases e;exact⟨o,h,hc⟩)
def acr (fs fe ts te:Pa→Int) (n:Int):List Pa→Int
 | []=>n
 |p::l=>if bhd (fs p) n then acr fs fe ts te n l else if bhd (fe p) n then ts p else(n+(te p-fe p)) % 4294967296
theorem zUv {fs fe ts te:Pa→Int} {n:Int} :∀(l:List Pa),(∀p∈l,bhd (fs p) n=true)→acr fs fe ts te n l=n
 | [],_=>rfl
 |p::l,h=>by unfold acr;rw[if_pos (h p (by simp))];exact zUv l (fun q hq=>h q (by simp[hq]))
theorem acr_at {fs fe ts te:Pa→Int} {n:Int} (x:Pa)(rest:List Pa)(hx:bhd (fs x) n=false):∀(pre:List Pa),(∀p∈pre,bhd (fs p) n=true)→acr fs fe ts te n (pre++[x]++rest)=if bhd (fe x) n then ts x else(n+(te x-fe x)) % 4294967296
 | [],_=>by show acr fs fe ts te n (x::rest)=_;unfold acr;rw[hx];simp
 |p::pre,h=>by
  show acr fs fe ts te n (p::(pre++[x]++rest))=_
  unfold acr;rw[if_pos (h p (by simp))];exact acr_at x rest hx pre (fun q hq=>h q (by simp[hq]))
def AI (rb:Nat) (n:Int) (cv:Value) (fs:Pa→Int) (pre:List Pa) (W:World):Prop:=
 (W.heap[rb]? =some (.cells #[.int .u32 n] 29 (0,0))∧W.heap[rb+1]? =some (.cells #[cv] 513 (0,0))∧W.heap[rb+1+1]? =some (.cells #[.int .u32 n] 29 (0,0)))∧∀p∈pre,bhd (fs p) n=true
theorem AI.ct {rb:Nat} {n:Int} {cv:Value} {fs:Pa→Int} {pre:List Pa} {A B:World} (h:AI rb n cv fs pre A)(c:CTs A B):AI rb n cv fs pre B:=⟨⟨c.2 _ _ h.1.1 rfl,c.2 _ _ h.1.2.1 rfl,c.2 _ _ h.1.2.2 rfl⟩,h.2⟩
def AX (rb:Nat) (n:Int) (fs fe ts te:Pa→Int) (pre:List Pa) (W:World):Prop:=
 ∃pre0 x,pre=pre0++[x]∧bhd (fs x) n=false∧(∀p∈pre0,bhd (fs p) n=true)∧W.heap[rb+1+1]? =some (.cells #[.int .u32 (if bhd (fe x) n then ts x else(n+(te x-fe x)) % 4294967296)] 29 (0,0))
theorem AX.ct {rb:Nat} {n:Int} {fs fe ts te:Pa→Int} {pre:List Pa} {A B:World} (h:AX rb n fs fe ts te pre A)(c:CTs A B):AX rb n fs fe ts te pre B:=by
 obtain⟨pre0,x,h1,h2,h3,h4⟩:=h;exact⟨pre0,x,h1,h2,h3,c.2 _ _ h4 rfl⟩
theorem zIb(base b cf:Nat)(v:Value)(ls:List Pa)(fs fe ts te:Pa→Int)(n:Int)(hn:0≤n∧n≤4294967295)(w:World)(hT:SL 479 base w b v ls)(hlen:ls.length≤1000)
  (eg:∀args w,(callFunc cf args).run Tryz.prog w= .ok (.enter cf args) w)
  (hcl:∀p W,Calls Tryz.prog cf #[.agg (pac p).toArray] W fun e W'=>e= .returned (.tuple #[.agg #[.int .u32 (fs p),.int .u32 (fe p)],.agg #[.int .u32 (ts p),.int .u32 (te p)]])∧Later W W'):
  Calls Tryz.prog 375 #[.pointer (some ⟨b,0,none⟩),.int .u32 n,.func (.func cf) #[] #[]] w fun e w'=>e= .returned (.int .u32 (acr fs fe ts te n ls.reverse))∧Later w w':=by
 refine(callsIn_wide (n:=5)).1 ?_;refine callsIn_of_wp_marks Tryz.func375 rfl trivial ?_ rfl;simp only[Tryz.ntmps375,List.size_toArray,List.length_cons,List.length_nil,Nat.reduceAdd,Nat.reduceSub,Array.replicate_succ,Array.replicate_zero,List.push_toArray,List.append_toArray,List.nil_append,List.cons_append];gi_wp2
 refine wpIn_wide.2 (wp_scope_straight ((wpIn_wide (n:=5)).1 ?_));gi_wp2
 obtain⟨lb3,c0,c1,c2⟩:=zNb w (.cells #[.int .u32 n] 29) (.cells #[.func (.func cf) #[] #[]] 513) (.cells #[.int .u32 n] 29);have hs3:(((w.alloc (.cells #[.int .u32 n] 29)).alloc (.cells #[.func (.func cf) #[] #[]] 513)).alloc (.cells #[.int .u32 n] 29)).heap.size=w.heap.size+1+1+1:=by simp
 generalize ((w.alloc _).alloc _).alloc _=w3 at*;have la:Later w3 (w3.alloc (.cells #[.pointer (some ⟨b,0,none⟩)] 472)):=bA _ _;have c3:=heap_alloc_new w3 (.cells #[.pointer (some ⟨b,0,none⟩)] 472);have hs4:(w3.alloc (.cells #[.pointer (some ⟨b,0,none⟩)] 472)).heap.size=w3.heap.size+1:=by simp
 refine wpIn_label ?_;have HCL:=zAd hcl;have HEG:=zAd eg;clear hcl eg;gi_wp2_with (refine⟨trivial,?_⟩;gi_at_call 389;refine(zNc _ _ _).mono ?_;rintro e w' ⟨rfl,rfl⟩)
 generalize w3.alloc _=w4 at*;rw[hs3]at c3 hs4;have hb4:Later w w4:=lb3.trans la;have d0:=zAb la c0;have d1:=zAb la c1;have d2:=zAb la c2
 refine zNa 0 (w:=w4) rfl (by omega) (gf:=396) (lb:=#[.pointer (some ⟨w.heap.size+1+1+1,0,none⟩)]) rfl trivial (enters_of Tryz.func396 (by kernel_rfl) rfl)
  (zLc 4 (by omega) (w.heap.size+1+1+1) base b v ls w w4 hT hlen hb4 w4.heap.size (by omega) (Nat.le_refl _) (by omega) ((zAa c3 0).trans rfl))
  (fun h k=>h.trans k) (fun W l o o' hl ho hc hw=>belowK_b (w:=w4) (Nat.le_refl _) W l o o' hl ho hc hw) (fun hA hL=>hL.mono hA) (fun _ _ _ _ h _=>h) (fun _ _ _ _ _ _ _ _ _ h=>h) (fun _=>rfl)
  (fun pre W=>AI w.heap.size n (.func (.func cf) #[] #[]) fs pre W∧Below w.heap.size w W) (fun pre W=>AX w.heap.size n fs fe ts te pre W∧Below w.heap.size w W)
  (OwnFrom.and (fun s A B row hs hg hr=>hs.ct (CTs.row hg (fun r e=>(hr r e).2))) (ownFrom_below (Nat.le_refl _) (by omega)))
  (fun s A B h l=>⟨h.1.ct (CTs.of l),h.2.trans (l.mono h.2.size)⟩)
  (OwnFrom.and (fun s A B row hs hg hr=>hs.ct (CTs.row hg (fun r e=>(hr r e).2))) (ownFrom_below (Nat.le_refl _) (by omega)))
  ⟨⟨⟨d0,d1,d2⟩,fun x hx=>by cases hx⟩,hb4⟩
  (fun x a' W=>∃bx:Nat,w.heap.size+1+1+1+1≤bx∧W.heap[bx]? =some (.cells #[.int .u32 x.ws,.int .u32 x.we,.int .u32 x.is,.int .u32 x.ie,.slice x.ta x.tn x.tc] 509 (0,0))∧a'= { tmps:=#[.pointer (some ⟨b,0,none⟩),.int .u32 n,.func (.func cf) #[] #[],undef,.pointer (some ⟨w.heap.size,0,none⟩),.pointer (some ⟨w.heap.size+1,0,none⟩),.int .u32 0,.pointer (some ⟨w.heap.size+1+1,0,none⟩),.pointer (some ⟨bx,0,none⟩),undef,undef,.pointer (some ⟨b,0,none⟩),.bool false,.int .u32 n,.pointer (some ⟨b,0,none⟩),.func (.func 396) #[] #[.pointer (some ⟨w.heap.size+1+1+1,0,none⟩)],.agg #[.int .u32 x.ws,.int .u32 x.we,.int .u32 x.is,.int .u32 x.ie,.slice x.ta x.tn x.tc],undef,undef,undef,undef,undef,undef,undef,undef,undef,undef,undef,undef,undef,undef,undef,undef,undef,undef,undef,undef,undef,undef,undef,undef,undef,undef],defers:=[] })
  (fun x a' W l o o' hl ho hc h=>by obtain⟨bx,h1,h2,h3⟩:=h;exact⟨bx,h1,(CTs.put ho hc).2 _ _ h2 rfl,h3⟩) ?assign ?body ?done ?stop
 case assign=>
  rintro l pre x W K hsz _ hX hK;dsimp only[encP,pac]
  gi_wp2
  refine hK _ _ ?_ ⟨W.heap.size,by omega,heap_alloc_new _ _,rfl⟩;exact(Below.refl _ W).alloc (Nat.le_refl _) _
 case body=>
  rintro l pre x a' W ⟨⟨⟨h0,h1,h2⟩,hno⟩,hbW⟩ hX ⟨bx,hbx,hbo,rfl⟩;have hc:=(callsIn_wide (n:=2)).2 (HCL.out x W);have HC:=zAd (hc.inRound l);clear hc;have Kb:=zAa hbo;have K0:=zAa h0;have K1:=zAa h1;gi_wp2
  refine⟨trivial,?_⟩;rw[HEG.out];simp only[Oper.uponIn];clear Kb K0 K1;refine⟨fun _=>by omega,HC.out.mono ?_⟩;rintro e W1 ⟨rfl,l1⟩;have hbW1:=hbW.trans (l1.mono hbW.size);have g0:=zAb l1 h0;have g1:=zAb l1 h1;have g2:=zAb l1 h2;have HBH:=zAd (fun W a=>((callsIn_wide (n:=2)).2 (zRi a n W)).inRound l);have lq:Later W1 ((W1.alloc (.cells #[.int .u32 (fs x),.int .u32 (fe x)] 507)).alloc (.cells #[.int .u32 (ts x),.int .u32 (te x)] 507)):=(bA _ _).alloc (by simp) _;have q0:((W1.alloc (.cells #[.int .u32 (fs x),.int .u32 (fe x)] 507)).alloc (.cells #[.int .u32 (ts x),.int .u32 (te x)] 507)).heap[W1.heap.size]? =some (.cells #[.int .u32 (fs x),.int .u32 (fe x)] 507):=(Below.heap_alloc _ _ _ (by simp)).trans (heap_alloc_new W1 _)
  have q1:((W1.alloc (.cells #[.int .u32 (fs x),.int .u32 (fe x)] 507)).alloc (.cells #[.int .u32 (ts x),.int .u32 (te x)] 507)).heap[W1.heap.size+1]? =some (.cells #[.int .u32 (ts x),.int .u32 (te x)] 507):=by
   have:=heap_alloc_new (W1.alloc (.cells #[.int .u32 (fs x),.int .u32 (fe x)] 507)) (.cells #[.int .u32 (ts x),.int .u32 (te x)] 507);rwa [World.size_alloc]at this
  have r0:=zAb lq g0;have r1:=zAb lq g1;have r2:=zAb lq g2;have k0:=zAa q0;have k1:=zAa q1;have k2:=zAa r0;have k3:=zAa r2;have f3:=zAc r2;have L2:Later W _:=l1.trans lq;have hsz4:w.heap.size+1+1<w4.heap.size:=by omega
  have HLS:=zAd (show w.heap.size+1+1<W1.heap.size from(bl9 g2));gi_wp2
  generalize (W1.alloc _).alloc _=W2 at*;refine⟨trivial,(HBH.out W2 (fs x)).mono ?_⟩;rintro e W3 ⟨rfl,rfl⟩;have hbW2:Below w.heap.size w W3:=hbW1.trans (lq.mono hbW1.size);have hk2:KeepsFrom w4.heap.size W W3:=⟨L2.size,fun i o hi ho hc=>zAb L2 ho⟩
  have fin:∀(z:Value),KeepsFrom w4.heap.size W (W3.setCell ⟨w.heap.size+1+1,0,none⟩ z)∧(W3.setCell ⟨w.heap.size+1+1,0,none⟩ z).heap[w.heap.size+1+1]? =some (.cells #[z] 29 (0,0))∧Below w.heap.size w (W3.setCell ⟨w.heap.size+1+1,0,none⟩ z):=fun z=>by
   have hbz:But (fun g=>g=w.heap.size+1+1) W3 (W3.setCell ⟨w.heap.size+1+1,0,none⟩ z):=(But.refl (fun g=>g=w.heap.size+1+1) _).setCell (p:=⟨w.heap.size+1+1,0,none⟩) rfl _;refine⟨⟨Nat.le_trans L2.size hbz.size,fun i o hi ho hc=> ?_⟩,by simpa using zAh r2 0 z,hbW2.trans (hbz.below hbW2.size (fun k hk e=>by omega))⟩;have h5:=zAb L2 ho;exact(hbz.block i (bl9 h5) (by omega)).trans h5
  have FIN:=zAd fin;clear fin;cases hq:bhd (fs x) n with
  |true=>
   have HQ:=zAd hq;clear hq;gi_wp2
   exact⟨hk2,L2.mono (by have:=(bl9 hbo);omega),⟨⟨r0,r1,r2⟩,fun y hy=>(List.mem_append.1 hy).elim (hno y) (fun h=>by rw[show y=x from by simpa using h];exact HQ.out)⟩,hbW2⟩
  | false=>
   have HQ:=zAd hq;clear hq;gi_wp2
   refine⟨trivial,(HBH.out W3 (fe x)).mono ?_⟩;rintro e W4 ⟨rfl,rfl⟩;cases hq2:bhd (fe x) n with
   |true=>
    have HQ2:=zAd hq2;clear hq2;gi_wp2
    exact⟨rfl,(FIN.out _).1,⟨pre,x,rfl,HQ.out,hno,by rw[HQ2.out];exact(FIN.out _).2.1⟩,(FIN.out _).2.2⟩
   |false=>
    have HQ2:=zAd hq2;clear hq2;gi_wp2
    refine⟨rfl,(FIN.out _).1,⟨pre,x,rfl,HQ.out,hno,?_⟩,(FIN.out _).2.2⟩;rw[HQ2.out];refine(FIN.out _).2.1.trans ?_;first|(simp;done)|(simp;omega)
 case done=>
  rintro D xs W hD rfl ⟨⟨⟨h0,h1,h2⟩,hno⟩,hbW⟩ hK;have K2:=zAa h2;have hres:=zUv (fs:=fs) (fe:=fe) (ts:=ts) (te:=te) ls.reverse hno;have HRES:=zAd hres;clear hres;gi_wp2
  refine⟨by simp,.inl ⟨_,_,rfl,run_takeDeferred hK,?_⟩⟩;exact⟨.int .u32 n,by simp[results,Tryz.results375,go_sem],by rw[HRES.out],hbW.trans (belowK_b (w:=w) (Nat.le_refl _) W D _ _ (by omega) hK rfl rfl)⟩
 case stop=>
  rintro D pre W hD ⟨rest,hrest⟩ ⟨⟨pre0,x,rfl,hpx,hp0,h2⟩,hbW⟩ hK;have hres:=acr_at (fe:=fe) (ts:=ts) (te:=te) x rest hpx pre0 hp0;rw[hrest]at hres;rw[←hres]at h2;clear hres;generalize hz:acr fs fe ts te n ls.reverse=z at*;have HZ:=zAd hz;clear hz;have K2:=zAa h2;gi_wp2
  refine⟨by simp,.inl ⟨_,_,rfl,run_takeDeferred hK,?_⟩⟩;exact⟨.int .u32 z,by simp[results,Tryz.results375,go_sem],by rw[HZ.out],hbW.trans (belowK_b (w:=w) (Nat.le_refl _) W D _ _ (by omega) hK rfl rfl)⟩
def zD0 (l:List Pa) (n:Int):Int:=acr Pa.ws Pa.we Pa.is Pa.ie n l.reverse
def zJd (l:List Pa) (n:Int):Int:=acr Pa.is Pa.ie Pa.ws Pa.we n l.reverse
theorem zPt(base b:Nat)(v:Value)(ls:List Pa)(n:Int)(hn:0≤n∧n≤4294967295)(w:World)(hT:SL 479 base w b v ls)(hlen:ls.length≤1000):
  Calls Tryz.prog 365 #[.pointer (some ⟨b,0,none⟩),.int .u32 n] w fun e w'=>e= .returned (.int .u32 (zD0 ls n))∧Later w w':=by
 have HA:=zAd (zIb base b 376 v ls Pa.ws Pa.we Pa.is Pa.ie n hn w hT hlen (enters_of Tryz.func376 (by kernel_rfl) rfl) (fun p W=>map1_any p W));unfold zD0;generalize acr Pa.ws Pa.we Pa.is Pa.ie n ls.reverse=z at*;go_enter Tryz.func365,Tryz.ntmps365;go_wp2_with fail;refine HA.out.mono ?_;rintro e w1 ⟨rfl,l1⟩;go_wp2_with fail;go_ret
 exact⟨rfl,l1⟩
theorem zIc(base b:Nat)(v:Value)(ls:List Pa)(n:Int)(hn:0≤n∧n≤4294967295)(w:World)(hT:SL 479 base w b v ls)(hlen:ls.length≤1000):
  Calls Tryz.prog 366 #[.pointer (some ⟨b,0,none⟩),.int .u32 n] w fun e w'=>e= .returned (.int .u32 (zJd ls n))∧Later w w':=by
 have HA:=zAd (zIb base b 377 v ls Pa.is Pa.ie Pa.ws Pa.we n hn w hT hlen (enters_of Tryz.func377 (by kernel_rfl) rfl) (fun p W=>zRj p W));unfold zJd;generalize acr Pa.is Pa.ie Pa.ws Pa.we n ls.reverse=z at*;go_enter Tryz.func366,Tryz.ntmps366;go_wp2_with fail;refine HA.out.mono ?_;rintro e w1 ⟨rfl,l1⟩;go_wp2_with fail;go_ret
 exact⟨rfl,l1⟩
theorem zPu(w:World):Calls Tryz.prog 333 #[] w fun e w'=>e= .returned (.pointer (some ⟨w.heap.size,0,none⟩))∧Later w w'∧SL 479 w.heap.size w' w.heap.size (.slice none 0 0) []:=by
 have la:Later w (w.alloc (.cells #[.slice none 0 0] 479)):=bA _ _;have hn:=heap_alloc_new w (.cells #[.slice none 0 0] 479);go_enter Tryz.func333,Tryz.ntmps333;go_wp2_with fail;go_ret
 exact⟨rfl,la,Nat.le_refl _,hn,rfl,.inl ⟨rfl,rfl⟩⟩
def okN (n:Int):Bool:=decide (1≤n) && decide (n≤128)
theorem zId(n:Int)(w:World):Calls Tryz.prog 384 #[.int .i64 n] w fun e w'=>e= .returned (.bool (okN n))∧w'=w:=by
 unfold okN;go_enter Tryz.func384,Tryz.ntmps384;by_cases h:1≤n
 ·go_wp2_with fail
  go_ret
  exact⟨by simp[h],rfl⟩
 ·go_wp2_with fail
  go_ret
  exact⟨by first|(simp[h];done)|(simp[h];omega),rfl⟩
def lstP (l:List Pa):Pa:=l.getLast?.getD zPa
def pssd (l:List Pa) (s:Int):Bool:= !l.isEmpty && decide (ahd s (lstP l).we<0)
def shf (l:List Pa):Int:=if l.isEmpty then 0 else((lstP l).ie-(lstP l).we) % 4294967296
theorem zUw {l:List Pa} (h:0<l.length):lstP l=l[l.length-1]'(by omega):=by
 unfold lstP;rw[List.getLast?_eq_getElem?,List.getElem?_eq_getElem (by omega)];rfl
theorem zRk(base b:Nat)(v:Value)(l:List Pa)(s:Int)(w:World)(hT:SL 479 base w b v l)(hl:l.length≤1000):
  Calls Tryz.prog 385 #[.pointer (some ⟨b,0,none⟩),.int .u32 s] w fun e w'=>e= .returned (.bool (pssd l s))∧w'=w:=by
 have k0:=zAa hT.2.1;have hli:(l.length:Int)≤1000:=by omega
 obtain⟨av,cv,rfl,_,_⟩:=(zBx hT.2.2).slice;have hcase:l=[]∨0<l.length:=by cases l<;>simp
 rcases hcase with rfl|hpos
 ·go_enter Tryz.func385,Tryz.ntmps385
  go_wp2_with fail;go_ret
  exact⟨rfl,rfl⟩
 ·have hpos':(0:Int)<l.length:=by omega
  obtain⟨g,off,cp,e,_,_,hgn,hcs⟩:=(zBx hT.2.2).cells hpos
  simp at e
  obtain⟨rfl,rfl⟩:=e;have c1:=hcs (l.length-1) (by omega) 1 (by omega)
  have hv:pssd l s=decide (ahd s (l[l.length-1]'(by omega)).we<0):=by
   unfold pssd;rw[zUw hpos];cases l with
   |nil=>simp at hpos
   |cons a t=>simp
  have HV:=zAd hv;clear hcs hv;simp only[pac,List.getElem?_cons_zero,List.getElem?_cons_succ]at c1;generalize (l[l.length-1]'(by omega)).we=q at*;have HA:=zAd (zJ7 s q w);generalize ahd s q=d at*;obtain⟨m,hm⟩:∃m:Nat,l.length=m+1:=⟨l.length-1,by omega⟩;rw[hm]at c1 k0 hli hpos';simp only[Nat.add_sub_cancel]at c1;clear hm hpos hT;have hli':(m:Int)≤1000:=by omega
  go_enter Tryz.func385,Tryz.ntmps385;go_wp2_with fail;refine HA.out.mono ?_;rintro e w1 ⟨rfl,rfl⟩;go_wp2_with fail;go_ret
  exact⟨by rw[HV.out];rfl,rfl⟩
theorem zUx(base b:Nat)(v:Value)(l:List Pa)(w:World)(hT:SL 479 base w b v l)(hl:l.length≤1000):
  Calls Tryz.prog 386 #[.pointer (some ⟨b,0,none⟩)] w fun e w'=>e= .returned (.int .u32 (shf l))∧Later w w':=by
 have k0:=zAa hT.2.1;have hli:(l.length:Int)≤1000:=by omega
 obtain⟨av,cv,rfl,_,_⟩:=(zBx hT.2.2).slice;have hcase:l=[]∨0<l.length:=by cases l<;>simp
 rcases hcase with rfl|hpos
 ·go_enter Tryz.func386,Tryz.ntmps386
  go_wp2_with fail;go_ret
  exact⟨rfl,Later.refl _⟩
 ·have hpos':(0:Int)<l.length:=by omega
  obtain⟨g,off,cp,e,_,_,hgn,hcs⟩:=(zBx hT.2.2).cells hpos
  simp at e
  obtain⟨rfl,rfl⟩:=e;have c1:=hcs (l.length-1) (by omega) 1 (by omega);have c3:=hcs (l.length-1) (by omega) 3 (by omega)
  have hv:shf l=((l[l.length-1]'(by omega)).ie-(l[l.length-1]'(by omega)).we) % 4294967296:=by
   unfold shf;rw[zUw hpos];cases l with
   |nil=>simp at hpos
   |cons a t=>simp
  have HV:=zAd hv;clear hcs hv;simp only[pac,List.getElem?_cons_zero,List.getElem?_cons_succ]at c1 c3;generalize (l[l.length-1]'(by omega)).we=q at*;generalize (l[l.length-1]'(by omega)).ie=r at*;obtain⟨m,hm⟩:∃m:Nat,l.length=m+1:=⟨l.length-1,by omega⟩;rw[hm]at c1 c3 k0 hli hpos';simp only[Nat.add_sub_cancel]at c1 c3;clear hm hpos hT;have hli':(m:Int)≤1000:=by omega
  go_enter Tryz.func386,Tryz.ntmps386;go_upto_region 4 with fail;go_quiet (fail)
  go_wp2_with fail;go_ret
  exact⟨by rw[HV.out];first|rfl|simp,zAk (Later.refl _) _⟩
theorem app1P(W:World)(ty:TypeId)(base:Nat)(v:Value)(xs:List Pa)(x:Pa)(hown:W.ownsRow base 509 5 v xs.length (pas xs))(hb:base≤W.heap.size)(hs:xs.length≤5000):
  ∃g cap W',(Builtin.append_ #[477,477] ty #[v,.slice (some ⟨W.heap.size,0,none⟩) 1 1]).run Tryz.prog (W.alloc (.cells (pac x).toArray 509))= .ok (.slice (some ⟨g,0,none⟩) (xs.length+1) cap) W'∧W'.ownsRow base 509 5 (.slice (some ⟨g,0,none⟩) (xs.length+1) cap) (xs++[x]).length (pas (xs++[x]))∧But (fun b=>v.ownBlock=some b) W W'∧(v.ownBlock=some g∨W.heap.size≤g)∧(W.alloc (.cells (pac x).toArray 509)).grownBy W' v.ownBlock:=by
 have la:Later W (W.alloc (.cells (pac x).toArray 509)):=bA _ _;have hn:=heap_alloc_new W (.cells (pac x).toArray 509)
 have hI:RdP (W.heap.size+1) (W.alloc (.cells (pac x).toArray 509)) (.slice (some ⟨W.heap.size,0,none⟩) 1 1) [x]:= .inr ⟨W.heap.size,0,1,rfl,by simp,by simp,by omega,by omega,fun j hj i hi=>by
  obtain rfl:j=0:=by simpa using hj
  rw[show 0+0*5+i=i from by omega,zAa hn i];simp⟩
 obtain⟨v',w',h1,h2,h3,h4⟩:=appP (W.alloc (.cells (pac x).toArray 509)) ty base (W.heap.size+1) v xs _ [x] (zFd hown la) hI (by have:=la.size;omega) (by simp;omega);have h2':=h2;rw[show (xs++[x]).length=xs.length+1 from by simp]at h2';obtain⟨g,cap,rfl⟩:=ownsRow_succ h2';refine⟨g,cap,w',h1,h2,(But.of la).trans ⟨h3.os,h3.tape,h3.output,h3.size,fun k hk he=>h3.block k hk (fun e=>he e.symm)⟩,?_,h3⟩;rcases h4 with h4|h4
 ·exact .inl h4.symm
 ·right
  simp[Value.ownBlock]at h4
  omega
theorem zJe {E:Nat→Prop} {base:Nat} {A B:World} {v:Value} {n:Nat} {xs:List Value} (h:A.ownsRow base 509 5 v n xs)(k:But E A B)(hE:∀g,v.ownBlock=some g→¬E g):B.ownsRow base 509 5 v n xs:=by
 obtain⟨h1,h2|⟨g,cap,cur,hv,hg,hh,r⟩⟩:=h
 ·exact ⟨h1,.inl h2⟩
 ·exact ⟨h1,.inr ⟨g,cap,cur,hv,hg,(k.block g (bl9 hh) (hE g (by rw[hv];rfl))).trans hh,r⟩⟩
def adS (l:List Pa) (s was tl:Int):Int:=if okN was=false then 2 else if okN tl=false then 2 else if pssd l s=true then 2 else if 8≤l.length then 9 else 0
def npP (l:List Pa) (s was:Int) (tl:Nat) (ta:Option Addr) (tc:Nat):Pa:=⟨s,(s+was) % 4294967296,(s+shf l) % 4294967296,(s+shf l+(tl:Int)) % 4294967296,ta,tl,tc⟩
theorem shf_rng(l:List Pa):0≤shf l∧shf l≤4294967295:=by unfold shf;split<;>omega
theorem adS_yes {l:List Pa} {s was tl:Int} (h:adS l s was tl=0):okN was=true∧okN tl=true∧pssd l s=false∧l.length<8:=by
 unfold adS at h;cases h1:okN was<;>cases h2:okN tl<;>cases h3:pssd l s<;>simp[h1,h2,h3]at h⊢
 omega
theorem zUy {n:Int} (h:okN n=true):1≤n∧n≤128:=by unfold okN at h;simpa using h
def hft (hb:Nat):Value:= .iface 457 (.pointer (some ⟨hb,0,none⟩))
def HfC (W:World) (hb b0 b1:Nat):Prop:=W.heap[hb]? =some (.cells #[.pointer (some ⟨b0,0,none⟩),.pointer (some ⟨b1,0,none⟩)] 476 (0,0))
def HfN (base:Nat) (W:World) (hb:Nat):Prop:=∃b0 b1:Nat,(base≤hb∧base≤b0∧base≤b1∧b0≠b1)∧HfC W hb b0 b1∧W.heap[b0]? =some (.cells #[.slice none 0 0] 479 (0,0))∧W.heap[b1]? =some (.cells #[.slice none 0 0] 479 (0,0))
theorem HfN.mono {a b:Nat} {W:World} {hb:Nat} (h:HfN a W hb)(k:b≤a):HfN b W hb:=by
 obtain⟨b0,b1,⟨h1,h2,h3,h4⟩,h5⟩:=h;exact⟨b0,b1,⟨Nat.le_trans k h1,Nat.le_trans k h2,Nat.le_trans k h3,h4⟩,h5⟩
theorem HfN.kg {base:Nat} {A B:World} {hb:Nat} (h:HfN base A hb)(k:KG base A B):HfN base B hb:=by
 obtain⟨b0,b1,h1,h2,h3,h4⟩:=h;exact⟨b0,b1,h1,k.cells h2 (by decide),k.cells h3 (by decide),k.cells h4 (by decide)⟩
theorem zRl(w:World):Calls Tryz.prog 329 #[] w fun e w'=>∃hb,e= .returned (.pointer (some ⟨hb,0,none⟩))∧Later w w'∧HfN w.heap.size w' hb:=by
 go_enter Tryz.func329,Tryz.ntmps329;go_wp2_with fail;refine(zPu w).mono ?_;rintro e w1 ⟨rfl,l1,s1⟩;go_wp2_with fail;refine(zPu w1).mono ?_;rintro e w2 ⟨rfl,l2,s2⟩;go_wp2_with fail;go_ret
 have hz1:w.heap.size<w1.heap.size:=s1.blt;have la:=zAg w2 (.cells #[.pointer (some ⟨w.heap.size,0,none⟩),.pointer (some ⟨w1.heap.size,0,none⟩)] 476);have ca:=heap_alloc_new w2 (.cells #[.pointer (some ⟨w.heap.size,0,none⟩),.pointer (some ⟨w1.heap.size,0,none⟩)] 476);have l2':Later w w2:=Later.trans l1 l2;exact⟨_,rfl,l2'.trans la,w.heap.size,w1.heap.size,⟨l2'.size,Nat.le_refl _,l1.size,by omega⟩,ca,zAb (Later.trans l2 la) s1.2.1,zAb la s2.2.1⟩
theorem zIe(o r:Tu)(i sd st0 tl0 ms:Int)(w:World)(hp:o.pr=6)(h1:r.sp=21):
  Calls Tryz.prog 313 #[.agg #[.int .i64 i,.int .u8 o.pr,.int .u32 o.src,.int .u32 o.dst,.int .u16 o.sp,.int .u16 o.dp,.int .u8 r.pr,.int .u32 r.src,.int .u32 r.dst,.int .u16 r.sp,.int .u16 r.dp,.int .i64 sd,.int .i64 st0,.int .i64 tl0,.int .i64 ms]] w fun e w'=>∃hb,e= .returned (hft hb)∧Later w w'∧HfN w.heap.size w' hb:=by
 have l0:=zAg w (.cells #[.int .i64 i,.int .u8 o.pr,.int .u32 o.src,.int .u32 o.dst,.int .u16 o.sp,.int .u16 o.dp,.int .u8 r.pr,.int .u32 r.src,.int .u32 r.dst,.int .u16 r.sp,.int .u16 r.dp,.int .i64 sd,.int .i64 st0,.int .i64 tl0,.int .i64 ms] 106);have C0:=zAd (heap_alloc_new w (.cells #[.int .i64 i,.int .u8 o.pr,.int .u32 o.src,.int .u32 o.dst,.int .u16 o.sp,.int .u16 o.dp,.int .u8 r.pr,.int .u32 r.src,.int .u32 r.dst,.int .u16 r.sp,.int .u16 r.dp,.int .i64 sd,.int .i64 st0,.int .i64 tl0,.int .i64 ms] 106));have HP:=zAd hp;have H1:=zAd h1;clear hp h1;go_enter Tryz.func313,Tryz.ntmps313;go_upto_region 1 with fail;have hz0:=l0.size;generalize w.alloc _=w1 at*;generalize hgx:w.heap.size=gx at*;have k0:=zAa C0.out;rw[HP.out,H1.out]at k0;go_wp2_with fail;refine(zRl w1).mono ?_;rintro e w2 ⟨hb,rfl,l2,hn⟩;clear k0;go_wp2_with fail;go_ret
 exact⟨_,rfl,l0.trans l2,hn.mono (by omega)⟩
def zDa (s:Gf) (b:Nat) (o r:Tu) (sd st0 tl0 ms:Int) (hv:Value) (hT:TypeId) (hV:Value):Fl:=⟨b,s.bg,o,r,sd,st0,tl0,ms,hv,.iface hT hV⟩
def OpH (base:Nat) (w w':World) (g:Nat) (s:Gf) (o r:Tu) (sd st0 tl0 ms:Int) (hv:Value) (HW:TypeId→Value→World→Prop) (e:Ending):Prop:=∃(f:Fl) (hT:TypeId) (hV:Value),w.heap.size≤f.blk∧e= .returned (.pointer (some ⟨f.blk,0,none⟩))∧KG base w w'∧f.id=s.bg∧f.o=o∧f.r=r∧f.side=sd∧f.ms=ms∧f.hv=hv∧f.hp= .iface hT hV∧GF base w' g (bcS (opS s f) f 1)∧HW hT hV w'
def OpF (base:Nat) (w w':World) (g:Nat) (s:Gf) (o r:Tu) (sd st0 tl0 ms:Int) (hv:Value) (e:Ending):Prop:=∃(f:Fl) (hb:Nat),w.heap.size≤f.blk∧e= .returned (.pointer (some ⟨f.blk,0,none⟩))∧KG base w w'∧f.id=s.bg∧f.o=o∧f.r=r∧f.side=sd∧f.ms=ms∧f.hv=hv∧f.hp=hft hb∧GF base w' g (bcS (opS s f) f 1)∧HfN base w' hb
theorem open_h(base g:Nat)(s:Gf)(o r:Tu)(i0 sd st0 tl0 ms:Int)(ha:Option Addr)(hn hc:Nat)(w:World)(h:GF base w g s)(hp:o.pr=6)(HW:TypeId→Value→World→Prop)(hHL:∀hT hV A B,HW hT hV A→KG base A B→HW hT hV B)(hHP:∀W,base≤W.heap.size→Calls Tryz.prog 313 #[.agg #[.int .i64 s.bg,.int .u8 o.pr,.int .u32 o.src,.int .u32 o.dst,.int .u16 o.sp,.int .u16 o.dp,.int .u8 r.pr,.int .u32 r.src,.int .u32 r.dst,.int .u16 r.sp,.int .u16 r.dp,.int .i64 sd,.int .i64 st0,.int .i64 tl0,.int .i64 ms]] W fun e w'=>∃hT hV,e= .returned (.iface hT hV)∧Later W w'∧HW hT hV w')(hbs:base≤w.heap.size)(hBo:TuB o)(hBr:TuB r)(htr:0≤s.trn∧s.trn≤900000)(hnw:0≤s.now∧s.now≤549755813888)(hbg:0≤s.bg∧s.bg≤1000000)(hid:∀x∈s.fs,x.id≠s.bg)(hcn:0≤s.cnt∧s.cnt≤1000)(hln:∀i,(s.rw i).length≤4000):
  Calls Tryz.prog 284 #[.pointer (some ⟨g,0,none⟩),.agg #[.int .i64 i0,.int .u8 o.pr,.int .u32 o.src,.int .u32 o.dst,.int .u16 o.sp,.int .u16 o.dp,.int .u8 r.pr,.int .u32 r.src,.int .u32 r.dst,.int .u16 r.sp,.int .u16 r.dp,.int .i64 sd,.int .i64 st0,.int .i64 tl0,.int .i64 ms],.slice ha hn hc] w fun e w'=>OpH base w w' g s o r sd st0 tl0 ms (.slice ha hn hc) HW e:=by
 have l0:=zAg w (.cells #[.int .i64 i0,.int .u8 o.pr,.int .u32 o.src,.int .u32 o.dst,.int .u16 o.sp,.int .u16 o.dp,.int .u8 r.pr,.int .u32 r.src,.int .u32 r.dst,.int .u16 r.sp,.int .u16 r.dp,.int .i64 sd,.int .i64 st0,.int .i64 tl0,.int .i64 ms] 106);have C0:=zAd (heap_alloc_new w (.cells #[.int .i64 i0,.int .u8 o.pr,.int .u32 o.src,.int .u32 o.dst,.int .u16 o.sp,.int .u16 o.dp,.int .u8 r.pr,.int .u32 r.src,.int .u32 r.dst,.int .u16 r.sp,.int .u16 r.dp,.int .i64 sd,.int .i64 st0,.int .i64 tl0,.int .i64 ms] 106));have HG:=zAd (h.later l0);have HID:=zAd (fe_keys h s.bg hid);have HBF:=zAd (fun x (hx:x∈s.fs)=>(Array.getElem?_eq_some_iff.1 (h.fb x hx).2).1);have HHP:=zAd hHP;have HHL:=zAd hHL;have HFS:=zAd (fun W=>zUn o.pr W hp);have hwr:IntKind.i64.wrap (s.bg+1)=s.bg+1:=zMx _ (by omega) (by omega);have HWR:=zAd hwr;clear h hp hHP hHL hwr hid;go_enter Tryz.func284,Tryz.ntmps284;go_upto_region 1 with fail;generalize w.alloc _=w1 at*;generalize hgx:w.heap.size=gx at C0⊢;have kg:=zAa HG.out.gc;have fg:=zAc HG.out.gc;unfold gfc at kg;have kx0:=zAa C0.out;have fx0:=zAc C0.out;go_upto_region 3 with fail;have c1:=zAh C0.out 0 (.int .i64 s.bg)
 have hgg:g≠gx:=fun e=>by
  have q1:=HG.out.gc;have q2:=C0.out;rw[←e,q1]at q2;injection q2 with q3
  injection q3 with q4 q5 q6
  exact absurd q5 (by decide)
 have hA:=HG.out.other (TE.one C0.out) ((But.refl (fun b=>b=gx) w1).setCell (p:=⟨gx,0,none⟩) (show _=_ from rfl) (.int .i64 s.bg)) (by decide);have hB1:=hA.count (s.bg+1);have c2:((w1.setCell ⟨gx,0,none⟩ (.int .i64 s.bg)).setCell ⟨g,3,none⟩ (.int .i64 (s.bg+1))).heap[gx]? =some (.cells #[.int .i64 s.bg,.int .u8 o.pr,.int .u32 o.src,.int .u32 o.dst,.int .u16 o.sp,.int .u16 o.dp,.int .u8 r.pr,.int .u32 r.src,.int .u32 r.dst,.int .u16 r.sp,.int .u16 r.dp,.int .i64 sd,.int .i64 st0,.int .i64 tl0,.int .i64 ms] 106):=(((But.refl (fun b=>b=g) (w1.setCell ⟨gx,0,none⟩ (.int .i64 s.bg))).setCell (p:=⟨g,3,none⟩) (show _=_ from rfl) (.int .i64 (s.bg+1))).block gx (bl9 c1) (fun e=>hgg e.symm)).trans c1;have hbb:But (fun b=>b=g∨b=gx) w ((w1.setCell ⟨gx,0,none⟩ (.int .i64 s.bg)).setCell ⟨g,3,none⟩ (.int .i64 (s.bg+1))):=((But.of (E:=fun b=>b=g∨b=gx) l0).setCell (p:=⟨gx,0,none⟩) (.inr rfl) (.int .i64 s.bg)).setCell (p:=⟨g,3,none⟩) (.inl rfl) (.int .i64 (s.bg+1))
 have M2:Hid (KG base w ((w1.setCell ⟨gx,0,none⟩ (.int .i64 s.bg)).setCell ⟨g,3,none⟩ (.int .i64 (s.bg+1)))):=KG.of_but hbb (fun k e=>by
  rcases e with e|e
  ·rw[e]
   refine⟨HG.out.bs,fun ob ho=> ?_⟩;have q:=zAb l0 ho;rw[HG.out.gc]at q;cases q
   show gTs.contains _=true
   decide
  ·rw[e]
   refine⟨by omega,fun ob ho=> ?_⟩;have:=(bl9 ho);omega)
 have H2:=zAd hB1;have C2:=zAd c2;clear hbb hB1 c2 hA c1 kg fg kx0 fx0 C0 HG l0;generalize ((w1.setCell ⟨gx,0,none⟩ (.int .i64 s.bg)).setCell ⟨g,3,none⟩ (.int .i64 (s.bg+1)))=w2 at*;refine zAl (R:=Later) 7 rfl (by kernel_rfl) ?_;have ld:Later w2 w2.drew:=Later.drew w2;generalize w2.drew=w2d at*;have k2:∀v,Later w2d v→∀j,v.cell? ⟨gx,j,none⟩=#[.int .i64 s.bg,.int .u8 o.pr,.int .u32 o.src,.int .u32 o.dst,.int .u16 o.sp,.int .u16 o.dp,.int .u8 r.pr,.int .u32 r.src,.int .u32 r.dst,.int .u16 r.sp,.int .u16 r.dp,.int .i64 sd,.int .i64 st0,.int .i64 tl0,.int .i64 ms][j]? :=fun v hv=>zAa (zAb hv (zAb ld C2.out));refine tX Later.pre 0 ?_;refine tX Later.pre 1 ?_;refine tX Later.pre 2 ?_;clear k2;refine tO 3 ?_;refine zAj 313 #[.agg #[.int .i64 s.bg,.int .u8 o.pr,.int .u32 o.src,.int .u32 o.dst,.int .u16 o.sp,.int .u16 o.dp,.int .u8 r.pr,.int .u32 r.src,.int .u32 r.dst,.int .u16 r.sp,.int .u16 r.dp,.int .i64 sd,.int .i64 st0,.int .i64 tl0,.int .i64 ms]] (by go_simp) ?_;refine(HHP.out w2d (Nat.le_trans hbs (Nat.le_trans M2.out.size ld.size))).mono ?_;rintro e w3 ⟨hT,hV,rfl,l3,hHB⟩;have HHB:=zAd hHB;clear hHB;refine⟨l3,?_⟩;simp only[Act.put,sA,sB,sC];refine tX Later.pre 4 ?_
 have la:=zAg w3 (.cells #[.int .i64 s.bg,.int .u8 o.pr,.int .u32 o.src,.int .u32 o.dst,.int .u16 o.sp,.int .u16 o.dp,.int .u8 r.pr,.int .u32 r.src,.int .u32 r.dst,.int .u16 r.sp,.int .u16 r.dp,.int .i64 sd,.int .i64 st0,.int .i64 tl0,.int .i64 ms,.slice ha hn hc,.iface hT hV] 111);have ca:=heap_alloc_new w3 (.cells #[.int .i64 s.bg,.int .u8 o.pr,.int .u32 o.src,.int .u32 o.dst,.int .u16 o.sp,.int .u16 o.dp,.int .u8 r.pr,.int .u32 r.src,.int .u32 r.dst,.int .u16 r.sp,.int .u16 r.dp,.int .i64 sd,.int .i64 st0,.int .i64 tl0,.int .i64 ms,.slice ha hn hc,.iface hT hV] 111);have LA:=zAd la;have CA:=zAd ca;clear la ca;refine tO 5 ?_;unfold Oper.wp;go_simp;refine⟨LA.out,?_⟩;generalize w3.alloc _=w4 at*;have la:=LA.out;have ca:=CA.out;clear LA CA;refine tX Later.pre 6 ?_;refine tD ?_;have hgn:w.heap.size≤w3.heap.size:=Nat.le_trans M2.out.size (Nat.le_trans ld.size l3.size);generalize hgnn:w3.heap.size=gn at*;have L4:Later w2 w4:=ld.trans (l3.trans la);have HHB4:=zAd (HHL.out _ _ _ _ HHB.out (KG.of_later la));have H4:=zAd (H2.out.later L4);have M4:=zAd (M2.out.trans (KG.of_later L4));have N4:Hid (KG base w4 w4):=KG.refl _ _;have C4:=zAd (zAb L4 C2.out);have D4:=zAd ca;clear H2 M2 C2 ld l3 la ca L4 hgnn;go_upto_region 4 with fail;refine zAl (R:=But (fun b=>b=s.gf)) 8 rfl (by kernel_rfl) ?_;have ld:Later w4 w4.drew:=Later.drew w4;generalize w4.drew=w5 at*;have H4d:=zAd (H4.out.later ld);have M4d:=zAd (M4.out.trans (KG.of_later ld))
 have N4d:=zAd (N4.out.trans (KG.of_later (base:=base) ld));have C4d:=zAd (zAb ld C4.out);have D4d:=zAd (zAb ld D4.out);clear H4 M4 C4 D4 ld;have hnm:∀(b:Nat) (cur:Array Value) (t:TypeId) (f:Nat × Nat),w5.heap[b]? =some (.cells cur t f)→∀v,But (fun b=>b=s.gf) w5 v→v.heap[b]? =some (.cells cur t f):=fun b cur t f hb v hv=>(hv.block b (bl9 hb) (fun e=>by have e':b=s.gf:=e;have hh:=H4d.out.fl;simp only at hh;rw[←e',hb]at hh;cases hh)).trans hb;have k1:∀v,But (fun b=>b=s.gf) w5 v→∀j,v.cell? ⟨g,j,none⟩=(gfc { s with bg:=s.bg+1 }).toArray[j]? :=fun v hv=>zAa (hnm _ _ _ _ H4d.out.gc v hv);have k2:∀v,But (fun b=>b=s.gf) w5 v→∀j,v.cell? ⟨gx,j,none⟩=#[.int .i64 s.bg,.int .u8 o.pr,.int .u32 o.src,.int .u32 o.dst,.int .u16 o.sp,.int .u16 o.dp,.int .u8 r.pr,.int .u32 r.src,.int .u32 r.dst,.int .u16 r.sp,.int .u16 r.dp,.int .i64 sd,.int .i64 st0,.int .i64 tl0,.int .i64 ms][j]? :=fun v hv=>zAa (hnm _ _ _ _ C4d.out v hv);unfold gfc at k1;simp only at k1;refine tX (But.pre (fun b=>b=s.gf)) 0 ?_;refine tX (But.pre (fun b=>b=s.gf)) 1 ?_;refine tX (But.pre (fun b=>b=s.gf)) 2 ?_;refine tX (But.pre (fun b=>b=s.gf)) 3 ?_;refine tX (But.pre (fun b=>b=s.gf)) 4 ?_;refine tX (But.pre (fun b=>b=s.gf)) 5 ?_;refine tX (But.pre (fun b=>b=s.gf)) 6 ?_;clear k1 k2;obtain⟨w6,hrun,hm6,hb6⟩:=ins_flow (w:=w5) (b:=s.gf) (c:=s.cf) (es:=s.fe) H4d.out.fl s.bg (.pointer (some ⟨gn,0,none⟩)) (zPp _ _ 0 HID.out);refine tO 7 ?_;have HB6:=zAd hb6;have HM6:=zAd hm6;clear hb6 hm6
 unfold Oper.wp;go_simp;refine⟨HB6.out,?_⟩;refine tD ?_;clear hrun;have hD:base≤((zDa s gn o r sd st0 tl0 ms (.slice ha hn hc) hT hV)).blk∧w5.heap[((zDa s gn o r sd st0 tl0 ms (.slice ha hn hc) hT hV)).blk]? =some (.cells (flc (zDa s gn o r sd st0 tl0 ms (.slice ha hn hc) hT hV)).toArray 111 (0,0)):=⟨Nat.le_trans hbs hgn,D4d.out⟩;have H5:Hid (GF base w6 g (s.begun (zDa s gn o r sd st0 tl0 ms (.slice ha hn hc) hT hV))):=H4d.out.written (zDa s gn o r sd st0 tl0 ms (.slice ha hn hc) hT hV) (by show s.bg=s.bg+1-1;omega) HB6.out HM6.out hD
 have M5:Hid (KG base w w6):=M4d.out.trans (KG.of_but HB6.out (fun k e=>by
  have e':k=s.gf:=e;rw[e'];refine⟨H4d.out.bf.1,fun ob ho=> ?_⟩;have hh:=H4d.out.fl;simp only at hh;rw[hh]at ho;cases ho
  exact trivial))
 have N5:Hid (KG base w4 w6):=N4d.out.trans (KG.of_but HB6.out (fun k e=>by
  have e':k=s.gf:=e;rw[e'];refine⟨H4d.out.bf.1,fun ob ho=> ?_⟩;have hh:=H4d.out.fl;simp only at hh;rw[hh]at ho;cases ho
  exact trivial))
 have C5:=zAd (hnm _ _ _ _ C4d.out w6 HB6.out);clear H4d M4d C4d D4d HB6 HM6 hnm hD;go_upto_region 5 with fail;refine zAl (R:=KX) 13 rfl (by kernel_rfl) ?_;have ld:Later w6 w6.drew:=Later.drew w6;generalize w6.drew=w6d at*;have HD:=zAd (H5.out.later ld);have MD:=zAd (M5.out.trans (KG.of_later ld));have ND:=zAd (N5.out.trans (KG.of_later (base:=base) ld));have CD:=zAd (zAb ld C5.out);clear H5 M5 C5 ld;have hbd:base≤w6d.heap.size:=Nat.le_trans hbs MD.out.size;have k1:∀v,KX w6d v→∀j,v.cell? ⟨g,j,none⟩=(gfc (s.begun (zDa s gn o r sd st0 tl0 ms (.slice ha hn hc) hT hV))).toArray[j]? :=fun v hv=>zAa (hv g _ _ _ HD.out.gc (by decide) (by decide));have k2:∀v,KX w6d v→∀j,v.cell? ⟨gx,j,none⟩=#[.int .i64 s.bg,.int .u8 o.pr,.int .u32 o.src,.int .u32 o.dst,.int .u16 o.sp,.int .u16 o.dp,.int .u8 r.pr,.int .u32 r.src,.int .u32 r.dst,.int .u16 r.sp,.int .u16 r.dp,.int .i64 sd,.int .i64 st0,.int .i64 tl0,.int .i64 ms][j]? :=fun v hv=>zAa (hv gx _ _ _ CD.out (by decide) (by decide));unfold gfc Gf.begun at k1;simp only at k1;refine tX KX.pre 0 ?_;refine tX KX.pre 1 ?_;refine tX KX.pre 2 ?_;refine tX KX.pre 3 ?_;refine tX KX.pre 4 ?_;refine tX KX.pre 5 ?_;refine tX KX.pre 6 ?_;refine tX KX.pre 7 ?_;refine tX KX.pre 8 ?_;refine tX KX.pre 9 ?_;refine tX KX.pre 10 ?_;refine tX KX.pre 11 ?_;clear k1 k2;refine tO 12 ?_
 refine zAj 314 #[.pointer (some ⟨s.gt,0,none⟩),.agg #[.int .u8 o.pr,.int .u32 o.src,.int .u32 o.dst,.int .u16 o.sp,.int .u16 o.dp],.int .i64 s.bg,.int .i64 s.now] (by go_simp) ?_;refine(putF base s.gt (s.cnt,s.trn,s.rw).1 (s.cnt,s.trn,s.rw).2.1 (s.cnt,s.trn,s.rw).2.2 o s.bg s.now w6d HD.out.tb hBo hbd (by simp only;omega) (by simp only;omega) (fun i=>by have:=hln i;simp only;omega)).mono ?_;rintro e w7 ⟨ev,rfl,hT,hk,hm,hg⟩;refine⟨KX.of hk,?_⟩;simp only[Act.put,sA,sB,sC];refine tD ?_;have H6:=zAd (HD.out.tabled hk hm hT);have M6:=zAd (MD.out.trans hg);have N6:=zAd (ND.out.trans hg);have C6:=zAd (hk gx _ _ _ CD.out (by decide) (by decide));clear HD MD CD hT hk hm hg hbd;go_upto_region 6 with fail;refine zAl (R:=KX) 13 rfl (by kernel_rfl) ?_;have ld:Later w7 w7.drew:=Later.drew w7;generalize w7.drew=w7d at*;have HD:=zAd (H6.out.later ld);have MD:=zAd (M6.out.trans (KG.of_later ld));have ND:=zAd (N6.out.trans (KG.of_later (base:=base) ld));have CD:=zAd (zAb ld C6.out);clear H6 M6 C6 ld;have hbd:base≤w7d.heap.size:=Nat.le_trans hbs MD.out.size;have k1:∀v,KX w7d v→∀j,v.cell? ⟨g,j,none⟩=(gfc (s.begun (zDa s gn o r sd st0 tl0 ms (.slice ha hn hc) hT hV))).toArray[j]? :=fun v hv=>zAa (hv g _ _ _ HD.out.gc (by decide) (by decide))
 have k2:∀v,KX w7d v→∀j,v.cell? ⟨gx,j,none⟩=#[.int .i64 s.bg,.int .u8 o.pr,.int .u32 o.src,.int .u32 o.dst,.int .u16 o.sp,.int .u16 o.dp,.int .u8 r.pr,.int .u32 r.src,.int .u32 r.dst,.int .u16 r.sp,.int .u16 r.dp,.int .i64 sd,.int .i64 st0,.int .i64 tl0,.int .i64 ms][j]? :=fun v hv=>zAa (hv gx _ _ _ CD.out (by decide) (by decide));unfold gfc Gf.begun at k1;simp only at k1;refine tX KX.pre 0 ?_;refine tX KX.pre 1 ?_;refine tX KX.pre 2 ?_;refine tX KX.pre 3 ?_;refine tX KX.pre 4 ?_;refine tX KX.pre 5 ?_;refine tX KX.pre 6 ?_;refine tX KX.pre 7 ?_;refine tX KX.pre 8 ?_;refine tX KX.pre 9 ?_;refine tX KX.pre 10 ?_;refine tX KX.pre 11 ?_;clear k1 k2;refine tO 12 ?_;refine zAj 314 #[.pointer (some ⟨s.gt,0,none⟩),.agg #[.int .u8 r.pr,.int .u32 r.src,.int .u32 r.dst,.int .u16 r.sp,.int .u16 r.dp],.int .i64 s.bg,.int .i64 s.now] (by go_simp) ?_;refine(putF base s.gt (ptT o s.bg s.now (s.cnt,s.trn,s.rw)).1 (ptT o s.bg s.now (s.cnt,s.trn,s.rw)).2.1 (ptT o s.bg s.now (s.cnt,s.trn,s.rw)).2.2 r s.bg s.now w7d HD.out.tb hBr hbd (by have:=zK7 o s.bg s.now (s.cnt,s.trn,s.rw);simp only at this;omega) (by have:=zK7 o s.bg s.now (s.cnt,s.trn,s.rw);simp only at this;omega) (fun i=>by have h1:=hln i;have h2:=(zK7 o s.bg s.now (s.cnt,s.trn,s.rw)).2.2.2.2 i;simp only at h2;omega)).mono ?_;rintro e w8 ⟨ev,rfl,hT,hk,hm,hg⟩;refine⟨KX.of hk,?_⟩;simp only[Act.put,sA,sB,sC];refine tD ?_;have H7:=zAd (HD.out.tabled hk hm hT);have M7:=zAd (MD.out.trans hg)
 have M47:=zAd (ND.out.trans hg);have C7:=zAd (hk gx _ _ _ CD.out (by decide) (by decide));clear HD MD CD hT hk hm hg hbd;go_upto_region 7 with fail;have k2:=zAa C7.out;have hin:(zDa s gn o r sd st0 tl0 ms (.slice ha hn hc) hT hV)∈(opS s (zDa s gn o r sd st0 tl0 ms (.slice ha hn hc) hT hV)).fs:=by show _∈s.fs++[_];simp
 have huq:∀x∈(opS s (zDa s gn o r sd st0 tl0 ms (.slice ha hn hc) hT hV)).fs,x.blk=((zDa s gn o r sd st0 tl0 ms (.slice ha hn hc) hT hV)).blk→x=(zDa s gn o r sd st0 tl0 ms (.slice ha hn hc) hT hV):=fun x hx e=>by
  have hx':x∈s.fs++[(zDa s gn o r sd st0 tl0 ms (.slice ha hn hc) hT hV)]:=hx;rcases List.mem_append.1 hx' with hx'|hx'
  ·have q1:=HBF.out x hx'
   have q2:x.blk=gn:=e;omega
  ·simpa using hx'
 have htr2:0≤(opS s (zDa s gn o r sd st0 tl0 ms (.slice ha hn hc) hT hV)).trn∧(opS s (zDa s gn o r sd st0 tl0 ms (.slice ha hn hc) hT hV)).trn≤999999:=by
  have q1:=zK7 o s.bg s.now (s.cnt,s.trn,s.rw);have q2:=zK7 r s.bg s.now (ptT o s.bg s.now (s.cnt,s.trn,s.rw));show 0≤(ptT r s.bg s.now (ptT o s.bg s.now (s.cnt,s.trn,s.rw))).2.1∧(ptT r s.bg s.now (ptT o s.bg s.now (s.cnt,s.trn,s.rw))).2.1≤999999
  simp only at q1 q2;omega
 have HBC:=zAd (zH6 base g (opS s (zDa s gn o r sd st0 tl0 ms (.slice ha hn hc) hT hV)) (zDa s gn o r sd st0 tl0 ms (.slice ha hn hc) hT hV) 1 w8 H7.out hin huq (Nat.le_trans hbs M7.out.size) hBo hBr htr2 hnw);clear hin huq htr2 H7;go_wp2_with fail;refine(HFS.out w8).mono ?_;rintro e w9 ⟨rfl,rfl⟩;go_wp2_with fail;refine HBC.out.mono ?_;rintro e w10 ⟨rfl,mk,hG⟩;clear k2;go_wp2_with fail;go_ret
 exact⟨(zDa s gn o r sd st0 tl0 ms (.slice ha hn hc) hT hV),hT,hV,hgn,rfl,M7.out.trans mk,rfl,rfl,rfl,rfl,rfl,rfl,rfl,hG,HHL.out _ _ _ _ (HHL.out _ _ _ _ HHB4.out M47.out) mk⟩
theorem open_ftp(base g:Nat)(s:Gf)(o r:Tu)(i0 sd st0 tl0 ms:Int)(ha:Option Addr)(hn hc:Nat)(w:World)(h:GF base w g s)(hp:o.pr=6)(h1:r.sp=21)(hbs:base≤w.heap.size)(hBo:TuB o)(hBr:TuB r)(htr:0≤s.trn∧s.trn≤900000)(hnw:0≤s.now∧s.now≤549755813888)(hbg:0≤s.bg∧s.bg≤1000000)(hid:∀x∈s.fs,x.id≠s.bg)(hcn:0≤s.cnt∧s.cnt≤1000)(hln:∀i,(s.rw i).length≤4000):
  Calls Tryz.prog 284 #[.pointer (some ⟨g,0,none⟩),.agg #[.int .i64 i0,.int .u8 o.pr,.int .u32 o.src,.int .u32 o.dst,.int .u16 o.sp,.int .u16 o.dp,.int .u8 r.pr,.int .u32 r.src,.int .u32 r.dst,.int .u16 r.sp,.int .u16 r.dp,.int .i64 sd,.int .i64 st0,.int .i64 tl0,.int .i64 ms],.slice ha hn hc] w fun e w'=>OpF base w w' g s o r sd st0 tl0 ms (.slice ha hn hc) e:=by
 refine(open_h base g s o r i0 sd st0 tl0 ms ha hn hc w h hp (fun hT hV W=>∃hb,Value.iface hT hV=hft hb∧HfN base W hb) (fun hT hV A B ⟨hb,e,h⟩ k=>⟨hb,e,h.kg k⟩) (fun W hw=>(zIe o r s.bg sd st0 tl0 ms W hp h1).mono (fun e w' ⟨hb,e1,l,hN⟩=>⟨_,_,e1,l,hb,rfl,hN.mono hw⟩)) hbs hBo hBr htr hnw hbg hid hcn hln).mono ?_;rintro e w' ⟨f,hT,hV,h1,h2,h3,h4,h5,h6,h7,h8,h9,h10,h11,hb,e2,h12⟩;exact⟨f,hb,h1,h2,h3,h4,h5,h6,h7,h8,h9,h10.trans e2,h11,h12⟩
end Go.Proofs.YteaeilghamjjkaaGreatDoor
