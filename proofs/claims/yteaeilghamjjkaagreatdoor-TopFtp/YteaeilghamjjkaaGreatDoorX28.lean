import Derived.Test.YteaeilghamjjkaaGreatDoorX29
import Derived.RangeFuncNested
import Derived.Deep.DeepCutAuto
import Derived.Deep.CutBlock
namespace Go.Proofs.YteaeilghamjjkaaGreatDoor
set_option maxHeartbeats 4000000
open Go.RowKit Go.Shelf
set_option maxRecDepth 100000
theorem zD5(w:World):Rd w.heap.size w (.slice none 0 0) []:= .inl ⟨none,0,rfl,rfl,by omega,fun _=>rfl⟩
set_option linter.unusedVariables false
def GenX {α:Type} (F:Fence) (n:Nat) (P:Program) (g:Nat) (lb:Array Value) (encs:α→Array Value) (Kp:World→World→Prop) (X:List α→α→World→Prop) (S Sp:List α→Prop) (w:World):Prop:=
 ∀(l:Nat) (J Jx:List α→World→Prop) (W:World),Below w.heap.size w W→(∀s A B,J s A→Later A B→J s B)→
  (∀pre x V,J pre V→X pre x V→YieldAt F (n-1) P l (encs x) V fun e V'=>(e= .returned (.bool true)∧J (pre++[x]) V'∧Kp V V')∨(e= .returned (.bool false)∧Jx (pre++[x]) V'))→
  J [] W→CallsIn F n P g (#[.func (.yield l) #[] #[]]++lb) W fun e W'=>(∃v,e= .returned v)∧((∃xs,S xs∧J xs W')∨∃pre,Sp pre∧Jx pre W')
def postX {α:Type} (B:Nat) (Kp:World→World→Prop) (I Ix:List α→World→Prop) (xs:List α) (W:World):Exit→Act→World→Prop
 | .normal,_,V=>KeepsFrom B W V∧Kp W V∧I xs V
 | .ret,_,V=>KeepsFrom B W V∧Ix xs V
 |_,_,_=>False
theorem zAb {A B:World} (h:Later A B) {k:Nat} {o:Obj} (ho:A.heap[k]? =some o):B.heap[k]? =some o:=(h.block k (bl9 ho)).trans ho
theorem zB7 {F:Fence} {n:Nat} {P:Program} {α:Type} {g:Operand} {ps:Array Tmp} {assign body:Code} {Q:Exit→Act→World→Prop} {a:Act} {w:World}
  (hro:F.round=none)(h1:1≤n) {gf:Nat} {lb:Array Value} (hg:a.eval g= .func (.func gf) #[] lb)(hFg:F.fn gf)(eg:∀args w,(callFunc gf args).run P w= .ok (.enter gf args) w)
  {encs:α→Array Value} {Kp:World→World→Prop} {X:List α→α→World→Prop} {S Sp:List α→Prop} (hseq:GenX F (n-1) P gf lb encs Kp X S Sp w)
  (hKt:∀ {A B C:World},Kp A B→Kp B C→Kp A C)(hKb:∀(W:World) (l:Nat) (o o':Obj),w.heap.size≤l→W.heap[l]? =some o→o.isCells=false→o.isWalk=false→Kp W (W.putObj l o'))
  (hKl:∀ {A B:World},w.heap.size≤A.heap.size→Later A B→Kp A B)(hXl:∀pre x A B,X pre x A→Later A B→X pre x B)
  (hXb:∀pre x (W:World) (l:Nat) (o o':Obj),w.heap.size≤l→W.heap[l]? =some o→o.isCells=false→X pre x W→X pre x (W.putObj l o'))(hps:∀x,(encs x).size=ps.size)
  (I Ix:List α→World→Prop)(hI:OwnFrom w.heap.size I)(hIl:∀s A B,I s A→Later A B→I s B)(hIx:OwnFrom w.heap.size Ix)(h0:I [] w)
  (A:α→Act→World→Prop)(hA:∀x a' (W:World) (l:Nat) (o o':Obj),w.heap.size≤l→W.heap[l]? =some o→o.isCells=false→A x a' W→A x a' (W.putObj l o'))
  (hassign:∀(l:Nat) (pre:List α) (x:α) (W:World) (K:Act→World→Prop),w.heap.size≤W.heap.size→I pre W→X pre x W→(∀a' W',Later W W'→A x a' W'→K a' W')→
   assign.wpIn (F.inRound l) (n-1-1) P (Exit.then K (fun _ _ _=>False)) { tmps:=(ps.zip (encs x)).foldl (fun t (p,v)=>t.setIfInBounds p v) a.tmps,defers:=[] } W)
  (hbody:∀(l:Nat) (pre:List α) (x:α) (a':Act) (W:World),I pre W→X pre x W→A x a' W→body.wpIn (F.inRound l) (n-1-1) P (postX w.heap.size Kp I Ix (pre++[x]) W) a' W)
  (hdone:∀(D:Nat) (xs:List α) (W:World),w.heap.size≤D→S xs→I xs W→W.heap[D]? =some (.deferred (some []))→Q .normal { a with defers:= { target:= .collected D,args:=#[] } ::a.defers } W)
  (hstop:∀(D:Nat) (pre:List α) (W:World),w.heap.size≤D→Sp pre→Ix pre W→W.heap[D]? =some (.deferred (some []))→Code.ret.wpIn F n P Q { a with defers:= { target:= .collected D,args:=#[] } ::a.defers } W):
  (Code.rangeFunc g ps assign body).wpIn F n P Q a w:=by
 refine wpIn_rangeFunc fun fn hfn=> ?_;rw[hro];obtain⟨rec,hrec⟩:∃rec:LoopState→Option Code→Loop,rec=fun st pe=> { state:=st,pending:=pe,fn,tmps:=a.tmps,params:=ps,assign,body,defers:=w.heap.size } :=⟨_,rfl⟩;obtain⟨V,hV⟩:∃V,(w.alloc (.deferred (some []))).alloc (.loop (rec .ready none))=V:=⟨_,rfl⟩
 have hl:V.heap[w.heap.size+1]? =some (.loop (rec .ready none)):=by
  have:=World.alloc_heap_new (w.alloc (.deferred (some []))) (.loop (rec .ready none));rw[World.size_alloc]at this;rw[←hV];exact this
 have hk:V.heap[w.heap.size]? =some (.deferred (some [])):=by
  rw[←hV];exact(Below.heap_alloc _ _ _ (by simp)).trans (World.alloc_heap_new w _)
 have hi:I [] V:=by rw[←hV];exact hI.alloc _ (hI.alloc _ h0)
 have hb:Below w.heap.size w V:=by rw[←hV];exact((Below.refl _ w).alloc (Nat.le_refl _) _).alloc (by simp) _
 refine⟨w.heap.size+1,[{ target:= .collected w.heap.size,args:=#[] }],V, { target:= .fn (.func gf) lb,args:=#[.func (.yield (w.heap.size+1)) #[] #[]] },V,gf,#[.func (.yield (w.heap.size+1)) #[] #[]]++lb,V,?_,?_,?_,?_,fun _=>h1,?_⟩
 ·rw[←hV,hrec];exact run_enterLoop_outer _ _ _ _ _
 ·simp only[resolve,hg]
  simp[go_sem]
 ·intro f' hf';simp[Target.leads]at hf';subst hf';exact hFg
 ·simp[invoke,go_sem,eg]
 refine(hseq (w.heap.size+1) (fun pre W=>I pre W∧W.heap[w.heap.size+1]? =some (.loop (rec .ready none))∧W.heap[w.heap.size]? =some (.deferred (some [])))
  (fun pre W=>Ix pre W∧W.heap[w.heap.size+1]? =some (.loop (rec .done (some .ret)))∧W.heap[w.heap.size]? =some (.deferred (some []))) V hb
  (fun s A B hs h=>⟨hIl s A B hs.1 h,zAb h hs.2.1,zAb h hs.2.2⟩) ?_ ⟨hi,hl,hk⟩).mono ?_
 ·rintro pre x W ⟨ji,jl,jk⟩ hx
  have hlt:w.heap.size+1<W.heap.size:=(bl9 jl);have hy:=run_yield (P:=P) (args:=encs x) jl (by rw[hrec];exact hps x);rw[hrec]at hy;refine⟨fn,_,assign,body,hy,roundIn_of_wpIn hfn (hassign _ pre x W _ (by omega) ji hx fun a' W' hL hAx=> ?_)⟩;have pL:Kp W W':=hKl (by omega) hL;replace ji:=hIl _ _ _ ji hL
  replace jl:=zAb hL jl
  replace jk:=zAb hL jk
  replace hx:=hXl _ _ _ _ hx hL
  replace hlt:w.heap.size+1<W'.heap.size:=(bl9 jl)
  refine⟨_,run_beginRound jl (by rw[hrec]),?_⟩;obtain⟨U,hU⟩:∃U,W'.putObj (w.heap.size+1) (.loop { rec .ready none with state:= .busy })=U:=⟨_,rfl⟩;have l2:U.heap[w.heap.size+1]? =some (.loop { rec .ready none with state:= .busy }):=by rw[←hU];exact World.putObj_heap_same hlt
  have k2:U.heap[w.heap.size]? =some (.deferred (some [])):=by rw[←hU];exact(World.putObj_heap_other (by omega)).trans jk
  have p2:Kp W U:=by rw[←hU];exact hKt pL (hKb _ _ _ _ (by omega) jl rfl rfl)
  have a2:A x a' U:=by rw[←hU];exact hA _ _ _ _ _ _ (by omega) jl rfl hAx
  have i2:I pre U:=by rw[←hU];exact hI.putObj _ ji (by omega) jl rfl
  have x2:X pre x U:=by rw[←hU];exact hXb _ _ _ _ _ _ (by omega) jl rfl hx
  rw[hU];refine wpIn_mono (hbody _ pre x a' U i2 x2 a2) ?_
  have fin:∀(jump:Option Code) (Z:World),KeepsFrom w.heap.size U Z→
    (Instr.endRound (w.heap.size+1) jump).run P Z= .ok (.bool jump.isNone) (Z.putObj (w.heap.size+1) (.loop (rec (if jump.isNone then .ready else .done) jump)))∧Z.heap[w.heap.size+1]? =some (.loop { rec .ready none with state:= .busy })∧
    (Z.putObj (w.heap.size+1) (.loop (rec (if jump.isNone then .ready else .done) jump))).heap[w.heap.size+1]? =some (.loop (rec (if jump.isNone then .ready else .done) jump))∧
    (Z.putObj (w.heap.size+1) (.loop (rec (if jump.isNone then .ready else .done) jump))).heap[w.heap.size]? =some (.deferred (some [])):=fun jump Z hZ=>by
   have l3:=hZ.same _ _ (by omega) l2 rfl;have r3:=run_endRound (P:=P) jump l3;rw[hrec]at r3⊢;exact⟨r3,by rw[hrec]at l3;exact l3,World.putObj_heap_same (bl9 l3),(World.putObj_heap_other (by omega)).trans (hZ.same _ _ (Nat.le_refl _) k2 rfl)⟩
  rintro e a3 Z hp;cases e with
  |normal=>
   obtain⟨hZ,hp3,hi3⟩:=hp;obtain⟨hr,l3,l4,k4⟩:=fin none Z hZ;exact⟨_,_,hr,.inl ⟨rfl,⟨hI.putObj _ hi3 (by omega) l3 rfl,l4,k4⟩,hKt (hKt p2 hp3) (hKb _ _ _ _ (by omega) l3 rfl rfl)⟩⟩
  |ret=>
   obtain⟨hZ,hi3⟩:=hp;obtain⟨hr,l3,l4,k4⟩:=fin (some .ret) Z hZ;exact⟨_,_,hr,.inr ⟨rfl,hIx.putObj _ hi3 (by omega) l3 rfl,l4,k4⟩⟩
  |exit id=>exact hp.elim
  |goto t=>exact hp.elim
  |panic ch=>exact hp.elim
  |outgrown=>exact hp.elim
 ·rintro e W2 ⟨⟨v,rfl⟩,(⟨xs,hS,ji,jl,jk⟩|⟨pre,hSp,ji,jl,jk⟩)⟩
  ·exact ⟨none,_,by have:=run_endLoop (P:=P) jl (by rw[hrec];simp);rw[hrec]at this;exact this,hdone _ xs _ (Nat.le_refl _) hS (hI.putObj _ ji (by omega) jl rfl) ((World.putObj_heap_other (by omega)).trans jk)⟩
  ·exact ⟨some .ret,_,by have:=run_endLoop (P:=P) jl (by rw[hrec];simp);rw[hrec]at this;exact this,hstop _ pre _ (Nat.le_refl _) hSp (hIx.putObj _ ji (by omega) jl rfl) ((World.putObj_heap_other (by omega)).trans jk)⟩
set_option linter.unusedSimpArgs false
structure Ru where
 kind:Int
 proto:Int
 net:Int
 bits:Int
 tt:Int
 port:Int
 host:Int
 hp:Int
deriving DecidableEq
def ruc (r:Ru):List Value:=[.int .i64 r.kind,.int .u8 r.proto,.int .u32 r.net,.int .i64 r.bits,.int .u32 r.tt,.int .u16 r.port,.int .u32 r.host,.int .u16 r.hp]
def zRu:Ru:=⟨0,0,0,0,0,0,0,0⟩
def rus (l:List Ru):List Value:=l.flatMap ruc
theorem zE4(r:Ru):(ruc r).length=8:=rfl
theorem zOy(l:List Ru)(r:Ru):rus (l++[r])=rus l++ruc r:=by unfold rus;simp
theorem rus_at:∀(l:List Ru) (j i:Nat) (hj:j<l.length),i<8→(rus l)[j*8+i]? =(ruc l[j])[i]?
 |r::l,0,i,_,hi=>by
  unfold rus;rw[List.flatMap_cons,Nat.zero_mul,Nat.zero_add,List.getElem?_append_left (by rw[zE4];exact hi)];rfl
 |r::l,j+1,i,hj,hi=>by
  have ih:=rus_at l j i (by simpa using hj) hi;unfold rus at ih⊢;rw[List.flatMap_cons,List.getElem?_append_right (by rw[zE4];omega),zE4,show(j+1)*8+i-8=j*8+i from by omega,ih];rfl
def wfR (r:Ru):Prop:=(-9223372036854775808≤r.kind∧r.kind≤9223372036854775807)∧(0≤r.proto∧r.proto≤255)∧(0≤r.net∧r.net≤4294967295)∧(-9223372036854775808≤r.bits∧r.bits≤9223372036854775807)∧(0≤r.tt∧r.tt≤4294967295)∧(0≤r.port∧r.port≤65535)∧(0≤r.host∧r.host≤4294967295)∧(0≤r.hp∧r.hp≤65535)
def RdQ (n₀:Nat) (W:World) (sv:Value) (l:List Ru):Prop:=
 (∃a cap,sv= .slice a 0 cap∧l=[]∧cap≤9223372036854775807∧(a=none→cap=0))∨
 ∃b off cap,sv= .slice (some ⟨b,off,none⟩) l.length cap∧l≠ []∧l.length≤cap∧cap≤9223372036854775807∧b<n₀∧∀j (hj:j<l.length),∀i,i<8→W.cell? ⟨b,off+j*8+i,none⟩=(ruc l[j])[i]?
theorem RdQ.below {n₀:Nat} {A B:World} (h:Below n₀ A B) {sv:Value} {l:List Ru} :RdQ n₀ A sv l→RdQ n₀ B sv l
 | .inl e=> .inl e
 | .inr ⟨b,off,cap,e,hne,hl,hm,hb,hc⟩=> .inr ⟨b,off,cap,e,hne,hl,hm,hb,fun j hj i hi=>(h.cell (p:=⟨b,off+j*8+i,none⟩) hb).trans (hc j hj i hi)⟩
theorem RdQ.slice {n₀:Nat} {A:World} {sv:Value} {l:List Ru} :RdQ n₀ A sv l→∃a cap,sv= .slice a l.length cap∧l.length≤cap∧cap≤9223372036854775807
 | .inl ⟨a,cap,e,hz,hm,_⟩=>⟨a,cap,by rw[e,hz];rfl,by rw[hz];exact Nat.zero_le _,hm⟩
 | .inr ⟨b,off,cap,e,_,hl,hm,_⟩=>⟨_,cap,e,hl,hm⟩
theorem RdQ.cells {n₀:Nat} {W:World} {sv:Value} {l:List Ru} (h:RdQ n₀ W sv l)(hne:0<l.length):∃b off cap,sv= .slice (some ⟨b,off,none⟩) l.length cap∧l.length≤cap∧cap≤9223372036854775807∧b<n₀∧∀j (hj:j<l.length),∀i,i<8→W.cell? ⟨b,off+j*8+i,none⟩=(ruc l[j])[i]? :=by
 rcases h with⟨a,cap,_,rfl,_⟩|⟨b,off,cap,e,_,hl,hm,hb,hc⟩
 ·simp at hne
 ·exact ⟨b,off,cap,e,hl,hm,hb,hc⟩
theorem zSo {base:Nat} {W:World} {v:Value} {l:List Ru} (h:W.ownsRow base 125 8 v l.length (rus l)):RdQ W.heap.size W v l:=by
 obtain⟨h1,⟨rfl,h0⟩|⟨g,cap,cur,rfl,hg,hh,hl,hm,hs,hc⟩⟩:=h
 ·have:l=[]:=List.eq_nil_of_length_eq_zero h0
  subst this;exact .inl ⟨none,0,rfl,rfl,by omega,fun _=>rfl⟩
 ·by_cases hn:l=[]
  ·subst hn
   exact .inl ⟨_,cap,rfl,rfl,by simpa[maxLen]using hm,fun h=>by cases h⟩
  ·refine .inr ⟨g,0,cap,rfl,hn,hl,by simpa[maxLen]using hm,(bl9 hh),fun j hj i hi=> ?_⟩
   rw[Nat.zero_add,zAa hh,←rus_at l j i hj hi,←hc,List.getElem?_take_of_lt (by omega)];simp
theorem zQm {base:Nat} {A B:World} {v:Value} {n:Nat} {xs:List Value} (h:A.ownsRow base 125 8 v n xs)(l:Later A B):B.ownsRow base 125 8 v n xs:=by
 obtain⟨h1,h2|⟨g,cap,cur,hv,hg,hh,r⟩⟩:=h
 ·exact ⟨h1,.inl h2⟩
 ·exact ⟨h1,.inr ⟨g,cap,cur,hv,hg,zAb l hh,r⟩⟩
def RL (t:TypeId) (base:Nat) (W:World) (b:Nat) (v:Value) (l:List Ru):Prop:=base≤b∧W.heap[b]? =some (.cells #[v] t (0,0))∧W.ownsRow base 125 8 v l.length (rus l)
theorem RL.later {t:TypeId} {base:Nat} {A B:World} {b:Nat} {v:Value} {l:List Ru} (h:RL t base A b v l)(k:Later A B):RL t base B b v l:=⟨h.1,zAb k h.2.1,zQm h.2.2 k⟩
theorem RL.ne {t t2:TypeId} {base:Nat} {W:World} {b c:Nat} {v:Value} {l:List Ru} {cur:Array Value} (h:RL t base W b v l)(hc:W.heap[c]? =some (.cells cur t2 (0,0)))(ht:t2≠125):v.ownBlock≠some c:=fun e=>by
 obtain⟨h1,⟨hn,_⟩|⟨g,cap,cu,hv,hg,hh,r⟩⟩:=h.2.2
 ·rw[hn]at e;cases e
 ·rw[hv]at e
  cases e
  rw[hc]at hh
  simp at hh
  exact ht hh.2
theorem RL.lt {t:TypeId} {base:Nat} {W:World} {b:Nat} {v:Value} {l:List Ru} (h:RL t base W b v l) {g:Nat} (e:v.ownBlock=some g):base≤g∧g<W.heap.size:=by
 obtain⟨h1,⟨hn,_⟩|⟨g2,cap,cu,hv,hg,hh,r⟩⟩:=h.2.2
 ·rw[hn]at e;cases e
 ·rw[hv]at e
  cases e
  exact⟨hg,(bl9 hh)⟩
theorem RL.blt {t:TypeId} {base:Nat} {W:World} {b:Nat} {v:Value} {l:List Ru} (h:RL t base W b v l):b<W.heap.size:=(bl9 h.2.1)
def upm (k:Int):Int:=4294967296-2^(32-k.toNat)
def upp (n k:Int):Int:=n/2^(32-k.toNat)*2^(32-k.toNat)
theorem zQn(n j:Nat)(hj:j≤32)(hn:n<4294967296):n &&& (4294967296-2^j)=n/2^j*2^j:=by
 have e:4294967296-2^j=(2^(32-j)-1)<<<j:=by
  rw[Nat.shiftLeft_eq,Nat.sub_mul,←Nat.pow_add,show 32-j+j=32 from by omega];simp
 have e2:n/2^j*2^j=(n>>>j)<<<j:=by rw[Nat.shiftLeft_eq,Nat.shiftRight_eq_div_pow]
 rw[e,e2];apply Nat.eq_of_testBit_eq
 intro i
 simp only[Nat.testBit_and,Nat.testBit_shiftLeft,Nat.testBit_shiftRight,Nat.testBit_two_pow_sub_one];by_cases h:j≤i
 ·simp[h]
  intro hb
  by_cases hi:i<32
  ·omega
  ·have:n.testBit i=false:=Nat.testBit_lt_two_pow (Nat.lt_of_lt_of_le hn (by rw[show 4294967296=2^32 from rfl];exact Nat.pow_le_pow_right (by omega) (by omega)))
   rw[this]at hb;cases hb
 ·simp[h]
theorem upm_bd(k:Int)(h0:0≤k)(h1:k≤32):0≤upm k∧upm k≤4294967295:=by
 unfold upm;have h2:(2:Nat)^(32-k.toNat)≤2^32:=Nat.pow_le_pow_right (by omega) (by omega);have h3:0<(2:Nat)^(32-k.toNat):=Nat.pow_pos (by omega);have e:((2:Int)^(32-k.toNat))=((2^(32-k.toNat):Nat):Int):=by simp
 rw[e];omega
attribute [local go_sem] Oper.semAt_some
def encU (r:Ru):Array Value:=#[.agg (ruc r).toArray]
def XU (l:List Ru) (pre:List Ru) (x:Ru) (_V:World):Prop:=∃rest,pre++x::rest=l
theorem zL6(n:Nat)(p:Option Addr)(w:World):
  CallsIn Fence.wide n Tryz.prog 197 #[.pointer p] w fun e w'=>e= .returned (.func (.func 266) #[] #[.pointer (some ⟨w.heap.size,0,none⟩)])∧w'=w.alloc (.cells #[.pointer p] 85):=by
 refine callsIn_of_wp Tryz.func197 rfl trivial ?_ rfl;simp only[Tryz.ntmps197,List.size_toArray,List.length_cons,List.length_nil,Nat.reduceAdd,Nat.reduceSub,Array.replicate_succ,Array.replicate_zero,List.push_toArray,List.append_toArray,List.nil_append,List.cons_append];gi_wp2
 go_ret
 exact⟨rfl,rfl⟩
theorem allU1_in(n:Nat)(hn:1≤n)(l B b n₀:Nat)(v:Value)(ls:List Ru)(J Jx:List Ru→World→Prop)
  (hJ:∀s A B,J s A→Later A B→J s B)
  (hY:∀pre x V,J pre V→XU ls pre x V→YieldAt Fence.wide (n-1) Tryz.prog l (encU x) V fun e V'=>(e= .returned (.bool true)∧J (pre++[x]) V'∧Below n₀ V V')∨(e= .returned (.bool false)∧Jx (pre++[x]) V'))
  (W:World)(hB:W.cell? ⟨B,0,none⟩=some (.pointer (some ⟨b,0,none⟩)))(hn0:n₀≤W.heap.size)(hc:W.cell? ⟨b,0,none⟩=some v)(hR:RdQ n₀ W v ls)(h0:J [] W):
  CallsIn Fence.wide n Tryz.prog 266 #[.func (.yield l) #[] #[],.pointer (some ⟨B,0,none⟩)] W fun e W'=>(∃v,e= .returned v)∧((∃xs,xs=ls∧J xs W')∨(∃pre,(∃rest,pre++rest=ls)∧Jx pre W')):=by
 obtain⟨sa,cap,rfl,hc1,hc2⟩:=hR.slice;have HR:=zAd hR;clear hR;refine callsIn_of_wp Tryz.func266 rfl trivial ?_ rfl;simp only[Tryz.ntmps266,List.size_toArray,List.length_cons,List.length_nil,Nat.reduceAdd,Nat.reduceSub,Array.replicate_succ,Array.replicate_zero,List.push_toArray,List.append_toArray,List.nil_append,List.cons_append];gi_wp2
 gi_loopw [12] (fun i wx=>∃k:Nat,k≤ls.length∧i= .int .i64 (k:Int)∧J (ls.take k) wx∧Below n₀ W wx) (fun i _=>ls.length-(intOf i).toNat)
 case atStart=>exact⟨0,by omega,rfl,by rw[List.take_zero];exact h0,Below.refl _ _⟩
 case round=>
  obtain⟨k,hk,rfl,hJk,hbk⟩:=hrel;by_cases hkl:k<ls.length
  ·obtain ⟨g,off,cp,e,_,_,hgn,hcs⟩:=(HR.out.below hbk).cells (by omega)
   simp at e
   obtain⟨rfl,rfl⟩:=e;have c0:=hcs k hkl 0 (by omega);have c1:=hcs k hkl 1 (by omega);have c2:=hcs k hkl 2 (by omega);have c3:=hcs k hkl 3 (by omega);have c4:=hcs k hkl 4 (by omega);have c5:=hcs k hkl 5 (by omega);have c6:=hcs k hkl 6 (by omega);have c7:=hcs k hkl 7 (by omega);have hkl':(k:Int)<ls.length:=by omega
   have hat:∃rest,ls.take k++ls[k]::rest=ls:=⟨ls.drop (k+1),by rw[←List.drop_eq_getElem_cons hkl,List.take_append_drop]⟩;have htk:ls.take (k+1)=ls.take k++[ls[k]]:=(List.take_append_getElem hkl).symm;have htl:∃rest,ls.take k++[ls[k]]++rest=ls:=⟨ls.drop (k+1),by rw[List.take_append_getElem hkl,List.take_append_drop]⟩;clear hcs;generalize hgo:ls[k]=r at*;have HAT:=zAd hat;have HTK:=zAd htk;have HTL:=zAd htl;clear hgo hat htk htl;simp only[ruc,List.getElem?_cons_zero,List.getElem?_cons_succ,Nat.add_zero]at c0 c1 c2 c3 c4 c5 c6 c7;have la:Later wr (wr.alloc (.cells #[.int .i64 r.kind,.int .u8 r.proto,.int .u32 r.net,.int .i64 r.bits,.int .u32 r.tt,.int .u16 r.port,.int .u32 r.host,.int .u16 r.hp] 125)):=bA _ _;obtain⟨fn,tmps,assign,body,hy,hR⟩:=hY _ r _ (hJ _ _ _ hJk la) HAT.out;dsimp only[encU,ruc]at hy
   have hwr:=Nat.le_trans hn0 hbk.size;gi_wp2
   refine hR.mono ?_;rintro e W3 (⟨rfl,hJ3,hk3⟩|⟨rfl,hJx3⟩)
   ·gi_wp2
    go_roundw
    case rel=>exact⟨k+1,by omega,by go_num,by rw[HTK.out];exact hJ3,hbk.trans ((la.mono hwr).trans hk3)⟩
    case measure=>simp[intOf];omega
   ·gi_wp2
    refine bodyPost_ret (results_none rfl _ _ _) rfl ?_;exact⟨⟨_,rfl⟩,.inr ⟨_,HTL.out,hJx3⟩⟩
  ·obtain rfl:k=ls.length:=by omega
   gi_wp2
   go_end0
   exact⟨⟨_,rfl⟩,.inl ⟨_,rfl,by rw[List.take_length]at hJk;exact hJk⟩⟩
theorem zSp(n:Nat)(l B:Nat)(J Jx:List Ru→World→Prop)(W:World)(hB:W.cell? ⟨B,0,none⟩=some (.pointer none))(h0:J [] W):
  CallsIn Fence.wide n Tryz.prog 266 #[.func (.yield l) #[] #[],.pointer (some ⟨B,0,none⟩)] W fun e W'=>(∃v,e= .returned v)∧((∃xs,xs=[]∧J xs W')∨(∃pre,(∃rest,pre++rest=[])∧Jx pre W')):=by
 refine callsIn_of_wp Tryz.func266 rfl trivial ?_ rfl;simp only[Tryz.ntmps266,List.size_toArray,List.length_cons,List.length_nil,Nat.reduceAdd,Nat.reduceSub,Array.replicate_succ,Array.replicate_zero,List.push_toArray,List.append_toArray,List.nil_append,List.cons_append];gi_wp2
 refine bodyPost_ret (results_none rfl _ _ _) rfl ?_;exact⟨⟨_,rfl⟩,.inl ⟨_,rfl,h0⟩⟩
def PL (base:Nat) (W:World) (p:Option Addr) (l:List Ru):Prop:=(p=none∧l=[])∨∃b v,p=some ⟨b,0,none⟩∧RL 285 base W b v l
theorem PL.later {base:Nat} {A B:World} {p:Option Addr} {l:List Ru} (h:PL base A p l)(k:Later A B):PL base B p l:=h.imp id fun⟨b,v,e,h⟩=>⟨b,v,e,h.later k⟩
theorem allU_gen(n:Nat)(hn:1≤n)(B base:Nat)(p:Option Addr)(ls:List Ru)(w0 w:World)(hT:PL base w0 p ls)(hw:Later w0 w)(hBl:B<w.heap.size)(hB:w.cell? ⟨B,0,none⟩=some (.pointer p)):
  GenX Fence.wide n Tryz.prog 266 #[.pointer (some ⟨B,0,none⟩)] encU (Below w0.heap.size) (XU ls) (fun xs=>xs=ls) (fun pre=>∃rest,pre++rest=ls) w:=fun l J Jx W hW hJ hY h0=>by
 have hwW:Later w0 W:=hw.trans hW;have hBW:=(hW.cell (p:=⟨B,0,none⟩) hBl).trans hB;rcases hT with⟨rfl,rfl⟩|⟨b,v,rfl,hT⟩
 ·exact zSp n l B J Jx W hBW h0
 ·exact allU1_in n hn l B b w0.heap.size v ls J Jx hJ hY W hBW hwW.size ((zAa (hT.later hwW).2.1 0).trans rfl) ((zSo hT.2.2).below hwW) h0
attribute [local go_sem] Oper.semAt_some
def CTu (A B:World):Prop:=A.heap.size≤B.heap.size∧∀(k:Nat) (o:Obj),A.heap[k]? =some o→o.isCells=true→B.heap[k]? =some o
theorem CTu.of {A B:World} (h:Later A B):CTu A B:=⟨h.size,fun k o ho _=>zAb h ho⟩
theorem CTu.row {A B:World} {row:Option Nat} (hg:A.grownBy B row)(hr:∀r,row=some r→∃o:Obj,A.heap[r]? =some o∧o.isCells=false):CTu A B:=
 ⟨hg.size,fun k o ho hc=>(hg.block k (bl9 ho) (fun e=>by obtain⟨o',h1,h2⟩:=hr k e.symm;rw[ho]at h1;cases h1;rw[hc]at h2;cases h2)).trans ho⟩
theorem CTu.put {A:World} {l:Nat} {o o':Obj} (h:A.heap[l]? =some o)(hc:o.isCells=false):CTu A (A.putObj l o'):=
 CTu.row (grownBy_putObj' A l o') (fun r e=>by cases e;exact⟨o,h,hc⟩)
def fnd (p:Ru→Bool) (l:List Ru):Ru:=(l.find? p).getD zRu
def fdb (p:Ru→Bool) (l:List Ru):Bool:=(l.find? p).isSome
theorem fnd_no {p:Ru→Bool} {l:List Ru} (h:∀x∈l,p x=false):fnd p l=zRu∧fdb p l=false:=by
 have:l.find? p=none:=by rw[List.find?_eq_none];intro x hx;rw[h x hx];simp
 unfold fnd fdb;rw[this];exact⟨rfl,rfl⟩
theorem fnd_yes {p:Ru→Bool} {pre:List Ru} {x:Ru} {rest:List Ru} (h:∀y∈pre,p y=false)(hx:p x=true):fnd p (pre++[x]++rest)=x∧fdb p (pre++[x]++rest)=true:=by
 have:(pre++[x]++rest).find? p=some x:=by
  rw[List.append_assoc,List.find?_append,show pre.find? p=none from by rw[List.find?_eq_none];intro y hy;rw[h y hy];simp];simp[hx]
 unfold fnd fdb;rw[this];exact⟨rfl,rfl⟩
def PF (rb:Nat) (cv:Value) (p:Ru→Bool) (w:World) (pre:List Ru) (W:World):Prop:=
 (W.heap[rb]? =some (.cells #[cv] 286 (0,0))∧W.heap[rb+1]? =some (.cells (ruc zRu).toArray 125 (0,0))∧W.heap[rb+1+1]? =some (.cells #[.bool false] 4 (0,0)))∧∀x∈pre,p x=false
theorem PF.ct {rb:Nat} {cv:Value} {p:Ru→Bool} {w:World} {pre:List Ru} {A B:World} (h:PF rb cv p w pre A)(c:CTu A B):PF rb cv p w pre B:=
 ⟨⟨c.2 _ _ h.1.1 rfl,c.2 _ _ h.1.2.1 rfl,c.2 _ _ h.1.2.2 rfl⟩,h.2⟩
def PG (rb:Nat) (p:Ru→Bool) (pre:List Ru) (W:World):Prop:=
 ∃pre0 x,pre=pre0++[x]∧p x=true∧(∀y∈pre0,p y=false)∧W.heap[rb+1]? =some (.cells (ruc x).toArray 125 (0,0))∧W.heap[rb+1+1]? =some (.cells #[.bool true] 4 (0,0))
theorem PG.ct {rb:Nat} {p:Ru→Bool} {pre:List Ru} {A B:World} (h:PG rb p pre A)(c:CTu A B):PG rb p pre B:=by
 obtain⟨pre0,x,h1,h2,h3,h4,h5⟩:=h;exact⟨pre0,x,h1,h2,h3,c.2 _ _ h4 rfl,c.2 _ _ h5 rfl⟩
theorem belowU_b {w:World} {n₀:Nat} (hn:n₀≤w.heap.size)(W:World)(l:Nat)(o o':Obj)(hl:w.heap.size≤l)(ho:W.heap[l]? =some o)(hc:o.isCells=false)(hw:o.isWalk=false):Below n₀ W (W.putObj l o'):=
 belowK_b (w:=w) hn W l o o' hl ho hc hw
theorem zHn(rb D:Nat)(x:Ru)(t:Bool)(W w:World)(hD:rb+1+1+1≤D)(hb:Below w.heap.size w W)(h1:W.heap[rb+1]? =some (.cells (ruc x).toArray 125 (0,0)))(h2:W.heap[rb+1+1]? =some (.cells #[.bool t] 4 (0,0)))(hK:W.heap[D]? =some (.deferred (some [])))
  (hrb:w.heap.size≤rb)(t0 t1 t2 t3 t6 t7 t8 t9 t10 t11 t12 t13 t14:Value):
  bodyPostM Fence.wide 5 Tryz.prog Tryz.f196 (fun e w'=>e= .returned (.tuple #[.agg (ruc x).toArray,.bool t])∧Later w w') Exit.ret
   { tmps:=#[t0,t1,t2,t3,.pointer (some ⟨rb+1,0,none⟩),.pointer (some ⟨rb+1+1,0,none⟩),t6,t7,t8,t9,t10,t11,t12,t13,t14],defers:=[{ target:= .collected D,args:=#[] }] } W:=by
 refine⟨by simp,.inl ⟨_,_,rfl,run_takeDeferred hK,?_⟩⟩;have z1:=(CTu.put (o':= .deferred none) hK rfl).2 _ _ h1 rfl;have z2:=(CTu.put (o':= .deferred none) hK rfl).2 _ _ h2 rfl;have k1:=zAa z1;have k2:=zAa z2;simp only[ruc]at k1;refine⟨.tuple #[.agg (ruc x).toArray,.bool t],by simp[results,Tryz.results196,go_sem,k1,k2,ruc],rfl,hb.trans (belowK_b (w:=w) (Nat.le_refl _) W D _ _ (by omega) hK rfl rfl)⟩
theorem zF9(base cf:Nat)(lb:Array Value)(p:Option Addr)(B:Nat)(ls:List Ru)(q:Ru→Bool)(w:World)(hT:PL base w p ls)(hBl:B<w.heap.size)(hB:w.cell? ⟨B,0,none⟩=some (.pointer p))
  (eg:∀args w,(callFunc cf args).run Tryz.prog w= .ok (.enter cf args) w)
  (hcl:∀x∈ls,∀W,Later w W→Calls Tryz.prog cf (#[.agg (ruc x).toArray]++lb) W fun e W'=>e= .returned (.bool (q x))∧Later W W'):
  Calls Tryz.prog 196 #[.func (.func 266) #[] #[.pointer (some ⟨B,0,none⟩)],.func (.func cf) #[] lb] w fun e w'=>e= .returned (.tuple #[.agg (ruc (fnd q ls)).toArray,.bool (fdb q ls)])∧Later w w':=by
 refine(callsIn_wide (n:=5)).1 ?_;refine callsIn_of_wp_marks Tryz.func196 rfl trivial ?_ rfl;simp only[Tryz.ntmps196,List.size_toArray,List.length_cons,List.length_nil,Nat.reduceAdd,Nat.reduceSub,Array.replicate_succ,Array.replicate_zero,List.push_toArray,List.append_toArray,List.nil_append,List.cons_append];have hb4:Later w (((w.alloc (.cells #[.func (.func cf) #[] lb] 286)).alloc (.cells #[.int .i64 0,.int .u8 0,.int .u32 0,.int .i64 0,.int .u32 0,.int .u16 0,.int .u32 0,.int .u16 0] 125)).alloc (.cells #[.bool false] 4)):=((bA _ _).alloc (by simp) _).alloc (by simp<;>omega) _;have c0:(((w.alloc (.cells #[.func (.func cf) #[] lb] 286)).alloc (.cells #[.int .i64 0,.int .u8 0,.int .u32 0,.int .i64 0,.int .u32 0,.int .u16 0,.int .u32 0,.int .u16 0] 125)).alloc (.cells #[.bool false] 4)).heap[w.heap.size]? =some (.cells #[.func (.func cf) #[] lb] 286):=(Below.heap_alloc _ _ _ (by simp<;>omega)).trans ((Below.heap_alloc _ _ _ (by simp)).trans (heap_alloc_new w _))
 have c1:(((w.alloc (.cells #[.func (.func cf) #[] lb] 286)).alloc (.cells #[.int .i64 0,.int .u8 0,.int .u32 0,.int .i64 0,.int .u32 0,.int .u16 0,.int .u32 0,.int .u16 0] 125)).alloc (.cells #[.bool false] 4)).heap[w.heap.size+1]? =some (.cells #[.int .i64 0,.int .u8 0,.int .u32 0,.int .i64 0,.int .u32 0,.int .u16 0,.int .u32 0,.int .u16 0] 125):=by
  have:=heap_alloc_new (w.alloc (.cells #[.func (.func cf) #[] lb] 286)) (.cells #[.int .i64 0,.int .u8 0,.int .u32 0,.int .i64 0,.int .u32 0,.int .u16 0,.int .u32 0,.int .u16 0] 125);rw[World.size_alloc]at this;exact(Below.heap_alloc _ _ _ (by simp)).trans this
 have c2:(((w.alloc (.cells #[.func (.func cf) #[] lb] 286)).alloc (.cells #[.int .i64 0,.int .u8 0,.int .u32 0,.int .i64 0,.int .u32 0,.int .u16 0,.int .u32 0,.int .u16 0] 125)).alloc (.cells #[.bool false] 4)).heap[w.heap.size+1+1]? =some (.cells #[.bool false] 4):=by
  have:=heap_alloc_new ((w.alloc (.cells #[.func (.func cf) #[] lb] 286)).alloc (.cells #[.int .i64 0,.int .u8 0,.int .u32 0,.int .i64 0,.int .u32 0,.int .u16 0,.int .u32 0,.int .u16 0] 125)) (.cells #[.bool false] 4);simpa only[World.size_alloc]using this
 have hs4:(((w.alloc (.cells #[.func (.func cf) #[] lb] 286)).alloc (.cells #[.int .i64 0,.int .u8 0,.int .u32 0,.int .i64 0,.int .u32 0,.int .u16 0,.int .u32 0,.int .u16 0] 125)).alloc (.cells #[.bool false] 4)).heap.size=w.heap.size+1+1+1:=by simp
 have HCL:=zAd hcl;have HEG:=zAd eg;have C0:=zAd c0;have C1:=zAd c1;have C2:=zAd c2;have HS4:=zAd hs4;clear hcl eg c0 c1 c2 hs4;gi_wp2
 generalize ((w.alloc (.cells #[.func (.func cf) #[] lb] 286)).alloc (.cells #[.int .i64 0,.int .u8 0,.int .u32 0,.int .i64 0,.int .u32 0,.int .u16 0,.int .u32 0,.int .u16 0] 125)).alloc (.cells #[.bool false] 4)=w4 at*;have hs4:w4.heap.size=w.heap.size+1+1+1:=HS4.out
 refine zB7 (w:=w4) rfl (by omega) (gf:=266) (lb:=#[.pointer (some ⟨B,0,none⟩)]) rfl trivial (enters_of Tryz.func266 (by kernel_rfl) rfl)
  (allU_gen 4 (by omega) B base p ls w w4 hT hb4 (by omega) ((hb4.cell hB)))
  (fun h k=>h.trans k) (fun W l o o' hl ho hc hw=>belowU_b (w:=w4) (by omega) W l o o' hl ho hc hw) (fun hA hL=>hL.mono (by omega)) (fun _ _ _ _ h _=>h) (fun _ _ _ _ _ _ _ _ _ h=>h) (fun _=>rfl)
  (fun pre W=>PF w.heap.size (.func (.func cf) #[] lb) q w pre W∧Below w.heap.size w W) (fun pre W=>PG w.heap.size q pre W∧Below w.heap.size w W)
  (OwnFrom.and (fun s A B row hs hg hr=>hs.ct (CTu.row hg (fun r e=>(hr r e).2))) (ownFrom_below (Nat.le_refl _) (by omega)))
  (fun s A B h l=>⟨h.1.ct (CTu.of l),h.2.trans (l.mono h.2.size)⟩)
  (OwnFrom.and (fun s A B row hs hg hr=>hs.ct (CTu.row hg (fun r e=>(hr r e).2))) (ownFrom_below (Nat.le_refl _) (by omega)))
  ⟨⟨⟨C0.out,C1.out,C2.out⟩,fun x hx=>by cases hx⟩,hb4⟩
  (fun x a' W=>∃bx:Nat,w.heap.size+1+1+1≤bx∧W.heap[bx]? =some (.cells #[.int .i64 x.kind,.int .u8 x.proto,.int .u32 x.net,.int .i64 x.bits,.int .u32 x.tt,.int .u16 x.port,.int .u32 x.host,.int .u16 x.hp] 125 (0,0))∧a'= { tmps:=#[.func (.func 266) #[] #[.pointer (some ⟨B,0,none⟩)],.func (.func cf) #[] lb,undef,.pointer (some ⟨w.heap.size,0,none⟩),.pointer (some ⟨w.heap.size+1,0,none⟩),.pointer (some ⟨w.heap.size+1+1,0,none⟩),.pointer (some ⟨bx,0,none⟩),undef,.func (.func 266) #[] #[.pointer (some ⟨B,0,none⟩)],.agg #[.int .i64 x.kind,.int .u8 x.proto,.int .u32 x.net,.int .i64 x.bits,.int .u32 x.tt,.int .u16 x.port,.int .u32 x.host,.int .u16 x.hp],undef,undef,undef,undef,undef],defers:=[] })
  (fun x a' W l o o' hl ho hc h=>by obtain⟨bx,h1,h2,h3⟩:=h;exact⟨bx,h1,(CTu.put ho hc).2 _ _ h2 rfl,h3⟩) ?assign ?body ?done ?stop
 case assign=>
  rintro l pre x W K hsz _ hX hK;dsimp only[encU,ruc]
  gi_wp2
  refine hK _ _ ?_ ⟨W.heap.size,by omega,heap_alloc_new _ _,rfl⟩;exact(Below.refl _ W).alloc (Nat.le_refl _) _
 case body=>
  rintro l pre x a' W ⟨⟨⟨h0,h1,h2⟩,hno⟩,hbW⟩ hX ⟨bx,hbx,hbo,rfl⟩;have hxl:x∈ls:=by obtain⟨rest,e⟩:=hX;rw[←e];simp
  have hc:=(callsIn_wide (n:=2)).2 (HCL.out x hxl W hbW);have HC:=zAd (hc.inRound l);clear hc;have Kb:=zAa hbo;have K0:=zAa h0;gi_wp2
  refine⟨trivial,?_⟩;rw[HEG.out];simp only[Oper.uponIn];clear Kb K0;refine⟨fun _=>by omega,HC.out.mono ?_⟩;rintro e W1 ⟨rfl,l1⟩;have hbW1:=hbW.trans (l1.mono hbW.size);have g0:=zAb l1 h0;have g1:=zAb l1 h1;have g2:=zAb l1 h2;have gb:=zAb l1 hbo;have Kb:=zAa gb;have hk1:KeepsFrom w4.heap.size W W1:=⟨l1.size,fun i o hi ho hc=>zAb l1 ho⟩;cases hq:q x with
  |false=>
   have HQ:=zAd hq;clear hq;gi_wp2
   exact⟨hk1,l1.mono hbW.size,⟨⟨g0,g1,g2⟩,fun y hy=>(List.mem_append.1 hy).elim (hno y) (fun h=>by rw[show y=x from by simpa using h];exact HQ.out)⟩,hbW1⟩
  | true=>
   have HQ:=zAd hq;clear hq;have K1:=zAa g1;have K2:=zAa g2;have F1:=zAc g1;have F2:=zAc g2;simp only[ruc]at K1;gi_wp2
   obtain⟨V,hV2⟩:∃V,V=zAi W1 (w.heap.size+1) 0 (ruc x):=⟨_,rfl⟩;have hfin:postX w4.heap.size (Below w.heap.size) (fun pre W=>PF w.heap.size (.func (.func cf) #[] lb) q w pre W∧Below w.heap.size w W) (fun pre W=>PG w.heap.size q pre W∧Below w.heap.size w W) (pre++[x]) W Exit.ret { tmps:=#[],defers:=[] } (V.setCell ⟨w.heap.size+1+1,0,none⟩ (.bool true)):= ?_
   ·rw[hV2]at hfin
    exact hfin
   have v1:V.heap[w.heap.size+1]? =some (.cells (ruc x).toArray 125 (0,0)):=by rw[hV2];exact zAe (ruc x) g1 rfl
   have hbV:But (fun g=>g=w.heap.size+1∨g=w.heap.size+1+1) W1 V:=by rw[hV2];exact zAf (E:=fun g=>g=w.heap.size+1∨g=w.heap.size+1+1) (n:=w.heap.size+1) (.inl rfl) (ruc x) 0 W1 W1 (But.refl _ _)
   have hbS:=hbV.setCell (p:=⟨w.heap.size+1+1,0,none⟩) (.inr rfl) (.bool true);have hsz1:w.heap.size≤W1.heap.size:=hbW1.size;have hbl:=hbS.below hsz1 (fun k hk e=>by rcases e with rfl|rfl<;>omega);refine⟨⟨Nat.le_trans l1.size hbS.size,fun i o hi ho hc=> ?_⟩,⟨pre,x,rfl,HQ.out,hno,?_,?_⟩,hbW1.trans hbl⟩
   ·have:=zAb l1 ho
    exact(hbS.block i (bl9 this) (fun e=>by rcases e with rfl|rfl<;>omega)).trans this
   ·exact (Below.heap_setCell V ⟨w.heap.size+1+1,0,none⟩ _ (w.heap.size+1) (by simp)).trans v1
   ·have v2:V.heap[w.heap.size+1+1]? =some (.cells #[.bool false] 4 (0,0)):=by
     rw[hV2];exact((zA1 (rb:=w.heap.size+1) (ruc x) W1).block (w.heap.size+1+1) (bl9 g2) (by omega)).trans g2
    exact zAh v2 0 _
 case done=>
  rintro D xs W hD rfl ⟨⟨⟨h0,h1,h2⟩,hno⟩,hbW⟩ hK;have la:Later W (W.alloc (.cells #[.int .i64 0,.int .u8 0,.int .u32 0,.int .i64 0,.int .u32 0,.int .u16 0,.int .u32 0,.int .u16 0] 125)):=bA _ _;have g1:=zAb la h1;have g2:=zAb la h2;have gD:=zAb la hK;have K1:=zAa g1;have K2:=zAa g2;have F1:=zAc g1;have F2:=zAc g2;simp only[ruc,zRu]at K1;gi_wp2
  obtain⟨V,hV2⟩:∃V,V=zAi (W.alloc (.cells #[.int .i64 0,.int .u8 0,.int .u32 0,.int .i64 0,.int .u32 0,.int .u16 0,.int .u32 0,.int .u16 0] 125)) (w.heap.size+1) 0 (ruc zRu):=⟨_,rfl⟩;have v1:V.heap[w.heap.size+1]? =some (.cells (ruc zRu).toArray 125 (0,0)):=by rw[hV2];exact zAe (ruc zRu) g1 rfl
  have hbV:But (fun g=>g=w.heap.size+1∨g=w.heap.size+1+1) (W.alloc (.cells #[.int .i64 0,.int .u8 0,.int .u32 0,.int .i64 0,.int .u32 0,.int .u16 0,.int .u32 0,.int .u16 0] 125)) V:=by rw[hV2];exact zAf (E:=fun g=>g=w.heap.size+1∨g=w.heap.size+1+1) (n:=w.heap.size+1) (.inl rfl) (ruc zRu) 0 _ _ (But.refl _ _)
  have v2:V.heap[w.heap.size+1+1]? =some (.cells #[.bool false] 4 (0,0)):=by
   rw[hV2];exact((zA1 (rb:=w.heap.size+1) (ruc zRu) _).block (w.heap.size+1+1) (bl9 g2) (by omega)).trans g2
  have hbS:=hbV.setCell (p:=⟨w.heap.size+1+1,0,none⟩) (.inr rfl) (.bool false);have hbA:Below w.heap.size w (W.alloc (.cells #[.int .i64 0,.int .u8 0,.int .u32 0,.int .i64 0,.int .u32 0,.int .u16 0,.int .u32 0,.int .u16 0] 125)):=hbW.trans (la.mono hbW.size);have hbl:=hbA.trans (hbS.below hbA.size (fun k hk e=>by rcases e with rfl|rfl<;>omega));have s1:(V.setCell ⟨w.heap.size+1+1,0,none⟩ (.bool false)).heap[w.heap.size+1]? =some (.cells (ruc zRu).toArray 125 (0,0)):=(Below.heap_setCell V ⟨w.heap.size+1+1,0,none⟩ _ (w.heap.size+1) (by simp)).trans v1;have s2:(V.setCell ⟨w.heap.size+1+1,0,none⟩ (.bool false)).heap[w.heap.size+1+1]? =some (.cells #[.bool false] 4 (0,0)):=zAh v2 0 _;have sD:(V.setCell ⟨w.heap.size+1+1,0,none⟩ (.bool false)).heap[D]? =some (.deferred (some [])):=(hbS.block D (bl9 gD) (fun e=>by rcases e with rfl|rfl<;>omega)).trans gD;obtain⟨n1,n2⟩:=fnd_no hno;have hfin:=zHn w.heap.size D zRu false (V.setCell ⟨w.heap.size+1+1,0,none⟩ (.bool false)) w (by omega) hbl s1 s2 sD (Nat.le_refl _);rw[n1,n2];rw[hV2]at hfin;exact hfin _ _ _ _ _ _ _ _ _ _ _ _ _
 case stop=>
  rintro D pre W hD ⟨rest,hrest⟩ ⟨⟨pre0,x,rfl,hpx,hp0,h1,h2⟩,hbW⟩ hK;obtain⟨n1,n2⟩:=fnd_yes (rest:=rest) hp0 hpx;rw[hrest]at n1 n2;gi_wp2
  rw[n1,n2];exact zHn w.heap.size D x true W w (by omega) hbW h1 h2 hK (Nat.le_refl _) _ _ _ _ _ _ _ _ _ _ _ _ _
theorem and_upm(n k:Int)(hn:0≤n∧n≤4294967295)(h0:0≤k)(h1:k≤32):bits .and .u32 n (upm k)=upp n k:=by
 have hb:=upm_bd k h0 h1;rw[u32_and n (upm k) hn.1 (by omega) hb.1 (by omega)];have h2:(2:Nat)^(32-k.toNat)≤2^32:=Nat.pow_le_pow_right (by omega) (by omega)
 have e:(upm k).toNat=4294967296-2^(32-k.toNat):=by
  unfold upm;have e:((2:Int)^(32-k.toNat))=((2^(32-k.toNat):Nat):Int):=by simp
  rw[e];omega
 rw[e,zQn n.toNat (32-k.toNat) (by omega) (by omega)];unfold upp;simp
 rw[Int.max_eq_left hn.1]
theorem zQo(n k:Int)(hn:0≤n∧n≤4294967295)(h0:0≤k)(h1:k≤32):bits .andNot .u32 n (upm k)=n % 2^(32-k.toNat):=by
 have hb:=upm_bd k h0 h1;rw[u32_andNot n (upm k) hn.1 (by omega) hb.1 (by omega)];have h2:(2:Nat)^(32-k.toNat)≤2^32:=Nat.pow_le_pow_right (by omega) (by omega);have h3:0<(2:Nat)^(32-k.toNat):=Nat.pow_pos (by omega)
 have e:4294967295-(upm k).toNat=2^(32-k.toNat)-1:=by
  unfold upm;have e:((2:Int)^(32-k.toNat))=((2^(32-k.toNat):Nat):Int):=by simp
  rw[e];omega
 rw[e,Nat.and_two_pow_sub_one_eq_mod];simp
 rw[Int.max_eq_left hn.1]
theorem upp_iff(n k:Int):(n % 2^(32-k.toNat)=0)↔upp n k=n:=by
 unfold upp;have:=Int.emod_add_mul_ediv n (2^(32-k.toNat));rw[Int.mul_comm]at this;generalize n/2^(32-k.toNat)*2^(32-k.toNat)=x at*;generalize n % 2^(32-k.toNat)=y at*;omega
theorem shl_upm(k:Int)(h0:0≤k)(h1:k≤32):(4294967295:Int)*2^(32-k).toNat % 4294967296=upm k:=by
 obtain⟨j,rfl⟩:=Int.eq_ofNat_of_zero_le h0;have hj:j≤32:=by omega
 have e:((32:Int)-(j:Int)).toNat=32-j:=by omega
 rw[e];unfold upm;simp only[Int.toNat_natCast];have h2:(2:Nat)^(32-j)≤2^32:=Nat.pow_le_pow_right (by omega) (by omega);have h3:0<(2:Nat)^(32-j):=Nat.pow_pos (by omega);have e:((2:Int)^(32-j))=((2^(32-j):Nat):Int):=by simp
 rw[e];omega
theorem zKg(k:Int)(w:World)(h0:0≤k)(h1:k≤32):Calls Tryz.prog 265 #[.int .i64 k] w fun e w'=>e= .returned (.int .u32 (upm k))∧w'=w:=by
 have h2:0≤32-k:=by omega
 have h3:32-k≤32:=by omega
 have HU:=zAd (shl_upm k h0 h1);go_enter Tryz.func265,Tryz.ntmps265;go_wp2_with fail;go_ret
 exact⟨zL1 HU.out,rfl⟩
def rtM (x:Ru):Bool:=decide (0≤x.bits) && (decide (x.bits≤32) && (decide (upp x.net x.bits=x.net) && (decide (x.tt≠0) && (decide (x.proto=0) && (decide (x.port=0) && (decide (x.host=0) && decide (x.hp=0)))))))
def rtD (x:Ru):Bool:=(decide (x.proto=6)||decide (x.proto=17)) && (decide (x.tt≠0) && (decide (x.port≠0) && (decide (x.host≠0) && (decide (x.hp≠0) && (decide (x.net=0) && decide (x.bits=0))))))
def rtB (x:Ru):Bool:=if x.kind=1 then rtM x else if x.kind=2 then rtD x else false
theorem zIv(x:Ru)(w:World)(hx:wfR x)(hk:x.kind=1):
  Calls Tryz.prog 194 #[.agg (ruc x).toArray] w fun e w'=>e= .returned (.bool (rtM x))∧Later w w':=by
 obtain⟨kind,proto,net,bts,tq,port,host,hp⟩:=x;obtain⟨_,h1,h2,h3,h4,h5,h6,h7⟩:=hx;simp only at hk h1 h2 h3 h4 h5 h6 h7;unfold ruc;simp only;subst hk;have lb0:Later w (w.alloc (.cells #[.int .i64 1,.int .u8 proto,.int .u32 net,.int .i64 bts,.int .u32 tq,.int .u16 port,.int .u32 host,.int .u16 hp] 125)):=bA _ _;have c0:=zAa (heap_alloc_new w (.cells #[.int .i64 1,.int .u8 proto,.int .u32 net,.int .i64 bts,.int .u32 tq,.int .u16 port,.int .u32 host,.int .u16 hp] 125));go_enter Tryz.func194,Tryz.ntmps194;go_wp2_with fail;generalize w.alloc (.cells #[.int .i64 1,.int .u8 proto,.int .u32 net,.int .i64 bts,.int .u32 tq,.int .u16 port,.int .u32 host,.int .u16 hp] 125)=w0 at*;by_cases b0:bts<0
 ·go_quiet (fail)
  go_wp2_with fail;go_ret
  exact⟨by simp[rtM];omega,lb0.trans (zAk (Later.refl _) _)⟩
 ·by_cases b1:32<bts
  ·go_quiet (fail)
   go_wp2_with fail;go_ret
   exact⟨by simp[rtM];omega,lb0.trans (zAk (Later.refl _) _)⟩
  ·have hU:∀W,Calls Tryz.prog 265 #[.int .i64 bts] W fun e w'=>e= .returned (.int .u32 (upm bts))∧w'=W:=fun W=>zKg bts W (by omega) (by omega)
   have hz:=zQo net bts h2 (by omega) (by omega);have hi:=upp_iff net bts;by_cases hz0:bits .andNot .u32 net (upm bts)=0
   ·have hq:upp net bts=net:=by rw[←hi,←hz];exact hz0
    have HQ:=zAd hq;have B0:=zAd b0;have B1:=zAd b1;clear hi hz hq;by_cases ht:tq=0
    ·go_quiet (first|(go_at_call 265;exact Calls.quiet_of_same (hU _)))
     go_wp2_with fail;go_ret
     exact⟨by simp[rtM,ht],lb0.trans (zAk (Later.refl _) _)⟩
    ·go_quiet (first|(go_at_call 265;exact Calls.quiet_of_same (hU _)))
     go_wp2_with fail
     all_goals go_ret
     all_goals refine⟨?_,lb0.trans (zAk (Later.refl _) _)⟩
     all_goals have hq:=HQ.out
     all_goals simp_all [rtM]
     all_goals omega
   ·have hq:¬upp net bts=net:=by rw[←hi,←hz];exact hz0
    have HQ:=zAd hq;have B0:=zAd b0;have B1:=zAd b1;clear hi hz hq;go_quiet (first|(go_at_call 265;exact Calls.quiet_of_same (hU _)))
    go_wp2_with fail;go_ret
    exact⟨by simp[rtM,HQ.out],lb0.trans (zAk (Later.refl _) _)⟩
theorem zIw(x:Ru)(w:World):
  Calls Tryz.prog 195 #[.agg (ruc x).toArray] w fun e w'=>e= .returned (.bool (rtD x))∧Later w w':=by
 obtain⟨kind,proto,net,bts,tq,port,host,hp⟩:=x;unfold ruc;simp only;have lb0:Later w (w.alloc (.cells #[.int .i64 kind,.int .u8 proto,.int .u32 net,.int .i64 bts,.int .u32 tq,.int .u16 port,.int .u32 host,.int .u16 hp] 125)):=bA _ _;have c0:=zAa (heap_alloc_new w (.cells #[.int .i64 kind,.int .u8 proto,.int .u32 net,.int .i64 bts,.int .u32 tq,.int .u16 port,.int .u32 host,.int .u16 hp] 125));go_enter Tryz.func195,Tryz.ntmps195;by_cases p1:proto=6
 ·by_cases h4:tq=0
  ·go_wp2_with fail
   go_ret
   exact⟨by simp[rtD, *],bA _ _⟩
  ·by_cases h5:port=0
   ·go_wp2_with fail
    go_ret
    exact⟨by simp[rtD, *],bA _ _⟩
   ·by_cases h6:host=0
    ·go_wp2_with fail
     go_ret
     exact⟨by simp[rtD, *],bA _ _⟩
    ·by_cases h7:hp=0
     ·go_wp2_with fail
      go_ret
      exact⟨by simp[rtD, *],bA _ _⟩
     ·by_cases h8:net=0
      ·by_cases h9:bts=0
       ·go_wp2_with fail
        go_ret
        exact⟨by simp[rtD, *],bA _ _⟩
       ·go_wp2_with fail
        go_ret
        exact⟨by simp[rtD, *],bA _ _⟩
      ·go_wp2_with fail
       go_ret
       exact⟨by simp[rtD, *],bA _ _⟩
 ·by_cases p2:proto=17
  ·by_cases h4:tq=0
   ·go_wp2_with fail
    go_ret
    exact⟨by simp[rtD, *],bA _ _⟩
   ·by_cases h5:port=0
    ·go_wp2_with fail
     go_ret
     exact⟨by simp[rtD, *],bA _ _⟩
    ·by_cases h6:host=0
     ·go_wp2_with fail
      go_ret
      exact⟨by simp[rtD, *],bA _ _⟩
     ·by_cases h7:hp=0
      ·go_wp2_with fail
       go_ret
       exact⟨by simp[rtD, *],bA _ _⟩
      ·by_cases h8:net=0
       ·by_cases h9:bts=0
        ·go_wp2_with fail
         go_ret
         exact⟨by simp[rtD, *],bA _ _⟩
        ·go_wp2_with fail
         go_ret
         exact⟨by simp[rtD, *],bA _ _⟩
       ·go_wp2_with fail
        go_ret
        exact⟨by simp[rtD, *],bA _ _⟩
  ·go_wp2_with fail
   go_ret
   exact⟨by simp[rtD, *],bA _ _⟩
theorem zQp(x:Ru)(w:World)(hx:wfR x):
  Calls Tryz.prog 146 #[.agg (ruc x).toArray] w fun e w'=>e= .returned (.bool (rtB x))∧Later w w':=by
 obtain⟨kind,proto,net,bts,tq,port,host,hp⟩:=x;have hM:∀W,kind=1→Calls Tryz.prog 194 #[.agg #[.int .i64 kind,.int .u8 proto,.int .u32 net,.int .i64 bts,.int .u32 tq,.int .u16 port,.int .u32 host,.int .u16 hp]] W fun e w'=>e= .returned (.bool (rtM ⟨kind,proto,net,bts,tq,port,host,hp⟩))∧Later W w':=fun W h=>zIv ⟨kind,proto,net,bts,tq,port,host,hp⟩ W hx h;have hD:∀W,Calls Tryz.prog 195 #[.agg #[.int .i64 kind,.int .u8 proto,.int .u32 net,.int .i64 bts,.int .u32 tq,.int .u16 port,.int .u32 host,.int .u16 hp]] W fun e w'=>e= .returned (.bool (rtD ⟨kind,proto,net,bts,tq,port,host,hp⟩))∧Later W w':=fun W=>zIw ⟨kind,proto,net,bts,tq,port,host,hp⟩ W;have HM:=zAd hM;have HD:=zAd hD;clear hM hD;unfold ruc;simp only;have hr1:kind=1→rtB ⟨kind,proto,net,bts,tq,port,host,hp⟩=rtM ⟨kind,proto,net,bts,tq,port,host,hp⟩:=fun h=>by simp[rtB,h]
 have hr2:kind=2→rtB ⟨kind,proto,net,bts,tq,port,host,hp⟩=rtD ⟨kind,proto,net,bts,tq,port,host,hp⟩:=fun h=>by simp[rtB,h]
 have hr3:kind≠1→kind≠2→rtB ⟨kind,proto,net,bts,tq,port,host,hp⟩=false:=fun h h2=>by simp[rtB,h,h2]
 generalize rtB ⟨kind,proto,net,bts,tq,port,host,hp⟩=tb at*;generalize rtM ⟨kind,proto,net,bts,tq,port,host,hp⟩=tm at*;generalize rtD ⟨kind,proto,net,bts,tq,port,host,hp⟩=td at*;have HR1:=zAd hr1;have HR2:=zAd hr2;have HR3:=zAd hr3;clear hr1 hr2 hr3 hx;have lb0:Later w (w.alloc (.cells #[.int .i64 kind,.int .u8 proto,.int .u32 net,.int .i64 bts,.int .u32 tq,.int .u16 port,.int .u32 host,.int .u16 hp] 125)):=bA _ _;have c0:=zAa (heap_alloc_new w (.cells #[.int .i64 kind,.int .u8 proto,.int .u32 net,.int .i64 bts,.int .u32 tq,.int .u16 port,.int .u32 host,.int .u16 hp] 125));go_enter Tryz.func146,Tryz.ntmps146;by_cases k1:kind=1
 ·subst k1
  go_wp2_with fail;generalize w.alloc _=w0 at*;refine(HM.out w0 trivial).mono ?_;rintro e w1 ⟨rfl,l1⟩;go_wp2_with fail;go_ret
  exact⟨by rw[HR1.out trivial];rfl,lb0.trans l1⟩
 ·by_cases k2:kind=2
  ·subst k2
   go_wp2_with fail;generalize w.alloc _=w0 at*;refine(HD.out w0).mono ?_;rintro e w1 ⟨rfl,l1⟩;go_wp2_with fail;go_ret
   exact⟨by rw[HR2.out trivial];rfl,lb0.trans l1⟩
  ·go_wp2_with fail
   go_ret
   exact⟨by rw[HR3.out k1 k2];rfl,lb0⟩
def okL (l:List Ru):Prop:=l.length≤32∧∀x∈l,wfR x∧rtB x=true
theorem rtB_bits {x:Ru} (h:rtB x=true)(hk:x.kind=1):0≤x.bits∧x.bits≤32:=by
 unfold rtB at h;rw[if_pos hk]at h;unfold rtM at h
 simp at h
 omega
def mqB (src:Int) (x:Ru):Bool:=decide (x.kind=1) && decide (upp src x.bits=x.net)
def dnB (proto dst port:Int) (x:Ru):Bool:=decide (x.kind=2) && (decide (x.proto=proto) && (decide (x.tt=dst) && decide (x.port=port)))
theorem zSq(x:Ru)(sb:Nat)(src:Int)(w:World)(hb:x.kind=1→0≤x.bits∧x.bits≤32)(hs:0≤src∧src≤4294967295)(hc:w.cell? ⟨sb,0,none⟩=some (.int .u32 src)):
  Calls Tryz.prog 311 #[.agg (ruc x).toArray,.pointer (some ⟨sb,0,none⟩)] w fun e w'=>e= .returned (.bool (mqB src x))∧Later w w':=by
 obtain⟨kind,proto,net,bts,tq,port,host,hp⟩:=x;unfold ruc mqB;simp only at*;have lb0:Later w (w.alloc (.cells #[.int .i64 kind,.int .u8 proto,.int .u32 net,.int .i64 bts,.int .u32 tq,.int .u16 port,.int .u32 host,.int .u16 hp] 125)):=bA _ _;have c0:=zAa (heap_alloc_new w (.cells #[.int .i64 kind,.int .u8 proto,.int .u32 net,.int .i64 bts,.int .u32 tq,.int .u16 port,.int .u32 host,.int .u16 hp] 125));have cs:=lb0.cell hc;clear hc;go_enter Tryz.func311,Tryz.ntmps311;go_wp2_with fail;generalize w.alloc (.cells #[.int .i64 kind,.int .u8 proto,.int .u32 net,.int .i64 bts,.int .u32 tq,.int .u16 port,.int .u32 host,.int .u16 hp] 125)=w0 at*;by_cases k1:kind=1
 ·obtain ⟨h0,h1⟩:=hb k1
  have hU:∀W,Calls Tryz.prog 265 #[.int .i64 bts] W fun e w'=>e= .returned (.int .u32 (upm bts))∧w'=W:=fun W=>zKg bts W h0 h1;have hz:=and_upm src bts hs h0 h1;have HZ:=zAd hz;clear hz;go_quiet (first|(go_at_call 265;exact Calls.quiet_of_same (hU _)))
  go_wp2_with fail;go_ret
  refine⟨?_,lb0.trans (zAk (Later.refl _) _)⟩;show Ending.returned (Value.bool _)=_
  rw[HZ.out];simp[k1]
  rfl
 ·go_quiet (fail)
  go_wp2_with fail;go_ret
  exact⟨by simp[k1],lb0.trans (zAk (Later.refl _) _)⟩
theorem zSr(x:Ru)(b1 b2 b3:Nat)(pr dst pt:Int)(w:World)(hc1:w.cell? ⟨b1,0,none⟩=some (.int .u8 pr))(hc2:w.cell? ⟨b2,0,none⟩=some (.int .u32 dst))(hc3:w.cell? ⟨b3,0,none⟩=some (.int .u16 pt)):
  Calls Tryz.prog 320 #[.agg (ruc x).toArray,.pointer (some ⟨b1,0,none⟩),.pointer (some ⟨b2,0,none⟩),.pointer (some ⟨b3,0,none⟩)] w fun e w'=>e= .returned (.bool (dnB pr dst pt x))∧Later w w':=by
 obtain⟨kind,proto,net,bts,tq,port,host,hp⟩:=x;unfold ruc dnB;simp only at*;have lb0:Later w (w.alloc (.cells #[.int .i64 kind,.int .u8 proto,.int .u32 net,.int .i64 bts,.int .u32 tq,.int .u16 port,.int .u32 host,.int .u16 hp] 125)):=bA _ _;have c0:=zAa (heap_alloc_new w (.cells #[.int .i64 kind,.int .u8 proto,.int .u32 net,.int .i64 bts,.int .u32 tq,.int .u16 port,.int .u32 host,.int .u16 hp] 125));have d1:=lb0.cell hc1;have d2:=lb0.cell hc2;have d3:=lb0.cell hc3;clear hc1 hc2 hc3;go_enter Tryz.func320,Tryz.ntmps320;go_upto_region 1 with fail;generalize w.alloc (.cells #[.int .i64 kind,.int .u8 proto,.int .u32 net,.int .i64 bts,.int .u32 tq,.int .u16 port,.int .u32 host,.int .u16 hp] 125)=w0 at*;by_cases k1:kind=2
 ·by_cases k2:proto=pr
  ·subst k2
   by_cases k3:tq=dst
   ·subst k3
    by_cases k4:port=pt
    ·subst k4
     go_wp2_with fail;go_ret
     exact⟨by simp[*],lb0⟩
    ·go_wp2_with fail
     go_ret
     exact⟨by simp[*],lb0⟩
   ·go_wp2_with fail
    go_ret
    exact⟨by simp[*],lb0⟩
  ·go_wp2_with fail
   go_ret
   exact⟨by simp[*],lb0⟩
 ·go_wp2_with fail
  go_ret
  exact⟨by simp[*],lb0⟩
theorem has1_any(y x:Ru)(xb:Nat)(w:World)(hc:w.heap[xb]? =some (.cells (ruc x).toArray 125 (0,0))):
  Calls Tryz.prog 198 #[.agg (ruc y).toArray,.pointer (some ⟨xb,0,none⟩)] w fun e w'=>e= .returned (.bool (decide (y=x)))∧Later w w':=by
 obtain⟨kind,proto,net,bts,tq,port,host,hp⟩:=y;obtain⟨k2,p2,n2,b2,t2,q2,h2,g2⟩:=x;unfold ruc at*;simp only at*;have lb0:Later w (w.alloc (.cells #[.int .i64 kind,.int .u8 proto,.int .u32 net,.int .i64 bts,.int .u32 tq,.int .u16 port,.int .u32 host,.int .u16 hp] 125)):=bA _ _;have c0:=zAa (heap_alloc_new w (.cells #[.int .i64 kind,.int .u8 proto,.int .u32 net,.int .i64 bts,.int .u32 tq,.int .u16 port,.int .u32 host,.int .u16 hp] 125));have cx:=zAa (zAb lb0 hc);clear hc;go_enter Tryz.func198,Tryz.ntmps198;go_upto_region 1 with fail;generalize w.alloc (.cells #[.int .i64 kind,.int .u8 proto,.int .u32 net,.int .i64 bts,.int .u32 tq,.int .u16 port,.int .u32 host,.int .u16 hp] 125)=w0 at*;go_wp2_with fail
 all_goals go_ret
 all_goals exact⟨by simp_all,lb0⟩
theorem masq_any(base:Nat)(p:Option Addr)(ls:List Ru)(src:Int)(w:World)(hT:PL base w p ls)(hok:okL ls)(hs:0≤src∧src≤4294967295):
  Calls Tryz.prog 281 #[.pointer p,.int .u32 src] w fun e w'=>e= .returned (.tuple #[.agg (ruc (fnd (mqB src) ls)).toArray,.bool (fdb (mqB src) ls)])∧Later w w':=by
 have lb0:Later w ((w.alloc (.cells #[.int .u32 src] 29)).alloc (.cells #[.int .i64 0,.int .u8 0,.int .u32 0,.int .i64 0,.int .u32 0,.int .u16 0,.int .u32 0,.int .u16 0] 125)):=(bA _ _).alloc (by simp) _;have c0:((w.alloc (.cells #[.int .u32 src] 29)).alloc (.cells #[.int .i64 0,.int .u8 0,.int .u32 0,.int .i64 0,.int .u32 0,.int .u16 0,.int .u32 0,.int .u16 0] 125)).heap[w.heap.size]? =some (.cells #[.int .u32 src] 29):=(Below.heap_alloc _ _ _ (by simp)).trans (heap_alloc_new w _)
 have c1:((w.alloc (.cells #[.int .u32 src] 29)).alloc (.cells #[.int .i64 0,.int .u8 0,.int .u32 0,.int .i64 0,.int .u32 0,.int .u16 0,.int .u32 0,.int .u16 0] 125)).heap[w.heap.size+1]? =some (.cells #[.int .i64 0,.int .u8 0,.int .u32 0,.int .i64 0,.int .u32 0,.int .u16 0,.int .u32 0,.int .u16 0] 125):=by
  have:=heap_alloc_new (w.alloc (.cells #[.int .u32 src] 29)) (.cells #[.int .i64 0,.int .u8 0,.int .u32 0,.int .i64 0,.int .u32 0,.int .u16 0,.int .u32 0,.int .u16 0] 125);rwa [World.size_alloc]at this
 go_enter Tryz.func281,Tryz.ntmps281;go_wp2_with fail;generalize (w.alloc (.cells #[.int .u32 src] 29)).alloc (.cells #[.int .i64 0,.int .u8 0,.int .u32 0,.int .i64 0,.int .u32 0,.int .u16 0,.int .u32 0,.int .u16 0] 125)=w0 at*;refine((callsIn_wide (n:=5)).1 (zL6 5 p w0)).mono ?_;rintro e w1 ⟨rfl,hw1⟩;have l1:Later w0 w1:=by rw[hw1];exact bA _ _
 have b1:w1.heap[w0.heap.size]? =some (.cells #[.pointer p] 85):=by rw[hw1];exact heap_alloc_new w0 _
 generalize w0.heap.size=B at*;clear hw1;have hT1:=hT.later (lb0.trans l1);have d0:=zAb l1 c0;have d1:=zAb l1 c1;go_wp2_with fail;refine(zF9 base 311 #[.pointer (some ⟨w.heap.size,0,none⟩)] p B ls (mqB src) w1 hT1 (bl9 b1) ((zAa b1 0).trans rfl) (enters_of Tryz.func311 (by kernel_rfl) rfl) (fun x hx W hW=>zSq x w.heap.size src W (fun hk=>rtB_bits (hok.2 x hx).2 hk) hs ((zAa (zAb hW d0) 0).trans rfl))).mono ?_;rintro e w2 ⟨rfl,l2⟩;have e1:=zAb l2 d1;have K1:=zAa e1;have F1:=zAc e1;generalize hr:fnd (mqB src) ls=r at*;generalize ht:fdb (mqB src) ls=t at*;have HR:=zAd hr;have HT:=zAd ht;clear hr ht;unfold ruc;go_wp2_with fail;change bodyPost _ _ _ _ _ (zAi w2 (w.heap.size+1) 0 (ruc r));have v1:=zAe (ruc r) e1 rfl;have hbl:Below w.heap.size w2 (zAi w2 (w.heap.size+1) 0 (ruc r)):=(zA1 (rb:=w.heap.size+1) (ruc r) w2).below ((lb0.trans l1).trans l2).size (fun k hk e=>by omega);generalize zAi w2 (w.heap.size+1) 0 (ruc r)=V at*;have k1:=zAa v1;simp only[ruc]at k1;refine bodyPost_ret (v:= .tuple #[.agg (ruc r).toArray,.bool t]) (by simp[results,Tryz.results281,go_sem,k1,ruc]) rfl ⟨by rw[HR.out,HT.out],Below.trans ((lb0.trans l1).trans l2) hbl⟩
theorem dnat_any(base:Nat)(p:Option Addr)(ls:List Ru)(pr dst pt:Int)(w:World)(hT:PL base w p ls):
  Calls Tryz.prog 288 #[.pointer p,.int .u8 pr,.int .u32 dst,.int .u16 pt] w fun e w'=>e= .returned (.tuple #[.agg (ruc (fnd (dnB pr dst pt) ls)).toArray,.bool (fdb (dnB pr dst pt) ls)])∧Later w w':=by
 have lb0:Later w ((((w.alloc (.cells #[.int .u8 pr] 5)).alloc (.cells #[.int .u32 dst] 29)).alloc (.cells #[.int .u16 pt] 22)).alloc (.cells #[.int .i64 0,.int .u8 0,.int .u32 0,.int .i64 0,.int .u32 0,.int .u16 0,.int .u32 0,.int .u16 0] 125)):=(((bA _ _).alloc (by simp) _).alloc (by simp<;>omega) _).alloc (by simp<;>omega) _;have c0:((((w.alloc (.cells #[.int .u8 pr] 5)).alloc (.cells #[.int .u32 dst] 29)).alloc (.cells #[.int .u16 pt] 22)).alloc (.cells #[.int .i64 0,.int .u8 0,.int .u32 0,.int .i64 0,.int .u32 0,.int .u16 0,.int .u32 0,.int .u16 0] 125)).heap[w.heap.size]? =some (.cells #[.int .u8 pr] 5):=(Below.heap_alloc _ _ _ (by simp<;>omega)).trans ((Below.heap_alloc _ _ _ (by simp<;>omega)).trans ((Below.heap_alloc _ _ _ (by simp)).trans (heap_alloc_new w _)))
 have c1:((((w.alloc (.cells #[.int .u8 pr] 5)).alloc (.cells #[.int .u32 dst] 29)).alloc (.cells #[.int .u16 pt] 22)).alloc (.cells #[.int .i64 0,.int .u8 0,.int .u32 0,.int .i64 0,.int .u32 0,.int .u16 0,.int .u32 0,.int .u16 0] 125)).heap[w.heap.size+1]? =some (.cells #[.int .u32 dst] 29):=by
  have:=heap_alloc_new (w.alloc (.cells #[.int .u8 pr] 5)) (.cells #[.int .u32 dst] 29);rw[World.size_alloc]at this;exact(Below.heap_alloc _ _ _ (by simp)).trans ((Below.heap_alloc _ _ _ (by simp)).trans this)
 have c2:((((w.alloc (.cells #[.int .u8 pr] 5)).alloc (.cells #[.int .u32 dst] 29)).alloc (.cells #[.int .u16 pt] 22)).alloc (.cells #[.int .i64 0,.int .u8 0,.int .u32 0,.int .i64 0,.int .u32 0,.int .u16 0,.int .u32 0,.int .u16 0] 125)).heap[w.heap.size+1+1]? =some (.cells #[.int .u16 pt] 22):=by
  have:=heap_alloc_new ((w.alloc (.cells #[.int .u8 pr] 5)).alloc (.cells #[.int .u32 dst] 29)) (.cells #[.int .u16 pt] 22);simp only[World.size_alloc]at this;exact(Below.heap_alloc _ _ _ (by simp)).trans this
 have c3:((((w.alloc (.cells #[.int .u8 pr] 5)).alloc (.cells #[.int .u32 dst] 29)).alloc (.cells #[.int .u16 pt] 22)).alloc (.cells #[.int .i64 0,.int .u8 0,.int .u32 0,.int .i64 0,.int .u32 0,.int .u16 0,.int .u32 0,.int .u16 0] 125)).heap[w.heap.size+1+1+1]? =some (.cells #[.int .i64 0,.int .u8 0,.int .u32 0,.int .i64 0,.int .u32 0,.int .u16 0,.int .u32 0,.int .u16 0] 125):=by
  have:=heap_alloc_new (((w.alloc (.cells #[.int .u8 pr] 5)).alloc (.cells #[.int .u32 dst] 29)).alloc (.cells #[.int .u16 pt] 22)) (.cells #[.int .i64 0,.int .u8 0,.int .u32 0,.int .i64 0,.int .u32 0,.int .u16 0,.int .u32 0,.int .u16 0] 125);simpa only[World.size_alloc]using this
 go_enter Tryz.func288,Tryz.ntmps288;go_wp2_with fail;generalize (((w.alloc (.cells #[.int .u8 pr] 5)).alloc (.cells #[.int .u32 dst] 29)).alloc (.cells #[.int .u16 pt] 22)).alloc (.cells #[.int .i64 0,.int .u8 0,.int .u32 0,.int .i64 0,.int .u32 0,.int .u16 0,.int .u32 0,.int .u16 0] 125)=w0 at*;refine((callsIn_wide (n:=5)).1 (zL6 5 p w0)).mono ?_;rintro e w1 ⟨rfl,hw1⟩;have l1:Later w0 w1:=by rw[hw1];exact bA _ _
 have b1:w1.heap[w0.heap.size]? =some (.cells #[.pointer p] 85):=by rw[hw1];exact heap_alloc_new w0 _
 generalize w0.heap.size=B at*;clear hw1;have hT1:=hT.later (lb0.trans l1);have d0:=zAb l1 c0;have d1:=zAb l1 c1;have d2:=zAb l1 c2;have d3:=zAb l1 c3;go_wp2_with fail;refine(zF9 base 320 #[.pointer (some ⟨w.heap.size,0,none⟩),.pointer (some ⟨w.heap.size+1,0,none⟩),.pointer (some ⟨w.heap.size+1+1,0,none⟩)] p B ls (dnB pr dst pt) w1 hT1 (bl9 b1) ((zAa b1 0).trans rfl) (enters_of Tryz.func320 (by kernel_rfl) rfl) (fun x hx W hW=>zSr x w.heap.size (w.heap.size+1) (w.heap.size+1+1) pr dst pt W ((zAa (zAb hW d0) 0).trans rfl) ((zAa (zAb hW d1) 0).trans rfl) ((zAa (zAb hW d2) 0).trans rfl))).mono ?_;rintro e w2 ⟨rfl,l2⟩;have e1:=zAb l2 d3;have K1:=zAa e1;have F1:=zAc e1;generalize hr:fnd (dnB pr dst pt) ls=r at*;generalize ht:fdb (dnB pr dst pt) ls=t at*;have HR:=zAd hr;have HT:=zAd ht;clear hr ht;unfold ruc;go_wp2_with fail;change bodyPost _ _ _ _ _ (zAi w2 (w.heap.size+1+1+1) 0 (ruc r));have v1:=zAe (ruc r) e1 rfl;have hbl:Below w.heap.size w2 (zAi w2 (w.heap.size+1+1+1) 0 (ruc r)):=(zA1 (rb:=w.heap.size+1+1+1) (ruc r) w2).below ((lb0.trans l1).trans l2).size (fun k hk e=>by omega);generalize zAi w2 (w.heap.size+1+1+1) 0 (ruc r)=V at*;have k1:=zAa v1;simp only[ruc]at k1
 refine bodyPost_ret (v:= .tuple #[.agg (ruc r).toArray,.bool t]) (by simp[results,Tryz.results288,go_sem,k1,ruc]) rfl ⟨by rw[HR.out,HT.out],Below.trans ((lb0.trans l1).trans l2) hbl⟩
def hasB (x:Ru) (l:List Ru):Bool:=fdb (fun y=>decide (y=x)) l
theorem has_anyU(base:Nat)(p:Option Addr)(ls:List Ru)(x:Ru)(w:World)(hT:PL base w p ls):
  Calls Tryz.prog 147 #[.pointer p,.agg (ruc x).toArray] w fun e w'=>e= .returned (.bool (hasB x ls))∧Later w w':=by
 have lb0:Later w (w.alloc (.cells (ruc x).toArray 125)):=bA _ _;have c0:=heap_alloc_new w (.cells (ruc x).toArray 125);go_enter Tryz.func147,Tryz.ntmps147;unfold ruc at*;go_wp2_with fail;generalize w.alloc _=w0 at*;refine((callsIn_wide (n:=5)).1 (zL6 5 p w0)).mono ?_;rintro e w1 ⟨rfl,hw1⟩;have l1:Later w0 w1:=by rw[hw1];exact bA _ _
 have b1:w1.heap[w0.heap.size]? =some (.cells #[.pointer p] 85):=by rw[hw1];exact heap_alloc_new w0 _
 generalize w0.heap.size=B at*;clear hw1;have hT1:=hT.later (lb0.trans l1);have d0:=zAb l1 c0;go_wp2_with fail;refine(zF9 base 198 #[.pointer (some ⟨w.heap.size,0,none⟩)] p B ls (fun y=>decide (y=x)) w1 hT1 (bl9 b1) ((zAa b1 0).trans rfl) (enters_of Tryz.func198 (by kernel_rfl) rfl) (fun y hy W hW=>has1_any y x w.heap.size W (zAb hW d0))).mono ?_;rintro e w2 ⟨rfl,l2⟩;generalize fnd (fun y=>decide (y=x)) ls=r at*;generalize ht:fdb (fun y=>decide (y=x)) ls=t at*;have HT:=zAd ht;clear ht;unfold ruc;go_wp2_with fail;go_ret
 refine⟨?_,(lb0.trans (l1.trans l2)).trans (bA _ _)⟩;unfold hasB;rw[HT.out];rfl
end Go.Proofs.YteaeilghamjjkaaGreatDoor
