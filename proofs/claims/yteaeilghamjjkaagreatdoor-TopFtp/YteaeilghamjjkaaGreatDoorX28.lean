import Derived.Test.YteaeilghamjjkaaGreatDoorX29
import Derived.Deep.DeepCutAuto
import Derived.Deep.CutBlock
import Derived.Deep.AppendLies
import Derived.Deep.Upon
namespace Go.Proofs.YteaeilghamjjkaaGreatDoor
set_option maxHeartbeats 8000000
open Go.RowKit Go.Shelf
set_option maxRecDepth 100000
set_option linter.unusedVariables false
set_option linter.unusedSimpArgs false
structure Ru where
 kind:Int
 proto:Int
 net:Int
 bits:Int
 tt:Int
 port:Int
 host:Int
 hp:Int
deriving DecidableEq
def ruc (r:Ru):List Value:=[.int .i64 r.kind,.int .u8 r.proto,.int .u32 r.net,.int .i64 r.bits,.int .u32 r.tt,.int .u16 r.port,.int .u32 r.host,.int .u16 r.hp]
def zRu:Ru:=⟨0,0,0,0,0,0,0,0⟩
def rus (l:List Ru):List Value:=l.flatMap ruc
theorem zE4(r:Ru):(ruc r).length=8:=rfl
theorem zOy(l:List Ru)(r:Ru):rus (l++[r])=rus l++ruc r:=by unfold rus;simp
theorem rus_at:∀(l:List Ru) (j i:Nat) (hj:j<l.length),i<8→(rus l)[j*8+i]? =(ruc l[j])[i]?
 |r::l,0,i,_,hi=>by
  unfold rus;rw[List.flatMap_cons,Nat.zero_mul,Nat.zero_add,List.getElem?_append_left (by rw[zE4];exact hi)];rfl
 |r::l,j+1,i,hj,hi=>by
  have ih:=rus_at l j i (by simpa using hj) hi;unfold rus at ih⊢;rw[List.flatMap_cons,List.getElem?_append_right (by rw[zE4];omega),zE4,show(j+1)*8+i-8=j*8+i from by omega,ih];rfl
def wfR (r:Ru):Prop:=(-9223372036854775808≤r.kind∧r.kind≤9223372036854775807)∧(0≤r.proto∧r.proto≤255)∧(0≤r.net∧r.net≤4294967295)∧(-9223372036854775808≤r.bits∧r.bits≤9223372036854775807)∧(0≤r.tt∧r.tt≤4294967295)∧(0≤r.port∧r.port≤65535)∧(0≤r.host∧r.host≤4294967295)∧(0≤r.hp∧r.hp≤65535)
def RdQ (n₀:Nat) (W:World) (sv:Value) (l:List Ru):Prop:=
 (∃a cap,sv= .slice a 0 cap∧l=[]∧cap≤9223372036854775807∧(a=none→cap=0))∨
 ∃b off cap,sv= .slice (some ⟨b,off,none⟩) l.length cap∧l≠ []∧l.length≤cap∧cap≤9223372036854775807∧b<n₀∧∀j (hj:j<l.length),∀i,i<8→W.cell? ⟨b,off+j*8+i,none⟩=(ruc l[j])[i]?
theorem RdQ.below {n₀:Nat} {A B:World} (h:Below n₀ A B) {sv:Value} {l:List Ru} :RdQ n₀ A sv l→RdQ n₀ B sv l
 | .inl e=> .inl e
 | .inr ⟨b,off,cap,e,hne,hl,hm,hb,hc⟩=> .inr ⟨b,off,cap,e,hne,hl,hm,hb,fun j hj i hi=>(h.cell (p:=⟨b,off+j*8+i,none⟩) hb).trans (hc j hj i hi)⟩
theorem RdQ.slice {n₀:Nat} {A:World} {sv:Value} {l:List Ru} :RdQ n₀ A sv l→∃a cap,sv= .slice a l.length cap∧l.length≤cap∧cap≤9223372036854775807
 | .inl ⟨a,cap,e,hz,hm,_⟩=>⟨a,cap,by rw[e,hz];rfl,by rw[hz];exact Nat.zero_le _,hm⟩
 | .inr ⟨b,off,cap,e,_,hl,hm,_⟩=>⟨_,cap,e,hl,hm⟩
theorem RdQ.cells {n₀:Nat} {W:World} {sv:Value} {l:List Ru} (h:RdQ n₀ W sv l)(hne:0<l.length):∃b off cap,sv= .slice (some ⟨b,off,none⟩) l.length cap∧l.length≤cap∧cap≤9223372036854775807∧b<n₀∧∀j (hj:j<l.length),∀i,i<8→W.cell? ⟨b,off+j*8+i,none⟩=(ruc l[j])[i]? :=by
 rcases h with⟨a,cap,_,rfl,_⟩|⟨b,off,cap,e,_,hl,hm,hb,hc⟩
 ·simp at hne
 ·exact ⟨b,off,cap,e,hl,hm,hb,hc⟩
theorem zSo {base:Nat} {W:World} {v:Value} {l:List Ru} (h:W.ownsRow base 125 8 v l.length (rus l)):RdQ W.heap.size W v l:=by
 obtain⟨h1,⟨rfl,h0⟩|⟨g,cap,cur,rfl,hg,hh,hl,hm,hs,hc⟩⟩:=h
 ·have:l=[]:=List.eq_nil_of_length_eq_zero h0
  subst this;exact .inl ⟨none,0,rfl,rfl,by omega,fun _=>rfl⟩
 ·by_cases hn:l=[]
  ·subst hn
   exact .inl ⟨_,cap,rfl,rfl,by simpa[maxLen]using hm,fun h=>by cases h⟩
  ·refine .inr ⟨g,0,cap,rfl,hn,hl,by simpa[maxLen]using hm,(eS hh),fun j hj i hi=> ?_⟩
   rw[Nat.zero_add,zAa hh,←rus_at l j i hj hi,←hc,List.getElem?_take_of_lt (by omega)];simp
theorem zQm {base:Nat} {A B:World} {v:Value} {n:Nat} {xs:List Value} (h:A.ownsRow base 125 8 v n xs)(l:Later A B):B.ownsRow base 125 8 v n xs:=by
 obtain⟨h1,h2|⟨g,cap,cur,hv,hg,hh,r⟩⟩:=h
 ·exact ⟨h1,.inl h2⟩
 ·exact ⟨h1,.inr ⟨g,cap,cur,hv,hg,zAb l hh,r⟩⟩
def RL (t:TypeId) (base:Nat) (W:World) (b:Nat) (v:Value) (l:List Ru):Prop:=base≤b∧W.heap[b]? =some (.cells #[v] t (0,0))∧W.ownsRow base 125 8 v l.length (rus l)
theorem RL.later {t:TypeId} {base:Nat} {A B:World} {b:Nat} {v:Value} {l:List Ru} (h:RL t base A b v l)(k:Later A B):RL t base B b v l:=⟨h.1,zAb k h.2.1,zQm h.2.2 k⟩
theorem RL.ne {t t2:TypeId} {base:Nat} {W:World} {b c:Nat} {v:Value} {l:List Ru} {cur:Array Value} (h:RL t base W b v l)(hc:W.heap[c]? =some (.cells cur t2 (0,0)))(ht:t2≠125):v.ownBlock≠some c:=fun e=>by
 obtain⟨h1,⟨hn,_⟩|⟨g,cap,cu,hv,hg,hh,r⟩⟩:=h.2.2
 ·rw[hn]at e;cases e
 ·rw[hv]at e
  cases e
  rw[hc]at hh
  simp at hh
  exact ht hh.2
theorem RL.lt {t:TypeId} {base:Nat} {W:World} {b:Nat} {v:Value} {l:List Ru} (h:RL t base W b v l) {g:Nat} (e:v.ownBlock=some g):base≤g∧g<W.heap.size:=by
 obtain⟨h1,⟨hn,_⟩|⟨g2,cap,cu,hv,hg,hh,r⟩⟩:=h.2.2
 ·rw[hn]at e;cases e
 ·rw[hv]at e
  cases e
  exact⟨hg,(eS hh)⟩
theorem RL.blt {t:TypeId} {base:Nat} {W:World} {b:Nat} {v:Value} {l:List Ru} (h:RL t base W b v l):b<W.heap.size:=(eS h.2.1)
def upm (k:Int):Int:=4294967296-2^(32-k.toNat)
def upp (n k:Int):Int:=n/2^(32-k.toNat)*2^(32-k.toNat)
theorem zQn(n j:Nat)(hj:j≤32)(hn:n<4294967296):n &&& (4294967296-2^j)=n/2^j*2^j:=by
 have e:4294967296-2^j=(2^(32-j)-1)<<<j:=by
  rw[Nat.shiftLeft_eq,Nat.sub_mul,←Nat.pow_add,show 32-j+j=32 from by omega];simp
 have e2:n/2^j*2^j=(n>>>j)<<<j:=by rw[Nat.shiftLeft_eq,Nat.shiftRight_eq_div_pow]
 rw[e,e2];apply Nat.eq_of_testBit_eq
 intro i
 simp only[Nat.testBit_and,Nat.testBit_shiftLeft,Nat.testBit_shiftRight,Nat.testBit_two_pow_sub_one];by_cases h:j≤i
 ·simp[h]
  intro hb
  by_cases hi:i<32
  ·omega
  ·have:n.testBit i=false:=Nat.testBit_lt_two_pow (Nat.lt_of_lt_of_le hn (by rw[show 4294967296=2^32 from rfl];exact Nat.pow_le_pow_right (by omega) (by omega)))
   rw[this]at hb;cases hb
 ·simp[h]
theorem upm_bd(k:Int)(h0:0≤k)(h1:k≤32):0≤upm k∧upm k≤4294967295:=by
 unfold upm;have h2:(2:Nat)^(32-k.toNat)≤2^32:=Nat.pow_le_pow_right (by omega) (by omega);have h3:0<(2:Nat)^(32-k.toNat):=Nat.pow_pos (by omega);have e:((2:Int)^(32-k.toNat))=((2^(32-k.toNat):Nat):Int):=by simp
 rw[e];omega
attribute [local go_sem] Oper.semAt_some
def encU (r:Ru):Array Value:=#[.agg (ruc r).toArray]
def XU (l:List Ru) (pre:List Ru) (x:Ru) (_V:World):Prop:=∃rest,pre++x::rest=l
theorem zL6(n:Nat)(p:Option Addr)(w:World):
  CallsIn Fence.wide n Tryz.prog 197 #[.pointer p] w fun e w'=>e= .returned (.func (.func 266) #[] #[.pointer (some ⟨w.heap.size,0,none⟩)])∧w'=w.alloc (.cells #[.pointer p] 85):=by
 refine callsIn_of_wp Tryz.func197 rfl trivial ?_ rfl;simp only[Tryz.ntmps197,List.size_toArray,List.length_cons,List.length_nil,Nat.reduceAdd,Nat.reduceSub,Array.replicate_succ,Array.replicate_zero,List.push_toArray,List.append_toArray,List.nil_append,List.cons_append];gi_wp2
 go_ret
 exact⟨rfl,rfl⟩
theorem allU1_in(n:Nat)(hn:1≤n)(l B b n₀:Nat)(v:Value)(ls:List Ru)(J Jx:List Ru→World→Prop)
  (hJ:∀s A B,J s A→Later A B→J s B)
  (hY:∀pre x V,J pre V→XU ls pre x V→YieldAt Fence.wide (n-1) Tryz.prog l (encU x) V fun e V'=>(e= .returned (.bool true)∧J (pre++[x]) V'∧Below n₀ V V')∨(e= .returned (.bool false)∧Jx (pre++[x]) V'))
  (W:World)(hB:W.cell? ⟨B,0,none⟩=some (.pointer (some ⟨b,0,none⟩)))(hn0:n₀≤W.heap.size)(hc:W.cell? ⟨b,0,none⟩=some v)(hR:RdQ n₀ W v ls)(h0:J [] W):
  CallsIn Fence.wide n Tryz.prog 266 #[.func (.yield l) #[] #[],.pointer (some ⟨B,0,none⟩)] W fun e W'=>(∃v,e= .returned v)∧((∃xs,xs=ls∧J xs W')∨(∃pre,(∃rest,pre++rest=ls)∧Jx pre W')):=by
 obtain⟨sa,cap,rfl,hc1,hc2⟩:=hR.slice;have HR:=zAd hR;clear hR;refine callsIn_of_wp Tryz.func266 rfl trivial ?_ rfl;simp only[Tryz.ntmps266,List.size_toArray,List.length_cons,List.length_nil,Nat.reduceAdd,Nat.reduceSub,Array.replicate_succ,Array.replicate_zero,List.push_toArray,List.append_toArray,List.nil_append,List.cons_append];gi_wp2
 gi_loopw [12] (fun i wx=>∃k:Nat,k≤ls.length∧i= .int .i64 (k:Int)∧J (ls.take k) wx∧Below n₀ W wx) (fun i _=>ls.length-(intOf i).toNat)
 case atStart=>exact⟨0,by omega,rfl,by rw[List.take_zero];exact h0,Below.refl _ _⟩
 case round=>
  obtain⟨k,hk,rfl,hJk,hbk⟩:=hrel;by_cases hkl:k<ls.length
  ·obtain ⟨g,off,cp,e,_,_,hgn,hcs⟩:=(HR.out.below hbk).cells (by omega)
   simp at e
   obtain⟨rfl,rfl⟩:=e;have c0:=hcs k hkl 0 (by omega);have c1:=hcs k hkl 1 (by omega);have c2:=hcs k hkl 2 (by omega);have c3:=hcs k hkl 3 (by omega);have c4:=hcs k hkl 4 (by omega);have c5:=hcs k hkl 5 (by omega);have c6:=hcs k hkl 6 (by omega);have c7:=hcs k hkl 7 (by omega);have hkl':(k:Int)<ls.length:=by omega
   have hat:∃rest,ls.take k++ls[k]::rest=ls:=⟨ls.drop (k+1),by rw[←List.drop_eq_getElem_cons hkl,List.take_append_drop]⟩;have htk:ls.take (k+1)=ls.take k++[ls[k]]:=(List.take_append_getElem hkl).symm;have htl:∃rest,ls.take k++[ls[k]]++rest=ls:=⟨ls.drop (k+1),by rw[List.take_append_getElem hkl,List.take_append_drop]⟩;clear hcs;generalize hgo:ls[k]=r at*;have HAT:=zAd hat;have HTK:=zAd htk;have HTL:=zAd htl;clear hgo hat htk htl;simp only[ruc,List.getElem?_cons_zero,List.getElem?_cons_succ,Nat.add_zero]at c0 c1 c2 c3 c4 c5 c6 c7;have la:Later wr (wr.alloc (.cells #[.int .i64 r.kind,.int .u8 r.proto,.int .u32 r.net,.int .i64 r.bits,.int .u32 r.tt,.int .u16 r.port,.int .u32 r.host,.int .u16 r.hp] 125)):=bA _ _;obtain⟨fn,tmps,assign,body,hy,hR⟩:=hY _ r _ (hJ _ _ _ hJk la) HAT.out;dsimp only[encU,ruc]at hy
   have hwr:=Nat.le_trans hn0 hbk.size;gi_wp2
   refine hR.mono ?_;rintro e W3 (⟨rfl,hJ3,hk3⟩|⟨rfl,hJx3⟩)
   ·gi_wp2
    go_roundw
    case rel=>exact⟨k+1,by omega,by go_num,by rw[HTK.out];exact hJ3,hbk.trans ((la.mono hwr).trans hk3)⟩
    case measure=>simp[intOf];omega
   ·gi_wp2
    refine bodyPost_ret (results_none rfl _ _ _) rfl ?_;exact⟨⟨_,rfl⟩,.inr ⟨_,HTL.out,hJx3⟩⟩
  ·obtain rfl:k=ls.length:=by omega
   gi_wp2
   go_end0
   exact⟨⟨_,rfl⟩,.inl ⟨_,rfl,by rw[List.take_length]at hJk;exact hJk⟩⟩
theorem zSp(n:Nat)(l B:Nat)(J Jx:List Ru→World→Prop)(W:World)(hB:W.cell? ⟨B,0,none⟩=some (.pointer none))(h0:J [] W):
  CallsIn Fence.wide n Tryz.prog 266 #[.func (.yield l) #[] #[],.pointer (some ⟨B,0,none⟩)] W fun e W'=>(∃v,e= .returned v)∧((∃xs,xs=[]∧J xs W')∨(∃pre,(∃rest,pre++rest=[])∧Jx pre W')):=by
 refine callsIn_of_wp Tryz.func266 rfl trivial ?_ rfl;simp only[Tryz.ntmps266,List.size_toArray,List.length_cons,List.length_nil,Nat.reduceAdd,Nat.reduceSub,Array.replicate_succ,Array.replicate_zero,List.push_toArray,List.append_toArray,List.nil_append,List.cons_append];gi_wp2
 refine bodyPost_ret (results_none rfl _ _ _) rfl ?_;exact⟨⟨_,rfl⟩,.inl ⟨_,rfl,h0⟩⟩
def PL (base:Nat) (W:World) (p:Option Addr) (l:List Ru):Prop:=(p=none∧l=[])∨∃b v,p=some ⟨b,0,none⟩∧RL 285 base W b v l
theorem PL.later {base:Nat} {A B:World} {p:Option Addr} {l:List Ru} (h:PL base A p l)(k:Later A B):PL base B p l:=h.imp id fun⟨b,v,e,h⟩=>⟨b,v,e,h.later k⟩
theorem allU_gen(n:Nat)(hn:1≤n)(B base:Nat)(p:Option Addr)(ls:List Ru)(w0 w:World)(hT:PL base w0 p ls)(hw:Later w0 w)(hBl:B<w.heap.size)(hB:w.cell? ⟨B,0,none⟩=some (.pointer p)):
  GenX Fence.wide n Tryz.prog 266 #[.pointer (some ⟨B,0,none⟩)] encU (Below w0.heap.size) (XU ls) (fun xs=>xs=ls) (fun pre=>∃rest,pre++rest=ls) w:=fun l J Jx W hW hJ hY h0=>by
 have hwW:Later w0 W:=hw.trans hW;have hBW:=(hW.cell (p:=⟨B,0,none⟩) hBl).trans hB;rcases hT with⟨rfl,rfl⟩|⟨b,v,rfl,hT⟩
 ·exact zSp n l B J Jx W hBW h0
 ·exact allU1_in n hn l B b w0.heap.size v ls J Jx hJ hY W hBW hwW.size ((zAa (hT.later hwW).2.1 0).trans rfl) ((zSo hT.2.2).below hwW) h0
attribute [local go_sem] Oper.semAt_some
def CTu (A B:World):Prop:=A.heap.size≤B.heap.size∧∀(k:Nat) (o:Obj),A.heap[k]? =some o→o.isCells=true→B.heap[k]? =some o
theorem CTu.of {A B:World} (h:Later A B):CTu A B:=⟨h.size,fun k o ho _=>zAb h ho⟩
theorem CTu.row {A B:World} {row:Option Nat} (hg:A.grownBy B row)(hr:∀r,row=some r→∃o:Obj,A.heap[r]? =some o∧o.isCells=false):CTu A B:=
 ⟨hg.size,fun k o ho hc=>(hg.block k (eS ho) (fun e=>by obtain⟨o',h1,h2⟩:=hr k e.symm;rw[ho]at h1;cases h1;rw[hc]at h2;cases h2)).trans ho⟩
theorem CTu.put {A:World} {l:Nat} {o o':Obj} (h:A.heap[l]? =some o)(hc:o.isCells=false):CTu A (A.putObj l o'):=
 CTu.row (grownBy_putObj' A l o') (fun r e=>by cases e;exact⟨o,h,hc⟩)
def fnd (p:Ru→Bool) (l:List Ru):Ru:=(l.find? p).getD zRu
def fdb (p:Ru→Bool) (l:List Ru):Bool:=(l.find? p).isSome
theorem fnd_no {p:Ru→Bool} {l:List Ru} (h:∀x∈l,p x=false):fnd p l=zRu∧fdb p l=false:=by
 have:l.find? p=none:=by rw[List.find?_eq_none];intro x hx;rw[h x hx];simp
 unfold fnd fdb;rw[this];exact⟨rfl,rfl⟩
theorem fnd_yes {p:Ru→Bool} {pre:List Ru} {x:Ru} {rest:List Ru} (h:∀y∈pre,p y=false)(hx:p x=true):fnd p (pre++[x]++rest)=x∧fdb p (pre++[x]++rest)=true:=by
 have:(pre++[x]++rest).find? p=some x:=by
  rw[List.append_assoc,List.find?_append,show pre.find? p=none from by rw[List.find?_eq_none];intro y hy;rw[h y hy];simp];simp[hx]
 unfold fnd fdb;rw[this];exact⟨rfl,rfl⟩
def PF (rb:Nat) (cv:Value) (p:Ru→Bool) (w:World) (pre:List Ru) (W:World):Prop:=
 (W.heap[rb]? =some (.cells #[cv] 286 (0,0))∧W.heap[rb+1]? =some (.cells (ruc zRu).toArray 125 (0,0))∧W.heap[rb+1+1]? =some (.cells #[.bool false] 4 (0,0)))∧∀x∈pre,p x=false
theorem PF.ct {rb:Nat} {cv:Value} {p:Ru→Bool} {w:World} {pre:List Ru} {A B:World} (h:PF rb cv p w pre A)(c:CTu A B):PF rb cv p w pre B:=
 ⟨⟨c.2 _ _ h.1.1 rfl,c.2 _ _ h.1.2.1 rfl,c.2 _ _ h.1.2.2 rfl⟩,h.2⟩
def PG (rb:Nat) (p:Ru→Bool) (pre:List Ru) (W:World):Prop:=
 ∃pre0 x,pre=pre0++[x]∧p x=true∧(∀y∈pre0,p y=false)∧W.heap[rb+1]? =some (.cells (ruc x).toArray 125 (0,0))∧W.heap[rb+1+1]? =some (.cells #[.bool true] 4 (0,0))
theorem PG.ct {rb:Nat} {p:Ru→Bool} {pre:List Ru} {A B:World} (h:PG rb p pre A)(c:CTu A B):PG rb p pre B:=by
 obtain⟨pre0,x,h1,h2,h3,h4,h5⟩:=h;exact⟨pre0,x,h1,h2,h3,c.2 _ _ h4 rfl,c.2 _ _ h5 rfl⟩
theorem belowU_b {w:World} {n₀:Nat} (hn:n₀≤w.heap.size)(W:World)(l:Nat)(o o':Obj)(hl:w.heap.size≤l)(ho:W.heap[l]? =some o)(hc:o.isCells=false)(hw:o.isWalk=false):Below n₀ W (W.putObj l o'):=
 belowK_b (w:=w) hn W l o o' hl ho hc hw
theorem zHn(rb D:Nat)(x:Ru)(t:Bool)(W w:World)(hD:rb+1+1+1≤D)(hb:Below w.heap.size w W)(h1:W.heap[rb+1]? =some (.cells (ruc x).toArray 125 (0,0)))(h2:W.heap[rb+1+1]? =some (.cells #[.bool t] 4 (0,0)))(hK:W.heap[D]? =some (.deferred (some [])))
  (hrb:w.heap.size≤rb)(t0 t1 t2 t3 t6 t7 t8 t9 t10 t11 t12 t13 t14:Value):
  bodyPostM Fence.wide 5 Tryz.prog Tryz.f196 (fun e w'=>e= .returned (.tuple #[.agg (ruc x).toArray,.bool t])∧Later w w') Exit.ret
   { tmps:=#[t0,t1,t2,t3,.pointer (some ⟨rb+1,0,none⟩),.pointer (some ⟨rb+1+1,0,none⟩),t6,t7,t8,t9,t10,t11,t12,t13,t14],defers:=[{ target:= .collected D,args:=#[] }] } W:=by
 refine⟨by simp,.inl ⟨_,_,rfl,run_takeDeferred hK,?_⟩⟩;have z1:=(CTu.put (o':= .deferred none) hK rfl).2 _ _ h1 rfl;have z2:=(CTu.put (o':= .deferred none) hK rfl).2 _ _ h2 rfl;have k1:=zAa z1;have k2:=zAa z2;simp only[ruc]at k1;refine⟨.tuple #[.agg (ruc x).toArray,.bool t],by simp[results,Tryz.results196,go_sem,k1,k2,ruc],rfl,hb.trans (belowK_b (w:=w) (Nat.le_refl _) W D _ _ (by omega) hK rfl rfl)⟩
theorem zF9(base cf:Nat)(lb:Array Value)(p:Option Addr)(B:Nat)(ls:List Ru)(q:Ru→Bool)(w:World)(hT:PL base w p ls)(hBl:B<w.heap.size)(hB:w.cell? ⟨B,0,none⟩=some (.pointer p))
  (eg:∀args w,(callFunc cf args).run Tryz.prog w= .ok (.enter cf args) w)
  (hcl:∀x∈ls,∀W,Later w W→Calls Tryz.prog cf (#[.agg (ruc x).toArray]++lb) W fun e W'=>e= .returned (.bool (q x))∧Later W W'):
  Calls Tryz.prog 196 #[.func (.func 266) #[] #[.pointer (some ⟨B,0,none⟩)],.func (.func cf) #[] lb] w fun e w'=>e= .returned (.tuple #[.agg (ruc (fnd q ls)).toArray,.bool (fdb q ls)])∧Later w w':=by
 refine(callsIn_wide (n:=5)).1 ?_;refine callsIn_of_wp_marks Tryz.func196 rfl trivial ?_ rfl;simp only[Tryz.ntmps196,List.size_toArray,List.length_cons,List.length_nil,Nat.reduceAdd,Nat.reduceSub,Array.replicate_succ,Array.replicate_zero,List.push_toArray,List.append_toArray,List.nil_append,List.cons_append];have hb4:Later w (((w.alloc (.cells #[.func (.func cf) #[] lb] 286)).alloc (.cells #[.int .i64 0,.int .u8 0,.int .u32 0,.int .i64 0,.int .u32 0,.int .u16 0,.int .u32 0,.int .u16 0] 125)).alloc (.cells #[.bool false] 4)):=((bA _ _).alloc (by simp) _).alloc (by simp<;>omega) _;have c0:(((w.alloc (.cells #[.func (.func cf) #[] lb] 286)).alloc (.cells #[.int .i64 0,.int .u8 0,.int .u32 0,.int .i64 0,.int .u32 0,.int .u16 0,.int .u32 0,.int .u16 0] 125)).alloc (.cells #[.bool false] 4)).heap[w.heap.size]? =some (.cells #[.func (.func cf) #[] lb] 286):=(Below.heap_alloc _ _ _ (by simp<;>omega)).trans ((Below.heap_alloc _ _ _ (by simp)).trans (heap_alloc_new w _))
 have c1:(((w.alloc (.cells #[.func (.func cf) #[] lb] 286)).alloc (.cells #[.int .i64 0,.int .u8 0,.int .u32 0,.int .i64 0,.int .u32 0,.int .u16 0,.int .u32 0,.int .u16 0] 125)).alloc (.cells #[.bool false] 4)).heap[w.heap.size+1]? =some (.cells #[.int .i64 0,.int .u8 0,.int .u32 0,.int .i64 0,.int .u32 0,.int .u16 0,.int .u32 0,.int .u16 0] 125):=by
  have:=heap_alloc_new (w.alloc (.cells #[.func (.func cf) #[] lb] 286)) (.cells #[.int .i64 0,.int .u8 0,.int .u32 0,.int .i64 0,.int .u32 0,.int .u16 0,.int .u32 0,.int .u16 0] 125);rw[World.size_alloc]at this;exact(Below.heap_alloc _ _ _ (by simp)).trans this
 have c2:(((w.alloc (.cells #[.func (.func cf) #[] lb] 286)).alloc (.cells #[.int .i64 0,.int .u8 0,.int .u32 0,.int .i64 0,.int .u32 0,.int .u16 0,.int .u32 0,.int .u16 0] 125)).alloc (.cells #[.bool false] 4)).heap[w.heap.size+1+1]? =some (.cells #[.bool false] 4):=by
  have:=heap_alloc_new ((w.alloc (.cells #[.func (.func cf) #[] lb] 286)).alloc (.cells #[.int .i64 0,.int .u8 0,.int .u32 0,.int .i64 0,.int .u32 0,.int .u16 0,.int .u32 0,.int .u16 0] 125)) (.cells #[.bool false] 4);simpa only[World.size_alloc]using this
 have hs4:(((w.alloc (.cells #[.func (.func cf) #[] lb] 286)).alloc (.cells #[.int .i64 0,.int .u8 0,.int .u32 0,.int .i64 0,.int .u32 0,.int .u16 0,.int .u32 0,.int .u16 0] 125)).alloc (.cells #[.bool false] 4)).heap.size=w.heap.size+1+1+1:=by simp
 have HCL:=zAd hcl;have HEG:=zAd eg;have C0:=zAd c0;have C1:=zAd c1;have C2:=zAd c2;have HS4:=zAd hs4;clear hcl eg c0 c1 c2 hs4;gi_wp2
 generalize ((w.alloc (.cells #[.func (.func cf) #[] lb] 286)).alloc (.cells #[.int .i64 0,.int .u8 0,.int .u32 0,.int .i64 0,.int .u32 0,.int .u16 0,.int .u32 0,.int .u16 0] 125)).alloc (.cells #[.bool false] 4)=w4 at*;have hs4:w4.heap.size=w.heap.size+1+1+1:=HS4.out
 refine zB7 (w:=w4) rfl (by omega) (gf:=266) (lb:=#[.pointer (some ⟨B,0,none⟩)]) rfl trivial (enters_of Tryz.func266 (by kernel_rfl) rfl)
  (allU_gen 4 (by omega) B base p ls w w4 hT hb4 (by omega) ((hb4.cell hB)))
  (fun h k=>h.trans k) (fun W l o o' hl ho hc hw=>belowU_b (w:=w4) (by omega) W l o o' hl ho hc hw) (fun hA hL=>hL.mono (by omega)) (fun _ _ _ _ h _=>h) (fun _ _ _ _ _ _ _ _ _ h=>h) (fun _=>rfl)
  (fun pre W=>PF w.heap.size (.func (.func cf) #[] lb) q w pre W∧Below w.heap.size w W) (fun pre W=>PG w.heap.size q pre W∧Below w.heap.size w W)
  (OwnFrom.and (fun s A B row hs hg hr=>hs.ct (CTu.row hg (fun r e=>(hr r e).2))) (ownFrom_below (Nat.le_refl _) (by omega)))
  (fun s A B h l=>⟨h.1.ct (CTu.of l),h.2.trans (l.mono h.2.size)⟩)
  (OwnFrom.and (fun s A B row hs hg hr=>hs.ct (CTu.row hg (fun r e=>(hr r e).2))) (ownFrom_below (Nat.le_refl _) (by omega)))
  ⟨⟨⟨C0.out,C1.out,C2.out⟩,fun x hx=>by cases hx⟩,hb4⟩
  (fun x a' W=>∃bx:Nat,w.heap.size+1+1+1≤bx∧W.heap[bx]? =some (.cells #[.int .i64 x.kind,.int .u8 x.proto,.int .u32 x.net,.int .i64 x.bits,.int .u32 x.tt,.int .u16 x.port,.int .u32 x.host,.int .u16 x.hp] 125 (0,0))∧a'= { tmps:=#[.func (.func 266) #[] #[.pointer (some ⟨B,0,none⟩)],.func (.func cf) #[] lb,undef,.pointer (some ⟨w.heap.size,0,none⟩),.pointer (some ⟨w.heap.size+1,0,none⟩),.pointer (some ⟨w.heap.size+1+1,0,none⟩),.pointer (some ⟨bx,0,none⟩),undef,.func (.func 266) #[] #[.pointer (some ⟨B,0,none⟩)],.agg #[.int .i64 x.kind,.int .u8 x.proto,.int .u32 x.net,.int .i64 x.bits,.int .u32 x.tt,.int .u16 x.port,.int .u32 x.host,.int .u16 x.hp],undef,undef,undef,undef,undef],defers:=[] })
  (fun x a' W l o o' hl ho hc h=>by obtain⟨bx,h1,h2,h3⟩:=h;exact⟨bx,h1,(CTu.put ho hc).2 _ _ h2 rfl,h3⟩) ?assign ?body ?done ?stop
 case assign=>
  rintro l pre x W K hsz _ hX hK;dsimp only[encU,ruc]
  gi_wp2
  refine hK _ _ ?_ ⟨W.heap.size,by omega,heap_alloc_new _ _,rfl⟩;exact(Below.refl _ W).alloc (Nat.le_refl _) _
 case body=>
  rintro l pre x a' W ⟨⟨⟨h0,h1,h2⟩,hno⟩,hbW⟩ hX ⟨bx,hbx,hbo,rfl⟩;have hxl:x∈ls:=by obtain⟨rest,e⟩:=hX;rw[←e];simp
  have hc:=(callsIn_wide (n:=2)).2 (HCL.out x hxl W hbW);have HC:=zAd (hc.inRound l);clear hc;have Kb:=zAa hbo;have K0:=zAa h0;gi_wp2
  refine⟨trivial,?_⟩;rw[HEG.out];simp only[Oper.uponIn];clear Kb K0;refine⟨fun _=>by omega,HC.out.mono ?_⟩;rintro e W1 ⟨rfl,l1⟩;have hbW1:=hbW.trans (l1.mono hbW.size);have g0:=zAb l1 h0;have g1:=zAb l1 h1;have g2:=zAb l1 h2;have gb:=zAb l1 hbo;have Kb:=zAa gb;have hk1:KeepsFrom w4.heap.size W W1:=⟨l1.size,fun i o hi ho hc=>zAb l1 ho⟩;cases hq:q x with
  |false=>
   have HQ:=zAd hq;clear hq;gi_wp2
   exact⟨hk1,l1.mono hbW.size,⟨⟨g0,g1,g2⟩,fun y hy=>(List.mem_append.1 hy).elim (hno y) (fun h=>by rw[show y=x from by simpa using h];exact HQ.out)⟩,hbW1⟩
  | true=>
   have HQ:=zAd hq;clear hq;have K1:=zAa g1;have K2:=zAa g2;have F1:=zAc g1;have F2:=zAc g2;simp only[ruc]at K1;gi_wp2
   obtain⟨V,hV2⟩:∃V,V=zAi W1 (w.heap.size+1) 0 (ruc x):=⟨_,rfl⟩;have hfin:postX w4.heap.size (Below w.heap.size) (fun pre W=>PF w.heap.size (.func (.func cf) #[] lb) q w pre W∧Below w.heap.size w W) (fun pre W=>PG w.heap.size q pre W∧Below w.heap.size w W) (pre++[x]) W Exit.ret { tmps:=#[],defers:=[] } (V.setCell ⟨w.heap.size+1+1,0,none⟩ (.bool true)):= ?_
   ·rw[hV2]at hfin
    exact hfin
   have v1:V.heap[w.heap.size+1]? =some (.cells (ruc x).toArray 125 (0,0)):=by rw[hV2];exact zAe (ruc x) g1 rfl
   have hbV:But (fun g=>g=w.heap.size+1∨g=w.heap.size+1+1) W1 V:=by rw[hV2];exact zAf (E:=fun g=>g=w.heap.size+1∨g=w.heap.size+1+1) (n:=w.heap.size+1) (.inl rfl) (ruc x) 0 W1 W1 (But.refl _ _)
   have hbS:=hbV.setCell (p:=⟨w.heap.size+1+1,0,none⟩) (.inr rfl) (.bool true);have hsz1:w.heap.size≤W1.heap.size:=hbW1.size;have hbl:=hbS.below hsz1 (fun k hk e=>by rcases e with rfl|rfl<;>omega);refine⟨⟨Nat.le_trans l1.size hbS.size,fun i o hi ho hc=> ?_⟩,⟨pre,x,rfl,HQ.out,hno,?_,?_⟩,hbW1.trans hbl⟩
   ·have:=zAb l1 ho
    exact(hbS.block i (eS this) (fun e=>by rcases e with rfl|rfl<;>omega)).trans this
   ·exact (Below.heap_setCell V ⟨w.heap.size+1+1,0,none⟩ _ (w.heap.size+1) (by simp)).trans v1
   ·have v2:V.heap[w.heap.size+1+1]? =some (.cells #[.bool false] 4 (0,0)):=by
     rw[hV2];exact((zA1 (rb:=w.heap.size+1) (ruc x) W1).block (w.heap.size+1+1) (eS g2) (by omega)).trans g2
    exact zAh v2 0 _
 case done=>
  rintro D xs W hD rfl ⟨⟨⟨h0,h1,h2⟩,hno⟩,hbW⟩ hK;have la:Later W (W.alloc (.cells #[.int .i64 0,.int .u8 0,.int .u32 0,.int .i64 0,.int .u32 0,.int .u16 0,.int .u32 0,.int .u16 0] 125)):=bA _ _;have g1:=zAb la h1;have g2:=zAb la h2;have gD:=zAb la hK;have K1:=zAa g1;have K2:=zAa g2;have F1:=zAc g1;have F2:=zAc g2;simp only[ruc,zRu]at K1;gi_wp2
  obtain⟨V,hV2⟩:∃V,V=zAi (W.alloc (.cells #[.int .i64 0,.int .u8 0,.int .u32 0,.int .i64 0,.int .u32 0,.int .u16 0,.int .u32 0,.int .u16 0] 125)) (w.heap.size+1) 0 (ruc zRu):=⟨_,rfl⟩;have v1:V.heap[w.heap.size+1]? =some (.cells (ruc zRu).toArray 125 (0,0)):=by rw[hV2];exact zAe (ruc zRu) g1 rfl
  have hbV:But (fun g=>g=w.heap.size+1∨g=w.heap.size+1+1) (W.alloc (.cells #[.int .i64 0,.int .u8 0,.int .u32 0,.int .i64 0,.int .u32 0,.int .u16 0,.int .u32 0,.int .u16 0] 125)) V:=by rw[hV2];exact zAf (E:=fun g=>g=w.heap.size+1∨g=w.heap.size+1+1) (n:=w.heap.size+1) (.inl rfl) (ruc zRu) 0 _ _ (But.refl _ _)
  have v2:V.heap[w.heap.size+1+1]? =some (.cells #[.bool false] 4 (0,0)):=by
   rw[hV2];exact((zA1 (rb:=w.heap.size+1) (ruc zRu) _).block (w.heap.size+1+1) (eS g2) (by omega)).trans g2
  have hbS:=hbV.setCell (p:=⟨w.heap.size+1+1,0,none⟩) (.inr rfl) (.bool false);have hbA:Below w.heap.size w (W.alloc (.cells #[.int .i64 0,.int .u8 0,.int .u32 0,.int .i64 0,.int .u32 0,.int .u16 0,.int .u32 0,.int .u16 0] 125)):=hbW.trans (la.mono hbW.size);have hbl:=hbA.trans (hbS.below hbA.size (fun k hk e=>by rcases e with rfl|rfl<;>omega));have s1:(V.setCell ⟨w.heap.size+1+1,0,none⟩ (.bool false)).heap[w.heap.size+1]? =some (.cells (ruc zRu).toArray 125 (0,0)):=(Below.heap_setCell V ⟨w.heap.size+1+1,0,none⟩ _ (w.heap.size+1) (by simp)).trans v1;have s2:(V.setCell ⟨w.heap.size+1+1,0,none⟩ (.bool false)).heap[w.heap.size+1+1]? =some (.cells #[.bool false] 4 (0,0)):=zAh v2 0 _;have sD:(V.setCell ⟨w.heap.size+1+1,0,none⟩ (.bool false)).heap[D]? =some (.deferred (some [])):=(hbS.block D (eS gD) (fun e=>by rcases e with rfl|rfl<;>omega)).trans gD;obtain⟨n1,n2⟩:=fnd_no hno;have hfin:=zHn w.heap.size D zRu false (V.setCell ⟨w.heap.size+1+1,0,none⟩ (.bool false)) w (by omega) hbl s1 s2 sD (Nat.le_refl _);rw[n1,n2];rw[hV2]at hfin;exact hfin _ _ _ _ _ _ _ _ _ _ _ _ _
 case stop=>
  rintro D pre W hD ⟨rest,hrest⟩ ⟨⟨pre0,x,rfl,hpx,hp0,h1,h2⟩,hbW⟩ hK;obtain⟨n1,n2⟩:=fnd_yes (rest:=rest) hp0 hpx;rw[hrest]at n1 n2;gi_wp2
  rw[n1,n2];exact zHn w.heap.size D x true W w (by omega) hbW h1 h2 hK (Nat.le_refl _) _ _ _ _ _ _ _ _ _ _ _ _ _
theorem and_upm(n k:Int)(hn:0≤n∧n≤4294967295)(h0:0≤k)(h1:k≤32):bits .and .u32 n (upm k)=upp n k:=by
 have hb:=upm_bd k h0 h1;rw[u32_and n (upm k) hn.1 (by omega) hb.1 (by omega)];have h2:(2:Nat)^(32-k.toNat)≤2^32:=Nat.pow_le_pow_right (by omega) (by omega)
 have e:(upm k).toNat=4294967296-2^(32-k.toNat):=by
  unfold upm;have e:((2:Int)^(32-k.toNat))=((2^(32-k.toNat):Nat):Int):=by simp
  rw[e];omega
 rw[e,zQn n.toNat (32-k.toNat) (by omega) (by omega)];unfold upp;simp
 rw[Int.max_eq_left hn.1]
theorem zQo(n k:Int)(hn:0≤n∧n≤4294967295)(h0:0≤k)(h1:k≤32):bits .andNot .u32 n (upm k)=n % 2^(32-k.toNat):=by
 have hb:=upm_bd k h0 h1;rw[u32_andNot n (upm k) hn.1 (by omega) hb.1 (by omega)];have h2:(2:Nat)^(32-k.toNat)≤2^32:=Nat.pow_le_pow_right (by omega) (by omega);have h3:0<(2:Nat)^(32-k.toNat):=Nat.pow_pos (by omega)
 have e:4294967295-(upm k).toNat=2^(32-k.toNat)-1:=by
  unfold upm;have e:((2:Int)^(32-k.toNat))=((2^(32-k.toNat):Nat):Int):=by simp
  rw[e];omega
 rw[e,Nat.and_two_pow_sub_one_eq_mod];simp
 rw[Int.max_eq_left hn.1]
theorem upp_iff(n k:Int):(n % 2^(32-k.toNat)=0)↔upp n k=n:=by
 unfold upp;have:=Int.emod_add_mul_ediv n (2^(32-k.toNat));rw[Int.mul_comm]at this;generalize n/2^(32-k.toNat)*2^(32-k.toNat)=x at*;generalize n % 2^(32-k.toNat)=y at*;omega
theorem shl_upm(k:Int)(h0:0≤k)(h1:k≤32):(4294967295:Int)*2^(32-k).toNat % 4294967296=upm k:=by
 obtain⟨j,rfl⟩:=Int.eq_ofNat_of_zero_le h0;have hj:j≤32:=by omega
 have e:((32:Int)-(j:Int)).toNat=32-j:=by omega
 rw[e];unfold upm;simp only[Int.toNat_natCast];have h2:(2:Nat)^(32-j)≤2^32:=Nat.pow_le_pow_right (by omega) (by omega);have h3:0<(2:Nat)^(32-j):=Nat.pow_pos (by omega);have e:((2:Int)^(32-j))=((2^(32-j):Nat):Int):=by simp
 rw[e];omega
theorem zKg(k:Int)(w:World)(h0:0≤k)(h1:k≤32):Calls Tryz.prog 265 #[.int .i64 k] w fun e w'=>e= .returned (.int .u32 (upm k))∧w'=w:=by
 have h2:0≤32-k:=by omega
 have h3:32-k≤32:=by omega
 have HU:=zAd (shl_upm k h0 h1);go_enter Tryz.func265,Tryz.ntmps265;go_wp2_with fail;go_ret
 exact⟨zL1 HU.out,rfl⟩
def rtM (x:Ru):Bool:=decide (0≤x.bits) && (decide (x.bits≤32) && (decide (upp x.net x.bits=x.net) && (decide (x.tt≠0) && (decide (x.proto=0) && (decide (x.port=0) && (decide (x.host=0) && decide (x.hp=0)))))))
def rtD (x:Ru):Bool:=(decide (x.proto=6)||decide (x.proto=17)) && (decide (x.tt≠0) && (decide (x.port≠0) && (decide (x.host≠0) && (decide (x.hp≠0) && (decide (x.net=0) && decide (x.bits=0))))))
def rtB (x:Ru):Bool:=if x.kind=1 then rtM x else if x.kind=2 then rtD x else false
theorem zIv(x:Ru)(w:World)(hx:wfR x)(hk:x.kind=1):
  Calls Tryz.prog 194 #[.agg (ruc x).toArray] w fun e w'=>e= .returned (.bool (rtM x))∧Later w w':=by
 obtain⟨kind,proto,net,bts,tq,port,host,hp⟩:=x;obtain⟨_,h1,h2,h3,h4,h5,h6,h7⟩:=hx;simp only at hk h1 h2 h3 h4 h5 h6 h7;unfold ruc;simp only;subst hk;have lb0:Later w (w.alloc (.cells #[.int .i64 1,.int .u8 proto,.int .u32 net,.int .i64 bts,.int .u32 tq,.int .u16 port,.int .u32 host,.int .u16 hp] 125)):=bA _ _;have c0:=zAa (heap_alloc_new w (.cells #[.int .i64 1,.int .u8 proto,.int .u32 net,.int .i64 bts,.int .u32 tq,.int .u16 port,.int .u32 host,.int .u16 hp] 125));go_enter Tryz.func194,Tryz.ntmps194;go_wp2_with fail;generalize w.alloc (.cells #[.int .i64 1,.int .u8 proto,.int .u32 net,.int .i64 bts,.int .u32 tq,.int .u16 port,.int .u32 host,.int .u16 hp] 125)=w0 at*;by_cases b0:bts<0
 ·go_quiet (fail)
  go_wp2_with fail;go_ret
  exact⟨by simp[rtM];omega,lb0.trans (zAk (Later.refl _) _)⟩
 ·by_cases b1:32<bts
  ·go_quiet (fail)
   go_wp2_with fail;go_ret
   exact⟨by simp[rtM];omega,lb0.trans (zAk (Later.refl _) _)⟩
  ·have hU:∀W,Calls Tryz.prog 265 #[.int .i64 bts] W fun e w'=>e= .returned (.int .u32 (upm bts))∧w'=W:=fun W=>zKg bts W (by omega) (by omega)
   have hz:=zQo net bts h2 (by omega) (by omega);have hi:=upp_iff net bts;by_cases hz0:bits .andNot .u32 net (upm bts)=0
   ·have hq:upp net bts=net:=by rw[←hi,←hz];exact hz0
    have HQ:=zAd hq;have B0:=zAd b0;have B1:=zAd b1;clear hi hz hq;by_cases ht:tq=0
    ·go_quiet (first|(go_at_call 265;exact Calls.quiet_of_same (hU _)))
     go_wp2_with fail;go_ret
     exact⟨by simp[rtM,ht],lb0.trans (zAk (Later.refl _) _)⟩
    ·go_quiet (first|(go_at_call 265;exact Calls.quiet_of_same (hU _)))
     go_wp2_with fail
     all_goals go_ret
     all_goals refine⟨?_,lb0.trans (zAk (Later.refl _) _)⟩
     all_goals have hq:=HQ.out
     all_goals simp_all [rtM]
     all_goals omega
   ·have hq:¬upp net bts=net:=by rw[←hi,←hz];exact hz0
    have HQ:=zAd hq;have B0:=zAd b0;have B1:=zAd b1;clear hi hz hq;go_quiet (first|(go_at_call 265;exact Calls.quiet_of_same (hU _)))
    go_wp2_with fail;go_ret
    exact⟨by simp[rtM,HQ.out],lb0.trans (zAk (Later.refl _) _)⟩
theorem zIw(x:Ru)(w:World):
  Calls Tryz.prog 195 #[.agg (ruc x).toArray] w fun e w'=>e= .returned (.bool (rtD x))∧Later w w':=by
 obtain⟨kind,proto,net,bts,tq,port,host,hp⟩:=x;unfold ruc;simp only;have lb0:Later w (w.alloc (.cells #[.int .i64 kind,.int .u8 proto,.int .u32 net,.int .i64 bts,.int .u32 tq,.int .u16 port,.int .u32 host,.int .u16 hp] 125)):=bA _ _;have c0:=zAa (heap_alloc_new w (.cells #[.int .i64 kind,.int .u8 proto,.int .u32 net,.int .i64 bts,.int .u32 tq,.int .u16 port,.int .u32 host,.int .u16 hp] 125));go_enter Tryz.func195,Tryz.ntmps195;by_cases p1:proto=6
 ·by_cases h4:tq=0
  ·go_wp2_with fail
   go_ret
   exact⟨by simp[rtD, *],bA _ _⟩
  ·by_cases h5:port=0
   ·go_wp2_with fail
    go_ret
    exact⟨by simp[rtD, *],bA _ _⟩
   ·by_cases h6:host=0
    ·go_wp2_with fail
     go_ret
     exact⟨by simp[rtD, *],bA _ _⟩
    ·by_cases h7:hp=0
     ·go_wp2_with fail
      go_ret
      exact⟨by simp[rtD, *],bA _ _⟩
     ·by_cases h8:net=0
      ·by_cases h9:bts=0
       ·go_wp2_with fail
        go_ret
        exact⟨by simp[rtD, *],bA _ _⟩
       ·go_wp2_with fail
        go_ret
        exact⟨by simp[rtD, *],bA _ _⟩
      ·go_wp2_with fail
       go_ret
       exact⟨by simp[rtD, *],bA _ _⟩
 ·by_cases p2:proto=17
  ·by_cases h4:tq=0
   ·go_wp2_with fail
    go_ret
    exact⟨by simp[rtD, *],bA _ _⟩
   ·by_cases h5:port=0
    ·go_wp2_with fail
     go_ret
     exact⟨by simp[rtD, *],bA _ _⟩
    ·by_cases h6:host=0
     ·go_wp2_with fail
      go_ret
      exact⟨by simp[rtD, *],bA _ _⟩
     ·by_cases h7:hp=0
      ·go_wp2_with fail
       go_ret
       exact⟨by simp[rtD, *],bA _ _⟩
      ·by_cases h8:net=0
       ·by_cases h9:bts=0
        ·go_wp2_with fail
         go_ret
         exact⟨by simp[rtD, *],bA _ _⟩
        ·go_wp2_with fail
         go_ret
         exact⟨by simp[rtD, *],bA _ _⟩
       ·go_wp2_with fail
        go_ret
        exact⟨by simp[rtD, *],bA _ _⟩
  ·go_wp2_with fail
   go_ret
   exact⟨by simp[rtD, *],bA _ _⟩
theorem zQp(x:Ru)(w:World)(hx:wfR x):
  Calls Tryz.prog 146 #[.agg (ruc x).toArray] w fun e w'=>e= .returned (.bool (rtB x))∧Later w w':=by
 obtain⟨kind,proto,net,bts,tq,port,host,hp⟩:=x;have hM:∀W,kind=1→Calls Tryz.prog 194 #[.agg #[.int .i64 kind,.int .u8 proto,.int .u32 net,.int .i64 bts,.int .u32 tq,.int .u16 port,.int .u32 host,.int .u16 hp]] W fun e w'=>e= .returned (.bool (rtM ⟨kind,proto,net,bts,tq,port,host,hp⟩))∧Later W w':=fun W h=>zIv ⟨kind,proto,net,bts,tq,port,host,hp⟩ W hx h;have hD:∀W,Calls Tryz.prog 195 #[.agg #[.int .i64 kind,.int .u8 proto,.int .u32 net,.int .i64 bts,.int .u32 tq,.int .u16 port,.int .u32 host,.int .u16 hp]] W fun e w'=>e= .returned (.bool (rtD ⟨kind,proto,net,bts,tq,port,host,hp⟩))∧Later W w':=fun W=>zIw ⟨kind,proto,net,bts,tq,port,host,hp⟩ W;have HM:=zAd hM;have HD:=zAd hD;clear hM hD;unfold ruc;simp only;have hr1:kind=1→rtB ⟨kind,proto,net,bts,tq,port,host,hp⟩=rtM ⟨kind,proto,net,bts,tq,port,host,hp⟩:=fun h=>by simp[rtB,h]
 have hr2:kind=2→rtB ⟨kind,proto,net,bts,tq,port,host,hp⟩=rtD ⟨kind,proto,net,bts,tq,port,host,hp⟩:=fun h=>by simp[rtB,h]
 have hr3:kind≠1→kind≠2→rtB ⟨kind,proto,net,bts,tq,port,host,hp⟩=false:=fun h h2=>by simp[rtB,h,h2]
 generalize rtB ⟨kind,proto,net,bts,tq,port,host,hp⟩=tb at*;generalize rtM ⟨kind,proto,net,bts,tq,port,host,hp⟩=tm at*;generalize rtD ⟨kind,proto,net,bts,tq,port,host,hp⟩=td at*;have HR1:=zAd hr1;have HR2:=zAd hr2;have HR3:=zAd hr3;clear hr1 hr2 hr3 hx;have lb0:Later w (w.alloc (.cells #[.int .i64 kind,.int .u8 proto,.int .u32 net,.int .i64 bts,.int .u32 tq,.int .u16 port,.int .u32 host,.int .u16 hp] 125)):=bA _ _;have c0:=zAa (heap_alloc_new w (.cells #[.int .i64 kind,.int .u8 proto,.int .u32 net,.int .i64 bts,.int .u32 tq,.int .u16 port,.int .u32 host,.int .u16 hp] 125));go_enter Tryz.func146,Tryz.ntmps146;by_cases k1:kind=1
 ·subst k1
  go_wp2_with fail;generalize w.alloc _=w0 at*;refine(HM.out w0 trivial).mono ?_;rintro e w1 ⟨rfl,l1⟩;go_wp2_with fail;go_ret
  exact⟨by rw[HR1.out trivial];rfl,lb0.trans l1⟩
 ·by_cases k2:kind=2
  ·subst k2
   go_wp2_with fail;generalize w.alloc _=w0 at*;refine(HD.out w0).mono ?_;rintro e w1 ⟨rfl,l1⟩;go_wp2_with fail;go_ret
   exact⟨by rw[HR2.out trivial];rfl,lb0.trans l1⟩
  ·go_wp2_with fail
   go_ret
   exact⟨by rw[HR3.out k1 k2];rfl,lb0⟩
def okL (l:List Ru):Prop:=l.length≤32∧∀x∈l,wfR x∧rtB x=true
theorem rtB_bits {x:Ru} (h:rtB x=true)(hk:x.kind=1):0≤x.bits∧x.bits≤32:=by
 unfold rtB at h;rw[if_pos hk]at h;unfold rtM at h
 simp at h
 omega
def mqB (src:Int) (x:Ru):Bool:=decide (x.kind=1) && decide (upp src x.bits=x.net)
def dnB (proto dst port:Int) (x:Ru):Bool:=decide (x.kind=2) && (decide (x.proto=proto) && (decide (x.tt=dst) && decide (x.port=port)))
theorem zSq(x:Ru)(sb:Nat)(src:Int)(w:World)(hb:x.kind=1→0≤x.bits∧x.bits≤32)(hs:0≤src∧src≤4294967295)(hc:w.cell? ⟨sb,0,none⟩=some (.int .u32 src)):
  Calls Tryz.prog 311 #[.agg (ruc x).toArray,.pointer (some ⟨sb,0,none⟩)] w fun e w'=>e= .returned (.bool (mqB src x))∧Later w w':=by
 obtain⟨kind,proto,net,bts,tq,port,host,hp⟩:=x;unfold ruc mqB;simp only at*;have lb0:Later w (w.alloc (.cells #[.int .i64 kind,.int .u8 proto,.int .u32 net,.int .i64 bts,.int .u32 tq,.int .u16 port,.int .u32 host,.int .u16 hp] 125)):=bA _ _;have c0:=zAa (heap_alloc_new w (.cells #[.int .i64 kind,.int .u8 proto,.int .u32 net,.int .i64 bts,.int .u32 tq,.int .u16 port,.int .u32 host,.int .u16 hp] 125));have cs:=lb0.cell hc;clear hc;go_enter Tryz.func311,Tryz.ntmps311;go_wp2_with fail;generalize w.alloc (.cells #[.int .i64 kind,.int .u8 proto,.int .u32 net,.int .i64 bts,.int .u32 tq,.int .u16 port,.int .u32 host,.int .u16 hp] 125)=w0 at*;by_cases k1:kind=1
 ·obtain ⟨h0,h1⟩:=hb k1
  have hU:∀W,Calls Tryz.prog 265 #[.int .i64 bts] W fun e w'=>e= .returned (.int .u32 (upm bts))∧w'=W:=fun W=>zKg bts W h0 h1;have hz:=and_upm src bts hs h0 h1;have HZ:=zAd hz;clear hz;go_quiet (first|(go_at_call 265;exact Calls.quiet_of_same (hU _)))
  go_wp2_with fail;go_ret
  refine⟨?_,lb0.trans (zAk (Later.refl _) _)⟩;show Ending.returned (Value.bool _)=_
  rw[HZ.out];simp[k1]
  rfl
 ·go_quiet (fail)
  go_wp2_with fail;go_ret
  exact⟨by simp[k1],lb0.trans (zAk (Later.refl _) _)⟩
theorem zSr(x:Ru)(b1 b2 b3:Nat)(pr dst pt:Int)(w:World)(hc1:w.cell? ⟨b1,0,none⟩=some (.int .u8 pr))(hc2:w.cell? ⟨b2,0,none⟩=some (.int .u32 dst))(hc3:w.cell? ⟨b3,0,none⟩=some (.int .u16 pt)):
  Calls Tryz.prog 320 #[.agg (ruc x).toArray,.pointer (some ⟨b1,0,none⟩),.pointer (some ⟨b2,0,none⟩),.pointer (some ⟨b3,0,none⟩)] w fun e w'=>e= .returned (.bool (dnB pr dst pt x))∧Later w w':=by
 obtain⟨kind,proto,net,bts,tq,port,host,hp⟩:=x;unfold ruc dnB;simp only at*;have lb0:Later w (w.alloc (.cells #[.int .i64 kind,.int .u8 proto,.int .u32 net,.int .i64 bts,.int .u32 tq,.int .u16 port,.int .u32 host,.int .u16 hp] 125)):=bA _ _;have c0:=zAa (heap_alloc_new w (.cells #[.int .i64 kind,.int .u8 proto,.int .u32 net,.int .i64 bts,.int .u32 tq,.int .u16 port,.int .u32 host,.int .u16 hp] 125));have d1:=lb0.cell hc1;have d2:=lb0.cell hc2;have d3:=lb0.cell hc3;clear hc1 hc2 hc3;go_enter Tryz.func320,Tryz.ntmps320;go_upto_region 1 with fail;generalize w.alloc (.cells #[.int .i64 kind,.int .u8 proto,.int .u32 net,.int .i64 bts,.int .u32 tq,.int .u16 port,.int .u32 host,.int .u16 hp] 125)=w0 at*;by_cases k1:kind=2
 ·by_cases k2:proto=pr
  ·subst k2
   by_cases k3:tq=dst
   ·subst k3
    by_cases k4:port=pt
    ·subst k4
     go_wp2_with fail;go_ret
     exact⟨by simp[*],lb0⟩
    ·go_wp2_with fail
     go_ret
     exact⟨by simp[*],lb0⟩
   ·go_wp2_with fail
    go_ret
    exact⟨by simp[*],lb0⟩
  ·go_wp2_with fail
   go_ret
   exact⟨by simp[*],lb0⟩
 ·go_wp2_with fail
  go_ret
  exact⟨by simp[*],lb0⟩
theorem has1_any(y x:Ru)(xb:Nat)(w:World)(hc:w.heap[xb]? =some (.cells (ruc x).toArray 125 (0,0))):
  Calls Tryz.prog 198 #[.agg (ruc y).toArray,.pointer (some ⟨xb,0,none⟩)] w fun e w'=>e= .returned (.bool (decide (y=x)))∧Later w w':=by
 obtain⟨kind,proto,net,bts,tq,port,host,hp⟩:=y;obtain⟨k2,p2,n2,b2,t2,q2,h2,g2⟩:=x;unfold ruc at*;simp only at*;have lb0:Later w (w.alloc (.cells #[.int .i64 kind,.int .u8 proto,.int .u32 net,.int .i64 bts,.int .u32 tq,.int .u16 port,.int .u32 host,.int .u16 hp] 125)):=bA _ _;have c0:=zAa (heap_alloc_new w (.cells #[.int .i64 kind,.int .u8 proto,.int .u32 net,.int .i64 bts,.int .u32 tq,.int .u16 port,.int .u32 host,.int .u16 hp] 125));have cx:=zAa (zAb lb0 hc);clear hc;go_enter Tryz.func198,Tryz.ntmps198;go_upto_region 1 with fail;generalize w.alloc (.cells #[.int .i64 kind,.int .u8 proto,.int .u32 net,.int .i64 bts,.int .u32 tq,.int .u16 port,.int .u32 host,.int .u16 hp] 125)=w0 at*;go_wp2_with fail
 all_goals go_ret
 all_goals exact⟨by simp_all,lb0⟩
theorem masq_any(base:Nat)(p:Option Addr)(ls:List Ru)(src:Int)(w:World)(hT:PL base w p ls)(hok:okL ls)(hs:0≤src∧src≤4294967295):
  Calls Tryz.prog 281 #[.pointer p,.int .u32 src] w fun e w'=>e= .returned (.tuple #[.agg (ruc (fnd (mqB src) ls)).toArray,.bool (fdb (mqB src) ls)])∧Later w w':=by
 have lb0:Later w ((w.alloc (.cells #[.int .u32 src] 29)).alloc (.cells #[.int .i64 0,.int .u8 0,.int .u32 0,.int .i64 0,.int .u32 0,.int .u16 0,.int .u32 0,.int .u16 0] 125)):=(bA _ _).alloc (by simp) _;have c0:((w.alloc (.cells #[.int .u32 src] 29)).alloc (.cells #[.int .i64 0,.int .u8 0,.int .u32 0,.int .i64 0,.int .u32 0,.int .u16 0,.int .u32 0,.int .u16 0] 125)).heap[w.heap.size]? =some (.cells #[.int .u32 src] 29):=(Below.heap_alloc _ _ _ (by simp)).trans (heap_alloc_new w _)
 have c1:((w.alloc (.cells #[.int .u32 src] 29)).alloc (.cells #[.int .i64 0,.int .u8 0,.int .u32 0,.int .i64 0,.int .u32 0,.int .u16 0,.int .u32 0,.int .u16 0] 125)).heap[w.heap.size+1]? =some (.cells #[.int .i64 0,.int .u8 0,.int .u32 0,.int .i64 0,.int .u32 0,.int .u16 0,.int .u32 0,.int .u16 0] 125):=by
  have:=heap_alloc_new (w.alloc (.cells #[.int .u32 src] 29)) (.cells #[.int .i64 0,.int .u8 0,.int .u32 0,.int .i64 0,.int .u32 0,.int .u16 0,.int .u32 0,.int .u16 0] 125);rwa [World.size_alloc]at this
 go_enter Tryz.func281,Tryz.ntmps281;go_wp2_with fail;generalize (w.alloc (.cells #[.int .u32 src] 29)).alloc (.cells #[.int .i64 0,.int .u8 0,.int .u32 0,.int .i64 0,.int .u32 0,.int .u16 0,.int .u32 0,.int .u16 0] 125)=w0 at*;refine((callsIn_wide (n:=5)).1 (zL6 5 p w0)).mono ?_;rintro e w1 ⟨rfl,hw1⟩;have l1:Later w0 w1:=by rw[hw1];exact bA _ _
 have b1:w1.heap[w0.heap.size]? =some (.cells #[.pointer p] 85):=by rw[hw1];exact heap_alloc_new w0 _
 generalize w0.heap.size=B at*;clear hw1;have hT1:=hT.later (lb0.trans l1);have d0:=zAb l1 c0;have d1:=zAb l1 c1;go_wp2_with fail;refine(zF9 base 311 #[.pointer (some ⟨w.heap.size,0,none⟩)] p B ls (mqB src) w1 hT1 (eS b1) ((zAa b1 0).trans rfl) (enters_of Tryz.func311 (by kernel_rfl) rfl) (fun x hx W hW=>zSq x w.heap.size src W (fun hk=>rtB_bits (hok.2 x hx).2 hk) hs ((zAa (zAb hW d0) 0).trans rfl))).mono ?_;rintro e w2 ⟨rfl,l2⟩;have e1:=zAb l2 d1;have K1:=zAa e1;have F1:=zAc e1;generalize hr:fnd (mqB src) ls=r at*;generalize ht:fdb (mqB src) ls=t at*;have HR:=zAd hr;have HT:=zAd ht;clear hr ht;unfold ruc;go_wp2_with fail;change bodyPost _ _ _ _ _ (zAi w2 (w.heap.size+1) 0 (ruc r));have v1:=zAe (ruc r) e1 rfl;have hbl:Below w.heap.size w2 (zAi w2 (w.heap.size+1) 0 (ruc r)):=(zA1 (rb:=w.heap.size+1) (ruc r) w2).below ((lb0.trans l1).trans l2).size (fun k hk e=>by omega);generalize zAi w2 (w.heap.size+1) 0 (ruc r)=V at*;have k1:=zAa v1;simp only[ruc]at k1;refine bodyPost_ret (v:= .tuple #[.agg (ruc r).toArray,.bool t]) (by simp[results,Tryz.results281,go_sem,k1,ruc]) rfl ⟨by rw[HR.out,HT.out],Below.trans ((lb0.trans l1).trans l2) hbl⟩
theorem dnat_any(base:Nat)(p:Option Addr)(ls:List Ru)(pr dst pt:Int)(w:World)(hT:PL base w p ls):
  Calls Tryz.prog 288 #[.pointer p,.int .u8 pr,.int .u32 dst,.int .u16 pt] w fun e w'=>e= .returned (.tuple #[.agg (ruc (fnd (dnB pr dst pt) ls)).toArray,.bool (fdb (dnB pr dst pt) ls)])∧Later w w':=by
 have lb0:Later w ((((w.alloc (.cells #[.int .u8 pr] 5)).alloc (.cells #[.int .u32 dst] 29)).alloc (.cells #[.int .u16 pt] 22)).alloc (.cells #[.int .i64 0,.int .u8 0,.int .u32 0,.int .i64 0,.int .u32 0,.int .u16 0,.int .u32 0,.int .u16 0] 125)):=(((bA _ _).alloc (by simp) _).alloc (by simp<;>omega) _).alloc (by simp<;>omega) _;have c0:((((w.alloc (.cells #[.int .u8 pr] 5)).alloc (.cells #[.int .u32 dst] 29)).alloc (.cells #[.int .u16 pt] 22)).alloc (.cells #[.int .i64 0,.int .u8 0,.int .u32 0,.int .i64 0,.int .u32 0,.int .u16 0,.int .u32 0,.int .u16 0] 125)).heap[w.heap.size]? =some (.cells #[.int .u8 pr] 5):=(Below.heap_alloc _ _ _ (by simp<;>omega)).trans ((Below.heap_alloc _ _ _ (by simp<;>omega)).trans ((Below.heap_alloc _ _ _ (by simp)).trans (heap_alloc_new w _)))
 have c1:((((w.alloc (.cells #[.int .u8 pr] 5)).alloc (.cells #[.int .u32 dst] 29)).alloc (.cells #[.int .u16 pt] 22)).alloc (.cells #[.int .i64 0,.int .u8 0,.int .u32 0,.int .i64 0,.int .u32 0,.int .u16 0,.int .u32 0,.int .u16 0] 125)).heap[w.heap.size+1]? =some (.cells #[.int .u32 dst] 29):=by
  have:=heap_alloc_new (w.alloc (.cells #[.int .u8 pr] 5)) (.cells #[.int .u32 dst] 29);rw[World.size_alloc]at this;exact(Below.heap_alloc _ _ _ (by simp)).trans ((Below.heap_alloc _ _ _ (by simp)).trans this)
 have c2:((((w.alloc (.cells #[.int .u8 pr] 5)).alloc (.cells #[.int .u32 dst] 29)).alloc (.cells #[.int .u16 pt] 22)).alloc (.cells #[.int .i64 0,.int .u8 0,.int .u32 0,.int .i64 0,.int .u32 0,.int .u16 0,.int .u32 0,.int .u16 0] 125)).heap[w.heap.size+1+1]? =some (.cells #[.int .u16 pt] 22):=by
  have:=heap_alloc_new ((w.alloc (.cells #[.int .u8 pr] 5)).alloc (.cells #[.int .u32 dst] 29)) (.cells #[.int .u16 pt] 22);simp only[World.size_alloc]at this;exact(Below.heap_alloc _ _ _ (by simp)).trans this
 have c3:((((w.alloc (.cells #[.int .u8 pr] 5)).alloc (.cells #[.int .u32 dst] 29)).alloc (.cells #[.int .u16 pt] 22)).alloc (.cells #[.int .i64 0,.int .u8 0,.int .u32 0,.int .i64 0,.int .u32 0,.int .u16 0,.int .u32 0,.int .u16 0] 125)).heap[w.heap.size+1+1+1]? =some (.cells #[.int .i64 0,.int .u8 0,.int .u32 0,.int .i64 0,.int .u32 0,.int .u16 0,.int .u32 0,.int .u16 0] 125):=by
  have:=heap_alloc_new (((w.alloc (.cells #[.int .u8 pr] 5)).alloc (.cells #[.int .u32 dst] 29)).alloc (.cells #[.int .u16 pt] 22)) (.cells #[.int .i64 0,.int .u8 0,.int .u32 0,.int .i64 0,.int .u32 0,.int .u16 0,.int .u32 0,.int .u16 0] 125);simpa only[World.size_alloc]using this
 go_enter Tryz.func288,Tryz.ntmps288;go_wp2_with fail;generalize (((w.alloc (.cells #[.int .u8 pr] 5)).alloc (.cells #[.int .u32 dst] 29)).alloc (.cells #[.int .u16 pt] 22)).alloc (.cells #[.int .i64 0,.int .u8 0,.int .u32 0,.int .i64 0,.int .u32 0,.int .u16 0,.int .u32 0,.int .u16 0] 125)=w0 at*;refine((callsIn_wide (n:=5)).1 (zL6 5 p w0)).mono ?_;rintro e w1 ⟨rfl,hw1⟩;have l1:Later w0 w1:=by rw[hw1];exact bA _ _
 have b1:w1.heap[w0.heap.size]? =some (.cells #[.pointer p] 85):=by rw[hw1];exact heap_alloc_new w0 _
 generalize w0.heap.size=B at*;clear hw1;have hT1:=hT.later (lb0.trans l1);have d0:=zAb l1 c0;have d1:=zAb l1 c1;have d2:=zAb l1 c2;have d3:=zAb l1 c3;go_wp2_with fail;refine(zF9 base 320 #[.pointer (some ⟨w.heap.size,0,none⟩),.pointer (some ⟨w.heap.size+1,0,none⟩),.pointer (some ⟨w.heap.size+1+1,0,none⟩)] p B ls (dnB pr dst pt) w1 hT1 (eS b1) ((zAa b1 0).trans rfl) (enters_of Tryz.func320 (by kernel_rfl) rfl) (fun x hx W hW=>zSr x w.heap.size (w.heap.size+1) (w.heap.size+1+1) pr dst pt W ((zAa (zAb hW d0) 0).trans rfl) ((zAa (zAb hW d1) 0).trans rfl) ((zAa (zAb hW d2) 0).trans rfl))).mono ?_;rintro e w2 ⟨rfl,l2⟩;have e1:=zAb l2 d3;have K1:=zAa e1;have F1:=zAc e1;generalize hr:fnd (dnB pr dst pt) ls=r at*;generalize ht:fdb (dnB pr dst pt) ls=t at*;have HR:=zAd hr;have HT:=zAd ht;clear hr ht;unfold ruc;go_wp2_with fail;change bodyPost _ _ _ _ _ (zAi w2 (w.heap.size+1+1+1) 0 (ruc r));have v1:=zAe (ruc r) e1 rfl;have hbl:Below w.heap.size w2 (zAi w2 (w.heap.size+1+1+1) 0 (ruc r)):=(zA1 (rb:=w.heap.size+1+1+1) (ruc r) w2).below ((lb0.trans l1).trans l2).size (fun k hk e=>by omega);generalize zAi w2 (w.heap.size+1+1+1) 0 (ruc r)=V at*;have k1:=zAa v1;simp only[ruc]at k1
 refine bodyPost_ret (v:= .tuple #[.agg (ruc r).toArray,.bool t]) (by simp[results,Tryz.results288,go_sem,k1,ruc]) rfl ⟨by rw[HR.out,HT.out],Below.trans ((lb0.trans l1).trans l2) hbl⟩
def hasB (x:Ru) (l:List Ru):Bool:=fdb (fun y=>decide (y=x)) l
theorem has_anyU(base:Nat)(p:Option Addr)(ls:List Ru)(x:Ru)(w:World)(hT:PL base w p ls):
  Calls Tryz.prog 147 #[.pointer p,.agg (ruc x).toArray] w fun e w'=>e= .returned (.bool (hasB x ls))∧Later w w':=by
 have lb0:Later w (w.alloc (.cells (ruc x).toArray 125)):=bA _ _;have c0:=heap_alloc_new w (.cells (ruc x).toArray 125);go_enter Tryz.func147,Tryz.ntmps147;unfold ruc at*;go_wp2_with fail;generalize w.alloc _=w0 at*;refine((callsIn_wide (n:=5)).1 (zL6 5 p w0)).mono ?_;rintro e w1 ⟨rfl,hw1⟩;have l1:Later w0 w1:=by rw[hw1];exact bA _ _
 have b1:w1.heap[w0.heap.size]? =some (.cells #[.pointer p] 85):=by rw[hw1];exact heap_alloc_new w0 _
 generalize w0.heap.size=B at*;clear hw1;have hT1:=hT.later (lb0.trans l1);have d0:=zAb l1 c0;go_wp2_with fail;refine(zF9 base 198 #[.pointer (some ⟨w.heap.size,0,none⟩)] p B ls (fun y=>decide (y=x)) w1 hT1 (eS b1) ((zAa b1 0).trans rfl) (enters_of Tryz.func198 (by kernel_rfl) rfl) (fun y hy W hW=>has1_any y x w.heap.size W (zAb hW d0))).mono ?_;rintro e w2 ⟨rfl,l2⟩;generalize fnd (fun y=>decide (y=x)) ls=r at*;generalize ht:fdb (fun y=>decide (y=x)) ls=t at*;have HT:=zAd ht;clear ht;unfold ruc;go_wp2_with fail;go_ret
 refine⟨?_,(lb0.trans (l1.trans l2)).trans (bA _ _)⟩;unfold hasB;rw[HT.out];rfl
theorem zSs:(Tryz.prog.info? 125).map (fun i=>(i.zero,i.size,i.bytes))=some (some (.agg #[.int .i64 0,.int .u8 0,.int .u32 0,.int .i64 0,.int .u32 0,.int .u16 0,.int .u32 0,.int .u16 0]),8,40):=by kernel_rfl
theorem zL7 {P:Program} {t:TypeId} {z:Value} {a b:Nat} (h:(P.info? t).map (fun i=>(i.zero,i.size,i.bytes))=some (some z,a,b)):∃i,P.info? t=some i∧i.zero=some z∧i.size=a∧i.bytes=b:=by
 cases hi:P.info? t with
 |none=>rw[hi]at h;cases h
 |some i=>rw[hi]at h;simp at h;exact⟨i,rfl,h.1,h.2.1,h.2.2⟩
def adE (l:List Ru) (x:Ru):Int:=if rtB x=false then 4 else if hasB x l=true then 10 else if 32≤l.length then 9 else 0
def adL (l:List Ru) (x:Ru):List Ru:=if adE l x=0 then l++[x]else l
theorem zSt {l:List Ru} {x:Ru} (h:adE l x≠0):adL l x=l:=by unfold adL;rw[if_neg h]
theorem zSu {l:List Ru} {x:Ru} (h:adE l x=0):adL l x=l++[x]:=by unfold adL;rw[if_pos h]
theorem zOz(W:World)(x:Ru):∀j u,(ruc x)[j]? =some u→(W.alloc (.cells (ruc x).toArray 125)).cell? ((⟨W.heap.size,0,none⟩:Addr).add j)=some u:=fun j u hj=>by
 rw[show (⟨W.heap.size,0,none⟩:Addr).add j=⟨W.heap.size,j,none⟩from by unfold Addr.add;split<;>simp_all,zAa (heap_alloc_new W _) j];simpa using hj
def RLq (t:TypeId) (base:Nat) (w w':World) (b:Nat) (v:Value) (l:List Ru):Prop:=∃v',RL t base w' b v' l∧But (fun g=>g=b∨v.ownBlock=some g) w w'∧(v'.ownBlock=v.ownBlock∨∀g,v'.ownBlock=some g→w.heap.size≤g)
theorem RLq.same {t:TypeId} {base:Nat} {w w':World} {b:Nat} {v:Value} {l:List Ru} (h:RL t base w b v l)(k:Later w w'):RLq t base w w' b v l:=⟨v,h.later k,But.of k,.inl rfl⟩
theorem new9_any(w:World):Calls Tryz.prog 92 #[] w fun e w'=>e= .returned (.pointer (some ⟨w.heap.size,0,none⟩))∧Later w w'∧RL 285 w.heap.size w' w.heap.size (.slice none 0 0) []:=by
 have la:Later w (w.alloc (.cells #[.slice none 0 0] 285)):=bA _ _;have hn:=heap_alloc_new w (.cells #[.slice none 0 0] 285);go_enter Tryz.func92,Tryz.ntmps92;go_wp2_with fail;go_ret
 exact⟨rfl,la,Nat.le_refl _,hn,rfl,.inl ⟨rfl,rfl⟩⟩
theorem add9_any(base b:Nat)(v:Value)(l:List Ru)(x:Ru)(w:World)(hT:RL 285 base w b v l)(hx:wfR x)(hl:l.length≤32)(hbs:base≤w.heap.size):
  Calls Tryz.prog 95 #[.pointer (some ⟨b,0,none⟩),.agg (ruc x).toArray] w fun e w'=>e= .returned (.int .i64 (adE l x))∧RLq 285 base w w' b v (adL l x):=by
 obtain⟨i0,hi0,hz0,hz1,hz2⟩:=zL7 zSs;have HR9:=zAd (fun W=>zQp x W hx);have lb0:Later w (w.alloc (.cells (ruc x).toArray 125)):=bA _ _;have rb:=heap_alloc_new w (.cells (ruc x).toArray 125);obtain⟨av,cv,rfl,_,_⟩:=(zSo hT.2.2).slice;have HNE:Hid (some b≠Value.ownBlock (.slice av l.length cv)):=fun e=>hT.ne hT.2.1 (by decide) e.symm;go_enter Tryz.func95,Tryz.ntmps95;unfold ruc at rb;have rk:=zAa rb;unfold ruc;go_wp2_with fail;change Calls _ _ #[.agg (ruc x).toArray] (w.alloc (.cells (ruc x).toArray 125)) _;unfold ruc at lb0;unfold ruc;generalize w.alloc _=w0 at*;refine(HR9.out w0).mono ?_;rintro e w1 ⟨rfl,l1⟩;cases hrt:rtB x with
 |false=>
  have hae:adE l x=4:=by unfold adE;rw[if_pos hrt]
  have HAE:=zAd hae;have HAL:=zAd (zSt (l:=l) (x:=x) (by rw[hae];omega));have lz:=lb0.trans l1;clear hae rk;go_wp2_with fail;go_ret
  exact⟨by rw[HAE.out];rfl,by rw[HAL.out];exact RLq.same hT lz⟩
 | true =>
  have r1:=zAb l1 rb;clear rk;have rk:=zAa r1;have hT1:=hT.later (lb0.trans l1);go_wp2_with fail;refine(has_anyU base (some ⟨b,0,none⟩) l x w1 (.inr ⟨b,_,rfl,hT1⟩)).mono ?_;rintro e w2 ⟨rfl,l2⟩;have lz:=(lb0.trans l1).trans l2;cases hhs:hasB x l with
  |true=>
   have hae:adE l x=10:=by unfold adE;rw[hrt,hhs];simp
   have HAE:=zAd hae;have HAL:=zAd (zSt (l:=l) (x:=x) (by rw[hae];omega));clear hae rk hrt hhs;go_wp2_with fail;go_ret
   exact⟨by rw[HAE.out];rfl,by rw[HAL.out];exact RLq.same hT lz⟩
  | false=>
   have r2:=zAb l2 r1;have k2:=zAa (hT.later lz).2.1;by_cases hfull:32≤l.length
   ·have hae:adE l x=9:=by unfold adE;rw[hrt,hhs,if_neg (by simp),if_neg (by simp),if_pos hfull]
    have HAE:=zAd hae;have HAL:=zAd (zSt (l:=l) (x:=x) (by rw[hae];omega));have hf':(32:Int)≤l.length:=by omega
    clear hae rk hrt hhs;go_wp2_with fail;go_ret
    exact⟨by rw[HAE.out];rfl,by rw[HAL.out];exact RLq.same hT lz⟩
   ·have hae:adE l x=0:=by unfold adE;rw[hrt,hhs,if_neg (by simp),if_neg (by simp),if_neg hfull]
    have HAE:=zAd hae;have HAL:=zAd (zSu (l:=l) (x:=x) hae);have hf':¬(32:Int)≤l.length:=by omega
    clear hae rk hrt hhs;go_wp2_with fail;clear k2;have lbx:=lz;have rb:=r2;generalize hwx:w2=wx at*;clear hwx;refine zAl (R:=But (fun g=>g=b∨Value.ownBlock (.slice av l.length cv)=some g)) 11 rfl (by kernel_rfl) ?_;have ld:Later wx wx.drew:=Later.drew wx;have LD:=lbx.trans ld;have rd0:=zAb ld rb;generalize wx.drew=Wd at*;have hTd:=hT.later LD;have hnb:w.heap.size≠b:=fun e=>by have:=hT.blt;omega
    have hnv:Value.ownBlock (.slice av l.length cv)≠some w.heap.size:=fun e=>by have:=(hT.lt e).2;omega
    have ha:∀v1,But (fun g=>g=b∨Value.ownBlock (.slice av l.length cv)=some g) Wd v1→∀j,v1.cell? ⟨w.heap.size,j,none⟩=#[Value.int .i64 x.kind,.int .u8 x.proto,.int .u32 x.net,.int .i64 x.bits,.int .u32 x.tt,.int .u16 x.port,.int .u32 x.host,.int .u16 x.hp][j]? :=fun v1 hv=>zAa ((hv.block w.heap.size (eS rd0) (fun hE=>hE.elim hnb hnv)).trans rd0);refine tX (But.pre _) 0 ?_;refine tX (But.pre _) 1 ?_;refine tX (But.pre _) 2 ?_;refine tX (But.pre _) 3 ?_;refine tX (But.pre _) 5 ?_;clear ha;have kd:=zAa hTd.2.1;refine zBv 4 6 rfl rfl (by kernel_rfl) rfl rfl ?_ ?_
    ·unfold Oper.wp
     go_simp;refine⟨But.refl _ _,?_⟩;clear kd;refine tO 6 ?_;unfold Oper.wp;go_simp;have l1:Later Wd (Wd.alloc (.cells (ruc x).toArray 125)):=bA _ _;have HN1:=zOz Wd x;have LL:=LD.trans l1;refine⟨But.of l1,?_⟩;change zAy _ _ _ _ _ _ _ _ (Wd.alloc (.cells (ruc x).toArray 125));generalize Wd.alloc (.cells (ruc x).toArray 125)=W1 at*;generalize Wd.heap.size=gn at*;have hT1:=hT.later LL;have hO1:=hT1.2.2;have hbs1:=Nat.le_trans hbs LL.size;refine tO 7 ?_;refine wp_append_lies W1 (.tmp 27) (.tmp 29) 283 rfl base 125 i0 (.agg #[.int .i64 0,.int .u8 0,.int .u32 0,.int .i64 0,.int .u32 0,.int .u16 0,.int .u32 0,.int .u16 0]) 8 40 Tryz.underlying283 hi0 hz0 hz1 hz2 rfl (by decide) (.slice av l.length cv) l.length (rus l) rfl hO1 ⟨gn,0,none⟩ 1 1 (ruc x) rfl rfl HN1 (by intro u hu;simp only[ruc,List.mem_cons,List.not_mem_nil,or_false]at hu;rcases hu with rfl|rfl|rfl|rfl|rfl|rfl|rfl|rfl<;>rfl) (by omega) (by unfold maxLen;omega) (by omega) hbs1 _ rfl ?_;intro g' cap' W6 hrow6 hg6 hpl hlt6
     have hb6:But (fun g=>g=b∨Value.ownBlock (.slice av l.length cv)=some g) W1 W6:=⟨hg6.os,hg6.tape,hg6.output,hg6.size,fun k hk he=>hg6.block k hk (fun e=>he (.inr e.symm))⟩;refine⟨hb6,?_⟩;simp only[Act.put,sA,sB,sC];have h6:W6.heap[b]? =some (.cells #[.slice av l.length cv] 285 (0,0)):=(hg6.block b (eS hT1.2.1) HNE.out).trans hT1.2.1;have k6:=zAa h6;have f6:=zAc h6;refine tX (But.pre _) 8 ?_;refine tX (But.pre _) 9 ?_;refine tO 10 ?_;unfold Oper.wp;go_simp;generalize hV:W6.setCell ⟨b,0,none⟩ _=V;have hV3:=zAh h6 0 (.slice (some ⟨g',0,none⟩) (l.length+1) cap');rw[hV]at hV3;have hbV2:But (fun g=>g=b∨Value.ownBlock (.slice av l.length cv)=some g) W6 V:=by rw[←hV];exact(But.refl (fun g=>g=b∨Value.ownBlock (.slice av l.length cv)=some g) _).setCell (p:=⟨b,0,none⟩) (.inl rfl) _
     have hbV1:But (fun g=>g=b) W6 V:=by rw[←hV];exact(But.refl (fun g=>g=b) _).setCell (p:=⟨b,0,none⟩) rfl _
     refine⟨hbV2,?_⟩;clear hV k6 f6;refine tD ?_
     have hfin:RLq 285 base w V b (.slice av l.length cv) (l++[x]):=by
      refine⟨.slice (some ⟨g',0,none⟩) (l.length+1) cap',⟨hT.1,hV3,?_⟩,(But.of LL).trans (hb6.trans hbV2),?_⟩
      ·rw[zOy,List.length_append,List.length_singleton]
       obtain⟨q1,⟨q2,q3⟩|⟨g,cap,cur,hv,hgb,hh,q⟩⟩:=hrow6
       ·simp at q2
       ·refine ⟨q1,.inr ⟨g,cap,cur,hv,hgb,(hbV1.block g (eS hh) (fun e=> ?_)).trans hh,q⟩⟩
        subst e;rw[h6]at hh
        simp at hh
      ·rcases hpl with h|h
       ·exact .inl h.symm
       ·refine .inr (fun g hg=> ?_)
        have:g'=g:=by simpa[Value.ownBlock]using hg
        subst this;have:=LL.size;omega
     have HF:=zAd hfin;clear hfin;go_wp2_with fail;go_ret
     exact⟨by rw[HAE.out];rfl,by rw[HAL.out];exact HF.out⟩
    ·unfold Oper.wp
     go_simp;have l1:Later Wd (Wd.alloc (.cells (ruc x).toArray 125)):=bA _ _;have HN1:=zOz Wd x;have LL:=LD.trans l1;refine⟨But.of l1,?_⟩;have k1:=zAa (zAb l1 hTd.2.1);clear kd;change zAy _ _ _ _ _ _ _ _ (Wd.alloc (.cells (ruc x).toArray 125));generalize Wd.alloc (.cells (ruc x).toArray 125)=W1 at*;generalize Wd.heap.size=gn at*;refine tO 4 ?_;unfold Oper.wp;go_simp;refine⟨But.refl _ _,?_⟩;clear k1;have hT1:=hT.later LL;have hO1:=hT1.2.2;have hbs1:=Nat.le_trans hbs LL.size;refine tO 7 ?_;refine wp_append_lies W1 (.tmp 27) (.tmp 29) 283 rfl base 125 i0 (.agg #[.int .i64 0,.int .u8 0,.int .u32 0,.int .i64 0,.int .u32 0,.int .u16 0,.int .u32 0,.int .u16 0]) 8 40 Tryz.underlying283 hi0 hz0 hz1 hz2 rfl (by decide) (.slice av l.length cv) l.length (rus l) rfl hO1 ⟨gn,0,none⟩ 1 1 (ruc x) rfl rfl HN1 (by intro u hu;simp only[ruc,List.mem_cons,List.not_mem_nil,or_false]at hu;rcases hu with rfl|rfl|rfl|rfl|rfl|rfl|rfl|rfl<;>rfl) (by omega) (by unfold maxLen;omega) (by omega) hbs1 _ rfl ?_;intro g' cap' W6 hrow6 hg6 hpl hlt6
     have hb6:But (fun g=>g=b∨Value.ownBlock (.slice av l.length cv)=some g) W1 W6:=⟨hg6.os,hg6.tape,hg6.output,hg6.size,fun k hk he=>hg6.block k hk (fun e=>he (.inr e.symm))⟩;refine⟨hb6,?_⟩;simp only[Act.put,sA,sB,sC];have h6:W6.heap[b]? =some (.cells #[.slice av l.length cv] 285 (0,0)):=(hg6.block b (eS hT1.2.1) HNE.out).trans hT1.2.1;have k6:=zAa h6;have f6:=zAc h6;refine tX (But.pre _) 8 ?_;refine tX (But.pre _) 9 ?_;refine tO 10 ?_;unfold Oper.wp;go_simp;generalize hV:W6.setCell ⟨b,0,none⟩ _=V;have hV3:=zAh h6 0 (.slice (some ⟨g',0,none⟩) (l.length+1) cap');rw[hV]at hV3;have hbV2:But (fun g=>g=b∨Value.ownBlock (.slice av l.length cv)=some g) W6 V:=by rw[←hV];exact(But.refl (fun g=>g=b∨Value.ownBlock (.slice av l.length cv)=some g) _).setCell (p:=⟨b,0,none⟩) (.inl rfl) _
     have hbV1:But (fun g=>g=b) W6 V:=by rw[←hV];exact(But.refl (fun g=>g=b) _).setCell (p:=⟨b,0,none⟩) rfl _
     refine⟨hbV2,?_⟩;clear hV k6 f6;refine tD ?_
     have hfin:RLq 285 base w V b (.slice av l.length cv) (l++[x]):=by
      refine⟨.slice (some ⟨g',0,none⟩) (l.length+1) cap',⟨hT.1,hV3,?_⟩,(But.of LL).trans (hb6.trans hbV2),?_⟩
      ·rw[zOy,List.length_append,List.length_singleton]
       obtain⟨q1,⟨q2,q3⟩|⟨g,cap,cur,hv,hgb,hh,q⟩⟩:=hrow6
       ·simp at q2
       ·refine ⟨q1,.inr ⟨g,cap,cur,hv,hgb,(hbV1.block g (eS hh) (fun e=> ?_)).trans hh,q⟩⟩
        subst e;rw[h6]at hh
        simp at hh
      ·rcases hpl with h|h
       ·exact .inl h.symm
       ·refine .inr (fun g hg=> ?_)
        have:g'=g:=by simpa[Value.ownBlock]using hg
        subst this;have:=LL.size;omega
     have HF:=zAd hfin;clear hfin;go_wp2_with fail;go_ret
     exact⟨by rw[HAE.out];rfl,by rw[HAL.out];exact HF.out⟩
structure Ex where
 pr:Int
 src:Int
 dst:Int
 sp:Int
 dp:Int
 host:Int
 hp:Int
 ms:Int
 dl:Int
deriving DecidableEq
def exc (r:Ex):List Value:=[.int .u8 r.pr,.int .u32 r.src,.int .u32 r.dst,.int .u16 r.sp,.int .u16 r.dp,.int .u32 r.host,.int .u16 r.hp,.int .i64 r.ms,.int .i64 r.dl]
def zEx:Ex:=⟨0,0,0,0,0,0,0,0,0⟩
def exs (l:List Ex):List Value:=l.flatMap exc
theorem zDs(r:Ex):(exc r).length=9:=rfl
theorem zHo(l:List Ex):(exs l).length=l.length*9:=by
 induction l with
 |nil=>rfl
 |cons r l ih=>unfold exs at ih⊢;rw[List.flatMap_cons,List.length_append,ih,zDs,List.length_cons];omega
theorem zQq(l m:List Ex):exs (l++m)=exs l++exs m:=by unfold exs;simp
theorem zSv:∀(l:List Ex) (j i:Nat) (hj:j<l.length),i<9→(exs l)[j*9+i]? =(exc l[j])[i]?
 |r::l,0,i,_,hi=>by
  unfold exs;rw[List.flatMap_cons,Nat.zero_mul,Nat.zero_add,List.getElem?_append_left (by rw[zDs];exact hi)];rfl
 |r::l,j+1,i,hj,hi=>by
  have ih:=zSv l j i (by simpa using hj) hi;unfold exs at ih⊢;rw[List.flatMap_cons,List.getElem?_append_right (by rw[zDs];omega),zDs,show(j+1)*9+i-9=j*9+i from by omega,ih];rfl
def RdV (n₀:Nat) (W:World) (sv:Value) (l:List Ex):Prop:=
 (∃a cap,sv= .slice a 0 cap∧l=[]∧cap≤9223372036854775807∧(a=none→cap=0))∨
 ∃b off cap,sv= .slice (some ⟨b,off,none⟩) l.length cap∧l≠ []∧l.length≤cap∧cap≤9223372036854775807∧b<n₀∧∀j (hj:j<l.length),∀i,i<9→W.cell? ⟨b,off+j*9+i,none⟩=(exc l[j])[i]?
theorem RdV.below {n₀:Nat} {A B:World} (h:Below n₀ A B) {sv:Value} {l:List Ex} :RdV n₀ A sv l→RdV n₀ B sv l
 | .inl e=> .inl e
 | .inr ⟨b,off,cap,e,hne,hl,hm,hb,hc⟩=> .inr ⟨b,off,cap,e,hne,hl,hm,hb,fun j hj i hi=>(h.cell (p:=⟨b,off+j*9+i,none⟩) hb).trans (hc j hj i hi)⟩
theorem RdV.slice {n₀:Nat} {A:World} {sv:Value} {l:List Ex} :RdV n₀ A sv l→∃a cap,sv= .slice a l.length cap∧l.length≤cap∧cap≤9223372036854775807
 | .inl ⟨a,cap,e,hz,hm,_⟩=>⟨a,cap,by rw[e,hz];rfl,by rw[hz];exact Nat.zero_le _,hm⟩
 | .inr ⟨b,off,cap,e,_,hl,hm,_⟩=>⟨_,cap,e,hl,hm⟩
theorem RdV.cells {n₀:Nat} {W:World} {sv:Value} {l:List Ex} (h:RdV n₀ W sv l)(hne:0<l.length):∃b off cap,sv= .slice (some ⟨b,off,none⟩) l.length cap∧l.length≤cap∧cap≤9223372036854775807∧b<n₀∧∀j (hj:j<l.length),∀i,i<9→W.cell? ⟨b,off+j*9+i,none⟩=(exc l[j])[i]? :=by
 rcases h with⟨a,cap,_,rfl,_⟩|⟨b,off,cap,e,_,hl,hm,hb,hc⟩
 ·simp at hne
 ·exact ⟨b,off,cap,e,hl,hm,hb,hc⟩
theorem zBm {base:Nat} {W:World} {v:Value} {l:List Ex} (h:W.ownsRow base 172 9 v l.length (exs l)):RdV W.heap.size W v l:=by
 obtain⟨h1,⟨rfl,h0⟩|⟨g,cap,cur,rfl,hg,hh,hl,hm,hs,hc⟩⟩:=h
 ·have:l=[]:=List.eq_nil_of_length_eq_zero h0
  subst this;exact .inl ⟨none,0,rfl,rfl,by omega,fun _=>rfl⟩
 ·by_cases hn:l=[]
  ·subst hn
   exact .inl ⟨_,cap,rfl,rfl,by simpa[maxLen]using hm,fun h=>by cases h⟩
  ·refine .inr ⟨g,0,cap,rfl,hn,hl,by simpa[maxLen]using hm,(eS hh),fun j hj i hi=> ?_⟩
   rw[Nat.zero_add,zAa hh,←zSv l j i hj hi,←hc,List.getElem?_take_of_lt (by omega)];simp
theorem zCs {base:Nat} {A B:World} {v:Value} {n:Nat} {xs:List Value} (h:A.ownsRow base 172 9 v n xs)(l:Later A B):B.ownsRow base 172 9 v n xs:=by
 obtain⟨h1,h2|⟨g,cap,cur,hv,hg,hh,r⟩⟩:=h
 ·exact ⟨h1,.inl h2⟩
 ·exact ⟨h1,.inr ⟨g,cap,cur,hv,hg,zAb l hh,r⟩⟩
def BL (t:TypeId) (base:Nat) (W:World) (b:Nat) (v:Value) (l:List Ex):Prop:=base≤b∧W.heap[b]? =some (.cells #[v] t (0,0))∧W.ownsRow base 172 9 v l.length (exs l)
theorem BL.later {t:TypeId} {base:Nat} {A B:World} {b:Nat} {v:Value} {l:List Ex} (h:BL t base A b v l)(k:Later A B):BL t base B b v l:=⟨h.1,zAb k h.2.1,zCs h.2.2 k⟩
theorem BL.ne {t t2:TypeId} {base:Nat} {W:World} {b c:Nat} {v:Value} {l:List Ex} {cur:Array Value} (h:BL t base W b v l)(hc:W.heap[c]? =some (.cells cur t2 (0,0)))(ht:t2≠172):v.ownBlock≠some c:=fun e=>by
 obtain⟨h1,⟨hn,_⟩|⟨g,cap,cu,hv,hg,hh,r⟩⟩:=h.2.2
 ·rw[hn]at e;cases e
 ·rw[hv]at e
  cases e
  rw[hc]at hh
  simp at hh
  exact ht hh.2
theorem BL.lt {t:TypeId} {base:Nat} {W:World} {b:Nat} {v:Value} {l:List Ex} (h:BL t base W b v l) {g:Nat} (e:v.ownBlock=some g):base≤g∧g<W.heap.size:=by
 obtain⟨h1,⟨hn,_⟩|⟨g2,cap,cu,hv,hg,hh,r⟩⟩:=h.2.2
 ·rw[hn]at e;cases e
 ·rw[hv]at e
  cases e
  exact⟨hg,(eS hh)⟩
theorem BL.blt {t:TypeId} {base:Nat} {W:World} {b:Nat} {v:Value} {l:List Ex} (h:BL t base W b v l):b<W.heap.size:=(eS h.2.1)
theorem info_exp:(Tryz.prog.info? 172).map (fun i=>(i.zero,i.size,i.bytes))=some (some (.agg #[.int .u8 0,.int .u32 0,.int .u32 0,.int .u16 0,.int .u16 0,.int .u32 0,.int .u16 0,.int .i64 0,.int .i64 0]),9,40):=by kernel_rfl
theorem zL8 {P:Program} {t:TypeId} {z:Value} {a b:Nat} (h:(P.info? t).map (fun i=>(i.zero,i.size,i.bytes))=some (some z,a,b)):∃i,P.info? t=some i∧i.zero=some z∧i.size=a∧i.bytes=b:=by
 cases hi:P.info? t with
 |none=>rw[hi]at h;cases h
 |some i=>rw[hi]at h;simp at h;exact⟨i,rfl,h.1,h.2.1,h.2.2⟩
def BLq (t:TypeId) (base:Nat) (w w':World) (b:Nat) (v:Value) (l:List Ex):Prop:=∃v',BL t base w' b v' l∧But (fun g=>g=b∨v.ownBlock=some g) w w'∧(v'.ownBlock=v.ownBlock∨∀g,v'.ownBlock=some g→w.heap.size≤g)
theorem BLq.same {t:TypeId} {base:Nat} {w w':World} {b:Nat} {v:Value} {l:List Ex} (h:BL t base w b v l)(k:Later w w'):BLq t base w w' b v l:=⟨v,h.later k,But.of k,.inl rfl⟩
theorem zSw(b off k:Nat):(⟨b,off,none⟩:Addr).add k=⟨b,off+k,none⟩:=by unfold Addr.add;split<;>simp_all
theorem exs_one(l:List Ex):∀u∈exs l,u.oneCell'=true:=fun u hu=>by
 obtain⟨r,_,hr⟩:=List.mem_flatMap.1 hu;simp only[exc,List.mem_cons,List.not_mem_nil,or_false]at hr;rcases hr with rfl|rfl|rfl|rfl|rfl|rfl|rfl|rfl|rfl<;>rfl
theorem appE(w:World)(ty:TypeId)(base n₀:Nat)(v:Value)(xs:List Ex)(sv:Value)(ys:List Ex)(hown:w.ownsRow base 172 9 v xs.length (exs xs))(hI:RdV n₀ w sv ys)(hbase:base≤w.heap.size)(hs:xs.length+ys.length≤10000):
  ∃v' w',(Builtin.append_ #[47,47] ty #[v,sv]).run Tryz.prog w= .ok v' w'∧w'.ownsRow base 172 9 v' (xs++ys).length (exs (xs++ys))∧w.grownBy w' v.ownBlock∧(v'.ownBlock=v.ownBlock∨v'.ownBlock=some w.heap.size):=by
 obtain⟨i0,hi0,hz0,hz1,hz2⟩:=zL8 info_exp;rcases hI with⟨a,cap,rfl,rfl,hcm,ha⟩|⟨b,off,cap,rfl,hne,hl,hm,hb,hc⟩
 ·obtain ⟨av,cv,rfl,hv1,hv2⟩:=(zBm hown).slice
  refine⟨_,w,run_append_nothing w _ _ ty _ i0 Tryz.underlying47 hi0 av xs.length cv hv1 (.slice a 0 cap) ?_,by rw[List.append_nil];exact hown,⟨rfl,rfl,rfl,Nat.le_refl _,fun _ _ _=>rfl⟩,.inl rfl⟩;refine⟨.inl ⟨_,Tryz.underlying47⟩,fun w'=> ?_,?_,?_,by simp,by simp⟩<;>cases a<;>simp[Builtin.lenOf,Builtin.firstCells,go_sem]
 ·have hp:0<ys.length:=List.length_pos_iff.2 hne
  obtain⟨g,cap',w',hr,h2,h3,h4,h5⟩:=run_append_lies (P:=Tryz.prog) w 47 ty base 172 i0 _ 9 40 Tryz.underlying47 hi0 hz0 hz1 hz2 rfl (by decide) v xs.length (exs xs) hown ⟨b,off,none⟩ ys.length cap (exs ys) (zHo ys) (fun j u hj=>by
   have hlt:=(List.getElem?_eq_some_iff.1 hj).1;rw[zHo]at hlt;rw[zSw];have h1:=hc (j/9) (by omega) (j % 9) (Nat.mod_lt _ (by omega));rw[←zSv ys (j/9) (j % 9) (by omega) (Nat.mod_lt _ (by omega)),show j/9*9+j % 9=j from by omega,hj]at h1;rw[←h1];congr 2
   omega) (exs_one ys) hp (by unfold maxLen;omega) (by omega) hbase _ rfl
  refine⟨_,w',hr,by rw[List.length_append,zQq];exact h2,h3,?_⟩;rcases h4 with h4|h4
  ·exact .inl (by rw[h4];rfl)
  ·exact .inr (by rw[h4];rfl)
theorem zD6 {P:Program} {ops:Array Oper} {rest:List Oper} {o:Oper} {a:Act} {Q:Exit→Act→World→Prop} {w:World} (hg:o.guard=none)(s x:Operand)(t:TypeId)(hop:o.op=Op.call { callee:=Callee.builtin Builtin.append,args:=#[s,x],argTypes:=#[t,t] })
  (v sx:Value)(hs:a.eval s=v)(hx:a.eval x=sx)(v':Value)(w':World)(hrun:(Builtin.append_ #[t,t] o.type #[v,sx]).run P w= .ok v' w')(hk:wpList P ops Q rest (a.put o.dst v') w'):wpList P ops Q (o::rest) a w:=
 wpList_plain hg fun K hK=>zC9 s x t hop v sx hs hx v' w' hrun (hK _ _ hk)
theorem zSx(w:World):(w.alloc (.cells #[] 172)).ownsRow w.heap.size 172 9 (.slice (some ⟨w.heap.size,0,none⟩) 0 0) ([]:List Ex).length (exs []):=
 ⟨rfl,.inr ⟨w.heap.size,0,#[],rfl,Nat.le_refl _,heap_alloc_new w _,Nat.le_refl _,by unfold maxLen;omega,rfl,rfl⟩⟩
theorem copyE(w:World)(ty:TypeId)(n₀:Nat)(sv:Value)(ys:List Ex)(hI:RdV n₀ w sv ys)(hn:n₀≤w.heap.size)(hs:ys.length≤10000):
  ∃v' w',(Builtin.append_ #[47,47] ty #[.slice (some ⟨w.heap.size,0,none⟩) 0 0,sv]).run Tryz.prog (w.alloc (.cells #[] 172))= .ok v' w'∧w'.ownsRow w.heap.size 172 9 v' ys.length (exs ys)∧Later w w':=by
 have la:Later w (w.alloc (.cells #[] 172)):=bA _ _;obtain⟨v',w',h1,h2,h3,h4⟩:=appE (w.alloc (.cells #[] 172)) ty w.heap.size n₀ _ [] sv ys (zSx w) (hI.below (la.mono hn)) la.size (by simpa using hs);refine⟨v',w',h1,by simpa using h2,?_⟩;exact Below.trans la ⟨h3.os,h3.tape,h3.output,h3.size,fun k hk=>h3.block k (by simp;omega) (fun e=>by simp[Value.ownBlock]at e;omega)⟩
theorem zGa(base:Nat)(v:Value)(l:List Ex)(w:World)(hO:w.ownsRow base 172 9 v l.length (exs l))(hl:l.length≤5000):
  Calls Tryz.prog 78 #[v] w fun e w'=>Later w w'∧∃v',e= .returned v'∧w'.ownsRow w.heap.size 172 9 v' l.length (exs l):=by
 obtain⟨u,W1,hrun,hrow,hlat⟩:=copyE w 47 w.heap.size v l (zBm hO) (Nat.le_refl _) (by omega);obtain⟨av,cv,rfl,_,_⟩:=(zBm hO).slice;obtain⟨au,cu,rfl,_,_⟩:=(zBm hrow).slice;have HRUN:=zAd hrun;have HROW:=zAd hrow;have HO:=zAd hO;clear hrun hrow hO;go_enter Tryz.func78,Tryz.ntmps78;cases av with
 | none=>
  go_wp2_with fail;rw[Go.Lib.run_eql_slice_nil _ _ _ _ _ _ _ _ Tryz.underlying47];go_wp2_with fail;go_ret
  have:l.length=0:=by
   obtain⟨_,⟨e,e2⟩|⟨g2,cap2,cur,e,_⟩⟩:=HO.out
   ·exact e2
   ·cases e
  refine⟨Later.refl _,_,rfl,?_⟩;obtain rfl:=List.eq_nil_of_length_eq_zero this;exact⟨rfl,.inl ⟨rfl,rfl⟩⟩
 |some a=>
  go_wp2_with fail;rw[Go.Lib.run_eql_slice_nil _ _ _ _ _ _ _ _ Tryz.underlying47];go_wp2_with (at_builtin;refine zD6 rfl (.tmp 5) (.tmp 6) 47 rfl _ _ rfl rfl _ W1 HRUN.out ?_)
  go_ret
  exact⟨hlat,_,rfl,HROW.out⟩
end Go.Proofs.YteaeilghamjjkaaGreatDoor
