import Derived.Test.YteaeilghamjjkaaGreatDoorX20
import Derived.Deep.MidRow
import Derived.Deep.DeepCutAuto
import Derived.Deep.CutBlock
namespace Go.Proofs.YteaeilghamjjkaaGreatDoor
set_option maxHeartbeats 8000000
open Go.RowKit Go.Shelf
set_option maxRecDepth 100000
set_option linter.unusedVariables false
set_option linter.unusedSimpArgs false
theorem zPq(n:Nat)(w:World)(hn:n≤12):Calls Tryz.prog 200 #[.int .u64 (n:Int)] w fun e w'=>(∃v,e= .returned (.int .i64 v))∧w'=w:=by
 have hc:n=0∨n=1∨n=2∨n=3∨n=4∨n=5∨n=6∨n=7∨n=8∨n=9∨n=10∨n=11∨n=12:=by omega
 clear hn;rcases hc with rfl|rfl|rfl|rfl|rfl|rfl|rfl|rfl|rfl|rfl|rfl|rfl|rfl
 all_goals
  go_enter Tryz.func200,Tryz.ntmps200;go_wp2_with fail;go_ret
  exact⟨⟨_,rfl⟩,rfl⟩
theorem zKn(n:Nat)(w:World)(hn:n≤12):Calls Tryz.prog 156 #[.int .u64 (n:Int)] w fun e w'=>(∃v,e= .returned (.int .i64 v))∧w'=w:=by
 go_enter Tryz.func156,Tryz.ntmps156;go_wp2_with fail;refine(zPq n w hn).mono ?_;rintro e w1 ⟨⟨v,rfl⟩,rfl⟩;go_wp2_with fail;go_ret
 exact⟨⟨_,rfl⟩,rfl⟩
attribute [local go_sem] Oper.semAt_some
def zDf (ls:Nat→List Rw):List Rw:=(List.range 256).flatMap ls
def zFw (ls:Nat→List Rw) (i:Nat):List Rw:=(List.range i).flatMap ls
theorem zF7(ls:Nat→List Rw)(i:Nat):zFw ls (i+1)=zFw ls i++ls i:=by
 unfold zFw;rw[List.range_succ,List.flatMap_append];simp
theorem allR_at(ls:Nat→List Rw)(i k:Nat)(hi:i<256)(hk:k<(ls i).length):∃rest,(zFw ls i++(ls i).take k)++(ls i)[k]::rest=zDf ls:=by
 obtain⟨m,hm⟩:∃m,256=i+1+m:=⟨255-i,by omega⟩
 have e:zDf ls=zFw ls (i+1)++((List.range m).map (i+1+ ·)).flatMap ls:=by
  unfold zDf zFw;rw[hm,List.range_add,List.flatMap_append]
 refine⟨(ls i).drop (k+1)++((List.range m).map (i+1+ ·)).flatMap ls,?_⟩;rw[e,zF7]
 have h2:ls i=(ls i).take k++(ls i)[k]::(ls i).drop (k+1):=by
  rw[←List.drop_eq_getElem_cons hk,List.take_append_drop]
 rw[List.append_assoc,List.append_assoc];congr 1
 rw[←List.cons_append,←List.append_assoc,←h2]
def encR (r:Rw):Array Value:=#[.agg (rwc r).toArray]
def XR (ls:Nat→List Rw) (pre:List Rw) (x:Rw) (_V:World):Prop:=∃rest,pre++x::rest=zDf ls
theorem zDu {F:Fence} {n:Nat} {P:Program} {ops:Array Oper} {rest:List Oper} {o:Oper} {a:Act} {Q:Exit→Act→World→Prop} {w:World} (k:Nat)(hd:o.dst=some k)(hg:o.guard=none)(v:Value)(ha:o.about P w a.eval=none)(h:(o.semAt F.round a.eval).run P w= .ok (.value v) w)
  (hk:wpListIn F n P ops Q rest (a.put o.dst v) w):wpListIn F n P ops Q (o::rest) a w:=wpListIn_plain hg fun K hK=>by unfold Oper.wpIn;rw[h];exact⟨fun f hf=>(by rw[ha]at hf;cases hf),hK _ _ hk⟩
theorem idx_arr(vs:List Value)(i:Nat)(w:World)(hv:vs.length=256)(hi:i<256):(Instr.index 213 (.agg vs.toArray) (.int .i64 (i:Int))).run Tryz.prog w= .ok (vs[i]?.getD undef) w:=by
 have h1:(i:Int)<256:=by omega
 have h2:i<vs.length:=by omega
 simp[Instr.index,go_sem,h1,h2,hv,hi]
theorem all1_in(n:Nat)(hn:1≤n)(l B bt n₀:Nat)(vs:List Value)(ls:Nat→List Rw)(hv:vs.length=256)(J Jx:List Rw→World→Prop)
  (hJ:∀s A B,J s A→Later A B→J s B)
  (hY:∀pre x V,J pre V→XR ls pre x V→YieldAt Fence.wide (n-1) Tryz.prog l (encR x) V fun e V'=>(e= .returned (.bool true)∧J (pre++[x]) V'∧Below n₀ V V')∨(e= .returned (.bool false)∧Jx (pre++[x]) V'))
  (W:World)(hB:W.cell? ⟨B,0,none⟩=some (.pointer (some ⟨bt,3,none⟩)))(hn0:n₀≤W.heap.size)(hc:∀i,i<256→W.cell? ⟨bt,3+i,none⟩=some (vs[i]?.getD undef))(hR:∀i,i<256→RdR n₀ W (vs[i]?.getD undef) (ls i))(h0:J [] W):
  CallsIn Fence.wide n Tryz.prog 154 #[.func (.yield l) #[] #[],.pointer (some ⟨B,0,none⟩)] W fun e W'=>(∃v,e= .returned v)∧((∃xs,xs=zDf ls∧J xs W')∨(∃pre,True∧Jx pre W')):=by
 have hra:W.rangeAt bt 3 vs:=fun j v hj=>by
  have hlt:j<256:=by have:=(List.getElem?_eq_some_iff.1 hj).1;omega
  rw[hc j hlt,hj];rfl
 have hL:(Instr.loadAt 213 (.pointer (some ⟨bt,3,none⟩))).run Tryz.prog W= .ok (.agg vs.toArray) W:=run_loadAt_mid W bt 3 _ vs _ hra Tryz.underlying213 rfl (by rw[hv];kernel_rfl);have HC:=zAc hc;have HR:=zAc hR;have HL:=zAc hL;clear hc hR hra hL;refine callsIn_of_wp Tryz.func154 rfl trivial ?_ rfl;simp only[Tryz.ntmps154,List.size_toArray,List.length_cons,List.length_nil,Nat.reduceAdd,Nat.reduceSub,Array.replicate_succ,Array.replicate_zero,List.push_toArray,List.append_toArray,List.nil_append,List.cons_append];gi_wp2_with (refine zDu 10 rfl rfl (.agg vs.toArray) rfl (by go_loud (show Sem.run _ (Instr.loadAt 213 (.pointer (some ⟨bt,3,none⟩))>>=fun v=>pure (Next.value v)) _=_;rw[Sem.run_bind,HL.out];rfl)) ?_)
 gi_loopw [11] (fun i wr=>∃p:Nat,p≤256∧i= .int .i64 (p:Int)∧J (zFw ls p) wr∧Below n₀ W wr) (fun i _=>256-(intOf i).toNat)
 case atStart=>exact⟨0,by omega,rfl,h0,Below.refl _ _⟩
 case round=>
  obtain⟨p,hp,rfl,hJp,hbp⟩:=hrel;by_cases hlt:p<256
  ·have hlt':(p:Int)<256:=by omega
   have hRp:=(HR.out p hlt).below hbp;have hix:=idx_arr vs p wr hv hlt;generalize hvp:vs[p]?.getD undef=v at*;obtain⟨sa,cap,rfl,hc1,hc2⟩:=hRp.slice;have HIX:=zAc hix;have HRP:=zAc hRp;have HVP:=zAc hvp;clear hvp hix hRp;gi_wp2_with (refine zDu 13 rfl rfl (.slice sa (ls p).length cap) rfl (by go_loud (show Sem.run _ (Instr.index 213 (.agg vs.toArray) (.int .i64 (p:Int))>>=fun v=>pure (Next.value v)) _=_;rw[Sem.run_bind,HIX.out];rfl)) ?_)
   rename World=>w1
   gi_loopw [16] (fun i wx=>∃k:Nat,k≤(ls p).length∧i= .int .i64 (k:Int)∧J (zFw ls p++(ls p).take k) wx∧Below n₀ W wx) (fun i _=>(ls p).length-(intOf i).toNat)
   case atStart=>exact⟨0,by omega,rfl,by rw[List.take_zero,List.append_nil];exact hJp,hbp⟩
   case round=>
    obtain⟨k,hk,rfl,hJk,hbk⟩:=hrel;by_cases hkl:k<(ls p).length
    ·obtain ⟨g,off,cp,e,_,_,hgn,hcs⟩:=((HR.out p hlt).below hbk|>fun h=>show RdR n₀ wr (.slice sa (ls p).length cap) (ls p)from HVP.out▸h).cells (by omega)
     simp at e
     obtain⟨rfl,rfl⟩:=e;have c0:=hcs k hkl 0 (by omega);have c1:=hcs k hkl 1 (by omega);have c2:=hcs k hkl 2 (by omega);have c3:=hcs k hkl 3 (by omega);have c4:=hcs k hkl 4 (by omega);have c5:=hcs k hkl 5 (by omega);have c6:=hcs k hkl 6 (by omega);have c7:=hcs k hkl 7 (by omega);have hkl':(k:Int)<(ls p).length:=by omega
     have hat:=allR_at ls p k hlt hkl;have htk:zFw ls p++(ls p).take (k+1)=zFw ls p++(ls p).take k++[(ls p)[k]]:=by rw[List.append_assoc,List.take_append_getElem hkl]
     clear hcs;generalize hgo:(ls p)[k]=r at*;have HAT:=zAc hat;have HTK:=zAc htk;clear hgo hat htk;simp only[rwc,List.getElem?_cons_zero,List.getElem?_cons_succ,Nat.add_zero]at c0 c1 c2 c3 c4 c5 c6 c7;have la:Later wr (wr.alloc (.cells #[.int .u8 r.p,.int .u32 r.s,.int .u32 r.d,.int .u16 r.a,.int .u16 r.b,.int .i64 r.id,.int .i64 r.till,.int .i64 r.turn] 220)):=bA _ _;obtain⟨fn,tmps,assign,body,hy,hR⟩:=hY _ r _ (hJ _ _ _ hJk la) HAT.out;dsimp only[encR,rwc]at hy
     have hwr:=Nat.le_trans hn0 hbk.size;gi_wp2
     refine hR.mono ?_;rintro e W3 (⟨rfl,hJ3,hk3⟩|⟨rfl,hJx3⟩)
     ·gi_wp2
      go_roundw
      case rel=>exact⟨k+1,by omega,by go_num,by rw[HTK.out];exact hJ3,hbk.trans ((la.mono hwr).trans hk3)⟩
      case measure=>simp[intOf];omega
     ·gi_wp2
      refine bodyPost_ret (results_none rfl _ _ _) rfl ?_;exact⟨⟨_,rfl⟩,.inr ⟨_,trivial,hJx3⟩⟩
    ·obtain rfl:k=(ls p).length:=by omega
     gi_wp2
     go_roundw
     case rel=>exact⟨p+1,by omega,by go_num,by rw[zF7];rw[List.take_length]at hJk;exact hJk,hbk⟩
     case measure=>simp[intOf];omega
  ·obtain rfl:p=256:=by omega
   gi_wp2
   go_end0
   exact⟨⟨_,rfl⟩,.inl ⟨_,rfl,hJp⟩⟩
theorem all_gen(n:Nat)(hn:1≤n)(B bt n₀ base:Nat)(lim cnt trn:Int)(vs:List Value)(ls:Nat→List Rw)(w0 w:World)(hT:TBv base w0 bt lim cnt trn vs ls)(hn0:n₀=w0.heap.size)(hw:Later w0 w)(hBl:B<w.heap.size)(hB:w.cell? ⟨B,0,none⟩=some (.pointer (some ⟨bt,3,none⟩))):
  GenX Fence.wide n Tryz.prog 154 #[.pointer (some ⟨B,0,none⟩)] encR (Below n₀) (XR ls) (fun xs=>xs=zDf ls) (fun _=>True) w:=fun l J Jx W hW hJ hY h0=>by
 subst hn0;have hwW:Later w0 W:=hw.trans hW;have hTW:=hT.later hwW;exact all1_in n hn l B bt w0.heap.size vs ls hT.1 J Jx hJ hY W ((hW.cell (p:=⟨B,0,none⟩) hBl).trans hB) hwW.size (fun i hi=>hTW.cell i hi) (fun i hi=>(zCn (hT.2.2.2.1 i hi)).below hwW) h0
theorem zNx(sv:Value)(n:Nat)(f:Value)(w:World)(hn:n≤1):Calls Tryz.prog 206 #[sv,.int .i64 0,.int .i64 (n:Int),f] w fun e w'=>(∃v,e= .returned v)∧w'=w:=by
 go_enter Tryz.func206,Tryz.ntmps206;go_wp2_with fail;go_loopw [8] (fun i wr=>i= .int .i64 1∧wr=w) (fun _ _=>0)
 case atStart=>exact⟨rfl,rfl⟩
 case round=>
  obtain⟨rfl,rfl⟩:=hrel;have h1:¬(1:Int)<(n:Int):=by omega
  go_wp2_with fail;go_end0
  exact⟨⟨_,rfl⟩,rfl⟩
theorem pdq_one(sv:Value)(n:Nat)(lm:Int)(f:Value)(w:World)(hn:n≤1):Calls Tryz.prog 155 #[sv,.int .i64 0,.int .i64 (n:Int),.int .i64 lm,f] w fun e w'=>(∃v,e= .returned v)∧w'=w:=by
 have h1:(n:Int)≤12:=by omega
 go_enter Tryz.func155,Tryz.ntmps155;go_wp2_with fail;go_loopw [1,2] (fun a b wr=>a= .int .i64 0∧b= .int .i64 (n:Int)∧wr=w) (fun _ _ _=>0)
 case atStart=>exact⟨rfl,rfl,rfl⟩
 case round=>
  obtain⟨rfl,rfl,rfl⟩:=hrel;go_wp2_with fail;refine(zNx sv n f wr hn).mono ?_;rintro e w1 ⟨⟨v,rfl⟩,rfl⟩;go_wp2_with fail;refine bodyPost_ret (results_none rfl _ _ _) rfl ?_;exact⟨⟨_,rfl⟩,rfl⟩
theorem sort_one(a:Option Addr)(n cap:Nat)(f:Value)(w:World)(hn:n≤1):Calls Tryz.prog 101 #[.slice a n cap,f] w fun e w'=>(∃v,e= .returned v)∧w'=w:=by
 have h1:(n:Int)≤12:=by omega
 go_enter Tryz.func101,Tryz.ntmps101;go_wp2_with fail;refine(zKn n w (by omega)).mono ?_;rintro e w1 ⟨⟨v,rfl⟩,rfl⟩;go_wp2_with fail;refine(pdq_one (.slice a n cap) n v f w1 hn).mono ?_;rintro e w2 ⟨⟨v2,rfl⟩,rfl⟩;go_wp2_with fail;go_end0
 exact⟨⟨_,rfl⟩,rfl⟩
attribute [local go_sem] Oper.semAt_some
theorem all_in(n bt:Nat)(w:World):
  CallsIn Fence.wide n Tryz.prog 100 #[.pointer (some ⟨bt,3,none⟩)] w fun e w'=>e= .returned (.func (.func 154) #[] #[.pointer (some ⟨w.heap.size,0,none⟩)])∧w'=w.alloc (.cells #[.pointer (some ⟨bt,3,none⟩)] 293):=by
 refine callsIn_of_wp Tryz.func100 rfl trivial ?_ rfl;simp only[Tryz.ntmps100,List.size_toArray,List.length_cons,List.length_nil,Nat.reduceAdd,Nat.reduceSub,Array.replicate_succ,Array.replicate_zero,List.push_toArray,List.append_toArray,List.nil_append,List.cons_append];gi_wp2
 go_ret
 exact⟨rfl,rfl⟩
def duR (now:Int) (l:List Rw):List Rw:=l.filter fun r=>decide (r.till≤now)
theorem duR_yes {now:Int} {l:List Rw} {r:Rw} (h:r.till≤now):duR now (l++[r])=duR now l++[r]:=by unfold duR;rw[List.filter_append];simp[h]
theorem duR_no {now:Int} {l:List Rw} {r:Rw} (h:¬r.till≤now):duR now (l++[r])=duR now l:=by unfold duR;rw[List.filter_append];simp[h]
theorem zF8(now:Int)(l:List Rw):(duR now l).length≤l.length:=List.length_filter_le _ _
theorem rws_snoc(l:List Rw)(r:Rw):rws (l++[r])=rws l++rwc r:=by unfold rws;simp
def CTy (A B:World):Prop:=A.heap.size≤B.heap.size∧∀(k:Nat) (o:Obj),A.heap[k]? =some o→o.isCells=true→B.heap[k]? =some o
theorem CTy.of {A B:World} (h:Later A B):CTy A B:=⟨h.size,fun k o ho _=>zAb h ho⟩
theorem CTy.row {A B:World} {row:Option Nat} (hg:A.grownBy B row)(hr:∀r,row=some r→∃o:Obj,A.heap[r]? =some o∧o.isCells=false):CTy A B:=
 ⟨hg.size,fun k o ho hc=>(hg.block k (eS ho) (fun e=>by obtain⟨o',h1,h2⟩:=hr k e.symm;rw[ho]at h1;cases h1;rw[hc]at h2;cases h2)).trans ho⟩
theorem CTy.put {A:World} {l:Nat} {o o':Obj} (h:A.heap[l]? =some o)(hc:o.isCells=false):CTy A (A.putObj l o'):=
 CTy.row (grownBy_putObj' A l o') (fun r e=>by cases e;exact⟨o,h,hc⟩)
theorem ownsR_ct {base:Nat} {e:TypeId} {size:Nat} {A B:World} {v:Value} {n:Nat} {xs:List Value} (h:A.ownsRow base e size v n xs)(c:CTy A B):B.ownsRow base e size v n xs:=by
 obtain⟨h1,h2|⟨g,cap,cur,hv,hg,hh,r⟩⟩:=h
 ·exact ⟨h1,.inl h2⟩
 ·exact ⟨h1,.inr ⟨g,cap,cur,hv,hg,c.2 _ _ hh rfl,r⟩⟩
def PD (rb base:Nat) (now:Int) (pre:List Rw) (W:World):Prop:=
 (∃v,W.heap[rb+1]? =some (.cells #[v] 210 (0,0))∧W.ownsRow base 220 8 v (duR now pre).length (rws (duR now pre)))∧W.heap[rb]? =some (.cells #[.int .i64 now] 3 (0,0))
theorem PD.ct {rb base:Nat} {now:Int} {pre:List Rw} {A B:World} (h:PD rb base now pre A)(c:CTy A B):PD rb base now pre B:=by
 obtain⟨⟨v,h1,h2⟩,h3⟩:=h;exact⟨⟨v,c.2 _ _ h1 rfl,ownsR_ct h2 c⟩,c.2 _ _ h3 rfl⟩
def zPr (l l':List Rw):Prop:=l'.length=l.length∧∀(base:Nat) (v:Value) (W:World),W.ownsRow base 220 8 v l.length (rws l)→
 Calls Tryz.prog 101 #[v,.func (.func 102) #[] #[]] W fun e W'=>(∃u,e= .returned u)∧W'.ownsRow base 220 8 v l.length (rws l')∧But (fun g=>v.ownBlock=some g) W W'
theorem zPs(l:List Rw)(h:l.length≤1):zPr l l:=⟨rfl,fun base v W hv=>by
 obtain⟨a,cap,rfl,_,_⟩:=(zCn hv).slice;refine(sort_one a l.length cap _ W h).mono ?_;rintro e W' ⟨hu,rfl⟩;exact⟨hu,hv,But.refl _ _⟩⟩
attribute [local go_sem] Oper.semAt_some
theorem zKo {W:World} {n m j:Nat} {v:Value} {o:Obj} (h:W.heap[n]? =some o)(hne:n≠m):(W.setCell ⟨m,j,none⟩ v).heap[n]? =some o:=(Below.heap_setCell W ⟨m,j,none⟩ v n hne).trans h
def rks (l:List Rw):List Value:=l.flatMap rwk
theorem zNy(l:List Rw):(rks l).length=l.length*5:=by
 induction l with
 |nil=>rfl
 |cons r l ih=>unfold rks at ih⊢;simp[rwk]at ih⊢;omega
theorem rks_snoc(l:List Rw)(r:Rw):rks (l++[r])=rks l++rwk r:=by unfold rks;simp
theorem zC4 {n:Nat} {t:TypeId} :∀(vs pre mid post:List Value) (W:World),W.heap[n]? =some (.cells (pre++(mid++post)).toArray t (0,0))→mid.length=vs.length→(zAj W n pre.length vs).heap[n]? =some (.cells (pre++(vs++post)).toArray t (0,0))
 | [],pre,mid,post,W,h,hl=>by
  have:mid=[]:=List.length_eq_zero_iff.1 hl;subst this;exact h
 |v::r,pre,[],post,W,h,hl=>by simp at hl
 | v::r,pre,p::mid,post,W,h,hl=>by
  have h1:=zAh h pre.length v
  have e:((pre++(p::mid++post)).toArray.setIfInBounds pre.length v)=((pre++[v])++(mid++post)).toArray:=by
   simp
  rw[e]at h1;have:=zC4 r (pre++[v]) mid post _ h1 (by simpa using hl);simpa[zAj]using this
theorem zPt:(Tryz.prog.info? 103).map (fun i=>(i.zero,i.size,i.bytes))=some (some (.agg #[.int .u8 0,.int .u32 0,.int .u32 0,.int .u16 0,.int .u16 0]),5,16):=by kernel_rfl
theorem due_any(base bt:Nat)(lim cnt trn now:Int)(ls:Nat→List Rw)(l':List Rw)(w:World)(hT:TB base w bt lim cnt trn ls)(hS:zPr (duR now (zDf ls)) l')(hal:(zDf ls).length≤5000):
  Calls Tryz.prog 48 #[.pointer (some ⟨bt,0,none⟩),.int .i64 now] w fun e w'=>Below w.heap.size w w'∧∃g,e= .returned (.slice (some ⟨g,0,none⟩) l'.length l'.length)∧w.heap.size≤g∧w'.heap[g]? =some (.cells (rks l').toArray 103 (0,0)):=by
 obtain⟨vs,hT⟩:=hT;refine(callsIn_wide (n:=5)).1 ?_;refine callsIn_of_wp_marks Tryz.func48 rfl trivial ?_ rfl;simp only[Tryz.ntmps48,List.size_toArray,List.length_cons,List.length_nil,Nat.reduceAdd,Nat.reduceSub,Array.replicate_succ,Array.replicate_zero,List.push_toArray,List.append_toArray,List.nil_append,List.cons_append];have hb4:Later w (((w.alloc (.cells #[.int .i64 now] 3)).alloc (.cells #[.slice none 0 0] 210)).alloc (.cells #[.pointer (some ⟨bt,3,none⟩)] 293)):=((bA _ _).alloc (by simp) _).alloc (by simp<;>omega) _;have c0:(((w.alloc (.cells #[.int .i64 now] 3)).alloc (.cells #[.slice none 0 0] 210)).alloc (.cells #[.pointer (some ⟨bt,3,none⟩)] 293)).heap[w.heap.size]? =some (.cells #[.int .i64 now] 3):=(Below.heap_alloc _ _ _ (by simp<;>omega)).trans ((Below.heap_alloc _ _ _ (by simp)).trans (heap_alloc_new w _))
 have c1:(((w.alloc (.cells #[.int .i64 now] 3)).alloc (.cells #[.slice none 0 0] 210)).alloc (.cells #[.pointer (some ⟨bt,3,none⟩)] 293)).heap[w.heap.size+1]? =some (.cells #[.slice none 0 0] 210):=by
  have:=heap_alloc_new (w.alloc (.cells #[.int .i64 now] 3)) (.cells #[.slice none 0 0] 210);rw[World.size_alloc]at this;exact(Below.heap_alloc _ _ _ (by simp)).trans this
 have c2:(((w.alloc (.cells #[.int .i64 now] 3)).alloc (.cells #[.slice none 0 0] 210)).alloc (.cells #[.pointer (some ⟨bt,3,none⟩)] 293)).heap[w.heap.size+1+1]? =some (.cells #[.pointer (some ⟨bt,3,none⟩)] 293):=by
  have:=heap_alloc_new ((w.alloc (.cells #[.int .i64 now] 3)).alloc (.cells #[.slice none 0 0] 210)) (.cells #[.pointer (some ⟨bt,3,none⟩)] 293);simpa only[World.size_alloc]using this
 have hs4:(((w.alloc (.cells #[.int .i64 now] 3)).alloc (.cells #[.slice none 0 0] 210)).alloc (.cells #[.pointer (some ⟨bt,3,none⟩)] 293)).heap.size=w.heap.size+1+1+1:=by simp
 have C0:=zAc c0;have C1:=zAc c1;have C2:=zAc c2;have HS4:=zAc hs4;clear c0 c1 c2 hs4;gi_wp2_with (refine⟨trivial,?_⟩;gi_at_call 100;refine(all_in _ _ _).mono ?_;rintro e w' ⟨rfl,rfl⟩)
 generalize ((w.alloc (.cells #[.int .i64 now] 3)).alloc (.cells #[.slice none 0 0] 210)).alloc (.cells #[.pointer (some ⟨bt,3,none⟩)] 293)=w4 at*;have hs4:w4.heap.size=w.heap.size+1+1+1:=HS4.out
 refine zBt (w:=w4) rfl (by omega) (gf:=154) (lb:=#[.pointer (some ⟨w.heap.size+1+1,0,none⟩)]) rfl trivial (enters_of Tryz.func154 (by kernel_rfl) rfl)
  (all_gen 4 (by omega) (w.heap.size+1+1) bt w.heap.size base lim cnt trn vs ls w w4 hT rfl hb4 (by omega) (zAa C2.out 0))
  (fun h k=>h.trans k) (fun W l o o' hl ho hc hw=>belowK_b (w:=w4) (by omega) W l o o' hl ho hc hw) (fun hA hL=>hL.mono (by omega)) (fun _ _ _ _ h _=>h) (fun _ _ _ _ _ _ _ _ _ h=>h) (fun _=>rfl)
  (fun pre W=>PD w.heap.size (w.heap.size+1+1+1) now pre W∧Below w.heap.size w W) (fun pre W=>False)
  (OwnFrom.and (fun s A B row hs hg hr=>hs.ct (CTy.row hg (fun r e=>(hr r e).2))) (ownFrom_below (Nat.le_refl _) (by omega)))
  (fun s A B h l=>⟨h.1.ct (CTy.of l),h.2.trans (l.mono h.2.size)⟩)
  (fun s A B row hs hg hr=>hs)
  ⟨⟨⟨.slice none 0 0,C1.out,rfl,.inl ⟨rfl,rfl⟩⟩,C0.out⟩,hb4⟩
  (fun x a' W=>∃bx:Nat,w.heap.size+1+1+1≤bx∧W.heap[bx]? =some (.cells #[.int .u8 x.p,.int .u32 x.s,.int .u32 x.d,.int .u16 x.a,.int .u16 x.b,.int .i64 x.id,.int .i64 x.till,.int .i64 x.turn] 220 (0,0))∧a'= { tmps:=#[.pointer (some ⟨bt,0,none⟩),.int .i64 now,undef,.pointer (some ⟨w.heap.size,0,none⟩),.slice none 0 0,.pointer (some ⟨w.heap.size+1,0,none⟩),.pointer (some ⟨bx,0,none⟩),undef,undef,undef,.pointer (some ⟨bt,0,none⟩),.bool false,.pointer (some ⟨bt,0,none⟩),.pointer (some ⟨bt,0,none⟩),.pointer (some ⟨bt,3,none⟩),.func (.func 154) #[] #[.pointer (some ⟨w.heap.size+1+1,0,none⟩)],.agg #[.int .u8 x.p,.int .u32 x.s,.int .u32 x.d,.int .u16 x.a,.int .u16 x.b,.int .i64 x.id,.int .i64 x.till,.int .i64 x.turn],undef,undef,undef,undef,undef,undef,undef,undef,undef,undef,undef,undef,undef,undef,undef,undef,undef,undef,undef,undef,undef,undef,undef,undef,undef,undef,undef],defers:=[] })
  (fun x a' W l o o' hl ho hc h=>by obtain⟨bx,h1,h2,h3⟩:=h;exact⟨bx,h1,(CTy.put ho hc).2 _ _ h2 rfl,h3⟩) ?assign ?body ?done ?stop
 case assign=>
  rintro l pre x W K hsz _ hX hK;dsimp only[encR,rwc]
  gi_wp2
  refine hK _ _ ?_ ⟨W.heap.size,by omega,heap_alloc_new _ _,rfl⟩;exact(Below.refl _ W).alloc (Nat.le_refl _) _
 case body=>
  rintro l pre x a' W ⟨⟨⟨v,hob,hOw⟩,hr0⟩,hbW⟩ hX ⟨bx,hbx,hbo,rfl⟩;have hbsz:=hbW.size;have Kb:=zAa hbo;have Kn:=zAa hr0;have hobl:=(eS hob);have hbl:=(eS hbo);have hal2:pre.length≤5000:=by obtain⟨rest,e⟩:=hX;have:=congrArg List.length e;simp at this;omega
  by_cases htl:x.till≤now
  ·have hdu:=duR_yes (l:=pre) htl
   have hdl:(duR now pre).length≤5000:=Nat.le_trans (zF8 now pre) hal2;have Kv:=zAa hob;have Fv:=zAd hob;obtain⟨sa,cap,rfl,_,_⟩:=(zCn hOw).slice;obtain⟨i0,hi,hz0,hz1,hz2⟩:=info_parts zMm;have la:Later W (W.alloc (.cells #[.int .u8 x.p,.int .u32 x.s,.int .u32 x.d,.int .u16 x.a,.int .u16 x.b,.int .i64 x.id,.int .i64 x.till,.int .i64 x.turn] 220)):=(Below.refl _ W).alloc (Nat.le_refl _) _;have hrowA:=zCj hOw la;have hnews:∀j u,[Value.int .u8 x.p,.int .u32 x.s,.int .u32 x.d,.int .u16 x.a,.int .u16 x.b,.int .i64 x.id,.int .i64 x.till,.int .i64 x.turn][j]? =some u→(W.alloc (.cells #[.int .u8 x.p,.int .u32 x.s,.int .u32 x.d,.int .u16 x.a,.int .u16 x.b,.int .i64 x.id,.int .i64 x.till,.int .i64 x.turn] 220)).cell? ((⟨W.heap.size,0,none⟩:Addr).add j)=some u:=zKm W [Value.int .u8 x.p,.int .u32 x.s,.int .u32 x.d,.int .u16 x.a,.int .u16 x.b,.int .i64 x.id,.int .i64 x.till,.int .i64 x.turn]
   have hbl2:∀r,(Value.slice sa (duR now pre).length cap).ownBlock=some r→∃cur,(W.alloc (.cells #[.int .u8 x.p,.int .u32 x.s,.int .u32 x.d,.int .u16 x.a,.int .u16 x.b,.int .i64 x.id,.int .i64 x.till,.int .i64 x.turn] 220)).heap[r]? =some (.cells cur 220 (0,0))∧w.heap.size+1+1+1≤r:=fun r hr=>by
    rcases hrowA.2 with⟨e,_⟩|⟨g,cp,cur,e,hg,hh,_⟩
    ·rw[e]at hr;cases hr
    ·rw[e]at hr;cases hr
     exact⟨cur,hh,hg⟩
   have HNW:=zAc hnews;have HRA:=zAc hrowA;have HB2:=zAc hbl2;have HDU:=zAc hdu;clear hnews hrowA hbl2 hOw hdu;gi_wp2_with (gi_at_builtin;refine wpListIn_append_own _ rfl (.tmp 21) (.tmp 23) 210 rfl (w.heap.size+1+1+1) 220 i0 (.agg #[.int .u8 0,.int .u32 0,.int .u32 0,.int .u16 0,.int .u16 0,.int .i64 0,.int .i64 0,.int .i64 0]) 8 40 Tryz.underlying210 hi hz0 hz1 hz2 rfl (by decide) _ (duR now pre).length (rws (duR now pre)) rfl HRA.out ⟨W.heap.size,0,none⟩ 1 1 [Value.int .u8 x.p,.int .u32 x.s,.int .u32 x.d,.int .u16 x.a,.int .u16 x.b,.int .i64 x.id,.int .i64 x.till,.int .i64 x.turn] rfl rfl HNW.out (by intro u hu;simp at hu;rcases hu with rfl|rfl|rfl|rfl|rfl|rfl|rfl|rfl<;>rfl) (by simp only[maxLen];omega) (by omega) (by simp;omega) ?_;intro v2 W2 hrow2 hg2 hnn;obtain⟨g2,cp2,rfl⟩:=ownsRow_succ hrow2;have hob2:=(hg2.block (w.heap.size+1) (by simp;omega) (fun e=>by obtain⟨_,_,h⟩:=HB2.out _ e.symm;omega)).trans ((Below.heap_alloc W _ (w.heap.size+1) hobl).trans hob);have Kv2:=zAa hob2;have Fv2:=zAd hob2)
   have hkeep:∀i o,W.heap[i]? =some o→some i≠(Value.slice sa (duR now pre).length cap).ownBlock→i≠w.heap.size+1→(W2.setCell ⟨w.heap.size+1,0,none⟩ (.slice (some ⟨g2,0,none⟩) ((duR now pre).length+1) cp2)).heap[i]? =some o:=fun i o hi h1 h2=>
    zKo ((hg2.block i (by have:=(eS hi);simp;omega) h1).trans ((Below.heap_alloc W _ i (eS hi)).trans hi)) h2
   have hsz2:W.heap.size+1≤W2.heap.size:=by have:=hg2.size;simpa using this
   have hown2:(W2.setCell ⟨w.heap.size+1,0,none⟩ (.slice (some ⟨g2,0,none⟩) ((duR now pre).length+1) cp2)).ownsRow (w.heap.size+1+1+1) 220 8 (.slice (some ⟨g2,0,none⟩) ((duR now pre).length+1) cp2) ((duR now pre).length+1) (rws (duR now pre)++rwc x):=by
    refine⟨hrow2.1,hrow2.2.imp id ?_⟩;rintro⟨g,cp,cur,e1,e2,e3,r⟩;exact⟨g,cp,cur,e1,e2,zKo e3 (by omega),r⟩
   have hbn:Below w.heap.size W (W2.setCell ⟨w.heap.size+1,0,none⟩ (.slice (some ⟨g2,0,none⟩) ((duR now pre).length+1) cp2)):=⟨hg2.os,hg2.tape,hg2.output,by simp;omega,fun i hi=>by
    cases hh:W.heap[i]? with
    |none=>have:=Array.getElem?_eq_none_iff.1 hh;omega
    |some o=>exact hkeep i o hh (fun e=>by obtain⟨_,_,h⟩:=HB2.out _ e.symm;omega) (by omega)⟩
   refine⟨⟨by simp;omega,fun i o hi ho hc=>hkeep i o ho (fun e=> ?_) (by omega)⟩,hbn,⟨⟨.slice (some ⟨g2,0,none⟩) ((duR now pre).length+1) cp2,zAh hob2 0 _,?_⟩,?_⟩,hbW.trans hbn⟩
   ·obtain ⟨c2,h2,_⟩:=HB2.out i e.symm
    rw[Below.heap_alloc W _ i (eS ho),ho]at h2;cases h2
    cases hc
   ·rw[HDU.out,List.length_append,List.length_singleton,rws_snoc]
    exact hown2
   ·exact hkeep _ _ hr0 (fun e=>by obtain⟨_,_,h⟩:=HB2.out _ e.symm;omega) (by omega)
  ·have hdu:=duR_no (l:=pre) htl
   have HDU:=zAc hdu;clear hdu;gi_wp2
   exact⟨KeepsFrom.refl _ _,Below.refl _ _,⟨⟨v,hob,by rw[HDU.out];exact hOw⟩,hr0⟩,hbW⟩
 case done=>
  rintro D xs W hD rfl ⟨⟨⟨v,h1,h2⟩,h3⟩,hbW⟩ hK;obtain⟨hl',hS⟩:=hS;have hbsz:=hbW.size;have K1:=zAa h1;have hdl:(duR now (zDf ls)).length≤5000:=Nat.le_trans (zF8 now _) hal;obtain⟨sa,cap,rfl,hcp,hcm⟩:=(zCn h2).slice;have HSO:=zAc (hS _ _ W h2)
  have hnb:∀i o,W.heap[i]? =some o→(o.isCells=false∨i<w.heap.size+1+1+1)→(Value.slice sa (duR now (zDf ls)).length cap).ownBlock≠some i:=fun i o ho hh e=>by
   rcases h2.2 with⟨e2,_⟩|⟨g,cp,cur,e2,hg,hgh,_⟩
   ·rw[e2]at e;cases e
   ·rw[e2]at e
    have e3:g=i:=by simpa[Value.ownBlock]using e
    subst e3;rcases hh with hh|hh
    ·rw[hgh]at ho;cases ho;cases hh
    ·omega
  generalize (duR now (zDf ls)).length=N at*;subst hl';gi_wp2
  refine⟨trivial,?_⟩;refine(callsIn_wide.2 HSO.out).mono ?_;rintro e W1 ⟨⟨u,rfl⟩,hr1,hbt1⟩;have h11:=(hbt1.block _ (eS h1) (hnb _ _ h1 (.inr (by omega)))).trans h1;have hD1:=(hbt1.block _ (eS hK) (hnb _ _ hK (.inl rfl))).trans hK
  have hb1:Below w.heap.size w W1:=hbW.trans (hbt1.below hbsz (fun k h e=>by
   rcases h2.2 with⟨e2,_⟩|⟨g,cp,cur,e2,hg,hgh,_⟩
   ·rw[e2]at e;cases e
   ·rw[e2]at e
    have e3:g=k:=by simpa[Value.ownBlock]using e
    omega))
  clear HSO h1 h2 hK hnb h3 K1 hbt1 hS;have K1:=zAa h11;gi_wp2
  obtain⟨i0,hi,hz0,hz1,hz2⟩:=info_parts zPt
  have hmk:(Instr.makeSlice 128 (.int .i64 (l'.length:Int)) (.int .i64 (l'.length:Int))).run Tryz.prog W1= .ok (.slice (some ⟨W1.heap.size,0,none⟩) l'.length l'.length) (W1.alloc (.cells (madeCells (Value.agg #[.int .u8 0,.int .u32 0,.int .u32 0,.int .u16 0,.int .u16 0]).cells (l'.length*5)) 103)):=by
   have:=run_make (P:=Tryz.prog) W1 128 103 i0 _ Tryz.underlying128 hi hz0 .i64 .i64 (l'.length:Int) (l'.length:Int) (by omega) (by omega) (by rw[hz2];omega) (by omega);rw[hz1]at this;simpa using this
  have hsz:(madeCells (Value.agg #[.int .u8 0,.int .u32 0,.int .u32 0,.int .u16 0,.int .u16 0]).cells (l'.length*5)).size=l'.length*5:=size_madeCells _ _;rw[hmk];clear hmk;generalize madeCells (Value.agg #[.int .u8 0,.int .u32 0,.int .u32 0,.int .u16 0,.int .u16 0]).cells (l'.length*5)=mk at*;have la:Later W1 (W1.alloc (.cells mk 103)):=bA _ _;have hgk:=heap_alloc_new W1 (.cells mk 103);have hV1:=zAb la h11;have hVD:=zAb la hD1;have hVr:=zCj hr1 la;have hbV:Below w.heap.size w (W1.alloc (.cells mk 103)):=hb1.trans (la.mono hb1.size);have hgsz:=hb1.size;clear h11 hD1 hr1 hb1 K1;generalize hgke:W1.heap.size=gk at*;generalize W1.alloc (.cells mk 103)=V at*;clear hgke la;have K1:=zAa hV1;gi_wp2
  clear K1;gi_loopw [32] (fun i wx=>∃k:Nat,k≤l'.length∧i= .int .i64 (k:Int)∧But (fun g=>g=gk) V wx∧∃rest:List Value,rest.length=(l'.length-k)*5∧wx.heap[gk]? =some (.cells (rks (l'.take k)++rest).toArray 103 (0,0))) (fun i _=>l'.length-(intOf i).toNat)
  case atStart=>exact⟨0,by omega,rfl,But.refl _ _,mk.toList,by simpa using hsz,by simpa[rks]using hgk⟩
  case round=>
   obtain⟨k,hk,rfl,hbk,rest,hrl,hgw⟩:=hrel;by_cases hkl:k<l'.length
   ·have hRw:RdR wr.heap.size wr (.slice sa l'.length cap) l':=by
     refine zCn (base:=w.heap.size+1+1+1) ⟨hVr.1,hVr.2.imp id ?_⟩;rintro⟨g,cp,cur,e1,e2,e3,r⟩;exact⟨g,cp,cur,e1,e2,(hbk.block g (eS e3) (fun e=>by rw[e,hgk]at e3;cases e3)).trans e3,r⟩
    obtain⟨g,off,cp,e,_,_,hgn,hcs⟩:=hRw.cells (by omega)
    simp at e
    obtain⟨rfl,rfl⟩:=e;have c0:=hcs k hkl 0 (by omega);have c1:=hcs k hkl 1 (by omega);have c2:=hcs k hkl 2 (by omega);have c3:=hcs k hkl 3 (by omega);have c4:=hcs k hkl 4 (by omega);have c5:=hcs k hkl 5 (by omega);have c6:=hcs k hkl 6 (by omega);have c7:=hcs k hkl 7 (by omega);have hkl':(k:Int)<l'.length:=by omega
    have htk:rks (l'.take (k+1))=rks (l'.take k)++rwk l'[k]:=by rw[←List.take_append_getElem hkl,rks_snoc]
    have hrk:(rks (l'.take k)).length=k*5:=by rw[zNy,List.length_take,Nat.min_eq_left hk]
    obtain⟨r0,r1,r2,r3,r4,rest',rfl⟩:∃r0 r1 r2 r3 r4 rest',rest=r0::r1::r2::r3::r4::rest':=by
     have h5:5≤rest.length:=by rw[hrl];omega
     match rest,h5 with
     |r0::r1::r2::r3::r4::rest',_=>exact⟨_,_,_,_,_,_,rfl⟩
    have hk5:∀j,wr.cell? ⟨gk,k*5+j,none⟩=(r0::r1::r2::r3::r4::rest')[j]? :=fun j=>by
     rw[zAa hgw,List.getElem?_toArray,List.getElem?_append_right (by omega),hrk,Nat.add_sub_cancel_left]
    have d0:=hk5 0;have d1:=hk5 1;have d2:=hk5 2;have d3:=hk5 3;have d4:=hk5 4;have Fg:=zAd hgw;have hgl:gk<wr.heap.size:=(eS hgw);clear hcs hk5;generalize hgo:l'[k]=r at*
    have hpt:(zAj wr gk (k*5) (rwk r)).heap[gk]? =some (.cells (rks (l'.take k)++(rwk r++rest')).toArray 103 (0,0)):=by
     have:=zC4 (rwk r) (rks (l'.take k)) [r0,r1,r2,r3,r4] rest' wr hgw rfl;rw[hrk]at this;exact this
    have hpb:But (fun g=>g=gk) V (zAj wr gk (k*5) (rwk r)):=zAf (E:=fun g=>g=gk) rfl _ _ _ _ hbk;have HPT:=zAc hpt;have HPB:=zAc hpb;clear hpt hpb;have HTK:=zAc htk;have HRK:=zAc hrk;have HRL:=zAc hrl;clear hgo htk hrk hrl;simp only[rwc,List.getElem?_cons_zero,List.getElem?_cons_succ,Nat.add_zero]at c0 c1 c2 c3 c4 c5 c6 c7 d0 d1 d2 d3 d4;gi_wp2
    go_roundw
    case rel=>
     refine⟨k+1,by omega,by go_num,(show But _ V (zAj wr gk (k*5) (rwk r))from HPB.out).trans (But.of (bA _ _)),rest',?_,?_⟩
     ·have:=HRL.out
      simp at this
      omega
     ·rw[HTK.out,List.append_assoc]
      exact(Below.heap_alloc (zAj wr gk (k*5) (rwk r)) _ gk (eS HPT.out)).trans HPT.out
    case measure=>simp[intOf];omega
   ·obtain rfl:k=l'.length:=by omega
    have hrD:wr.heap[D]? =some (.deferred (some [])):=(hbk.block D (eS hVD) (fun e=>by rw[e,hgk]at hVD;cases hVD)).trans hVD;obtain rfl:rest=[]:=List.length_eq_zero_iff.1 (by rw[hrl];simp);rw[List.take_length,List.append_nil]at hgw;have hbw:Below w.heap.size w wr:=hbV.trans (hbk.below hbV.size (fun k h e=>by omega));gi_wp2
    refine⟨by simp,.inl ⟨_,_,rfl,run_takeDeferred hrD,?_⟩⟩;exact⟨.slice (some ⟨gk,0,none⟩) l'.length l'.length,by simp[results,Tryz.results48,go_sem],hbw.trans (belowK_b (w:=w) (Nat.le_refl _) wr D _ _ (by omega) hrD rfl rfl),gk,rfl,by omega,(CTy.put (o':= .deferred none) hrD rfl).2 _ _ hgw rfl⟩
 case stop=>
  rintro D pre W hD hSp hF hK;exact hF.elim
def zAl (zs:List Int) (p:Int):Int:=if 0≤p∧p+2≤zs.length then wat zs p.toNat else 0
def zAt (zs:List Int) (p:Int):Int:=if 0≤p∧p+4≤zs.length then zAx zs p.toNat else 0
theorem zCo {n₀:Nat} (sv:Value)(zs:List Int)(hB:Mt.By zs)(p:Int)(w:World)(hI:Rd n₀ w sv zs):
  Calls Tryz.prog 39 #[sv,.int .i64 p] w fun e w'=>e= .returned (.int .u16 (zAl zs p))∧∃n,w'=w.drewN n:=by
 by_cases h:0≤p∧p+2≤zs.length
 ·obtain ⟨n,rfl⟩:=Int.eq_ofNat_of_zero_le h.1
  unfold zAl;rw[if_pos h,Int.toNat_natCast];exact zBh sv zs hB n (by omega) w hI
 ·unfold zAl
  rw[if_neg h];obtain⟨a,cap,rfl,h1,h2⟩:=hI.slice;exact(get16_no a zs.length cap p w (by omega) (by omega)).mono fun e w' ⟨he,hw⟩=>⟨he,0,hw⟩
theorem zEv {n₀:Nat} (sv:Value)(zs:List Int)(hB:Mt.By zs)(p:Int)(w:World)(hI:Rd n₀ w sv zs):
  Calls Tryz.prog 70 #[sv,.int .i64 p] w fun e w'=>e= .returned (.int .u32 (zAt zs p))∧∃n,w'=w.drewN n:=by
 by_cases h:0≤p∧p+4≤zs.length
 ·obtain ⟨n,rfl⟩:=Int.eq_ofNat_of_zero_le h.1
  unfold zAt;rw[if_pos h,Int.toNat_natCast];exact zDr sv zs hB n (by omega) w hI
 ·unfold zAt
  rw[if_neg h];obtain⟨a,cap,rfl,h1,h2⟩:=hI.slice;exact(get32_no a zs.length cap p w (by omega) (by omega)).mono fun e w' ⟨he,hw⟩=>⟨he,0,hw⟩
def HSt (tl:List Value) (t:TypeId) (ub:Nat) (N:Nat→Prop) (ys:List Int) (W:World):Prop:=
 ∃v,W.heap[ub]? =some (.cells (v::tl).toArray t (0,0))∧W.ownsRow (ub+1) 5 1 v ys.length (ys.map (Value.int .u8))∧∀b,v.ownBlock=some b→¬N b
theorem HSt.lt {tl:List Value} {t:TypeId} {ub:Nat} {N:Nat→Prop} {ys:List Int} {W:World} (h:HSt tl t ub N ys W):ub<W.heap.size:=by
 obtain⟨v,h1,_⟩:=h;exact(eS h1)
theorem HSt.alloc {tl:List Value} {t:TypeId} {ub:Nat} {N:Nat→Prop} {ys:List Int} {W:World} (h:HSt tl t ub N ys W)(o:Obj):HSt tl t ub (fun b=>N b∨b=W.heap.size) ys (W.alloc o):=by
 obtain⟨v,h1,h2,h3⟩:=h;exact⟨v,(Below.heap_alloc W o ub (eS h1)).trans h1,h2.alloc o,fun b hb hN=>hN.elim (h3 b hb) (fun e=>by have:=(h2.lt b hb).2;omega)⟩
theorem HSt.weaken {tl:List Value} {t:TypeId} {ub:Nat} {N N':Nat→Prop} {ys:List Int} {W:World} (h:HSt tl t ub N ys W)(hN:∀b,N' b→N b):HSt tl t ub N' ys W:=by
 obtain⟨v,h1,h2,h3⟩:=h;exact⟨v,h1,h2,fun b hb hn=>h3 b hb (hN b hn)⟩
theorem run_app3 {P:Program} (w:World)(t ty e:TypeId)(base:Nat)(i:TypeInfo)(ht:P.underlying t=some (.slice e))(hi:P.info? e=some i)(hz:i.zero=some (.int .u8 0))(hsize:i.size=1)(hby:i.bytes=1)
  (v:Value)(ys:List Int)(hown:w.ownsRow base e 1 v ys.length (ys.map (Value.int .u8)))
  (n₀:Nat)(sx:Value)(zs:List Int)(hI:Rd n₀ w sx zs)(hbd:ys.length+zs.length≤140737488355328)(hbase:base≤w.heap.size):
  ∃v' w',(Builtin.append_ #[t,t] ty #[v,sx]).run P w= .ok v' w'∧w'.ownsRow base e 1 v' (ys++zs).length ((ys++zs).map (Value.int .u8))∧w.grownBy w' v.ownBlock∧∀b,v'.ownBlock=some b→v.ownBlock=some b∨w.heap.size≤b:=by
 obtain⟨v',w',hr,h2,h3⟩:=zE2 (P:=P) w t ty e base i ht hi hz hsize hby v ys hown n₀ sx zs hI hbd hbase;refine⟨v',w',hr,h2,h3,?_⟩;rcases hown.2 with⟨rfl,hnil⟩|⟨g,cap,cur,rfl,hg,hh,hl,hm,hs,hc⟩
 ·have hy:ys=[]:=by simpa using hnil
  subst hy;obtain⟨v2,w2,hr2,h22,_⟩:=zE2 (P:=P) w t ty e w.heap.size i ht hi hz hsize hby (.slice none 0 0) [] (World.ownsRow_nil _ _ _ _) n₀ sx zs hI hbd (Nat.le_refl _);obtain⟨rfl,rfl⟩:v'=v2∧w'=w2:=by rw[hr]at hr2;simpa using hr2
  intro b hb
  exact .inr (h22.lt b hb).1
 ·rcases hI with⟨ao,cp,rfl,rfl,hm2,hn⟩|⟨b,off,cp,rfl,hne,hl2,hm2,hb2,hc2⟩
  ·have hv:v'= .slice (some ⟨g,0,none⟩) ys.length cap:=by
    cases ao with
    |none=>
     obtain rfl:=hn rfl;have:=run_append_owned_none w base t ty e i 1 ht hi _ _ _ hown;rw[hr]at this
     simp at this
     exact this.1
    |some ad=>
     have:=run_append_room_cells (P:=P) w t ty e i ht hi g 0 ys.length cap ad 0 cp [] (by simp) (fun j u hj=>by simp at hj) (fun u hu=>by simp at hu) (by omega) (fun j hj=>by simp at hj) (fun j hj=>by simp at hj);rw[hr]at this
     simp at this
     exact this.1
   subst hv;intro b hb
   exact .inl hb
  ·have hnews:∀j u,(zs.map (Value.int .u8))[j]? =some u→w.cell? ((⟨b,off,none⟩:Addr).add j)=some u:=fun j u hj=>by
    have hj':j<zs.length:=by have:=(List.getElem?_eq_some_iff.1 hj).1;simpa using this
    rw[show (⟨b,off,none⟩:Addr).add j=⟨b,off+j,none⟩from by unfold Addr.add;split<;>simp_all,hc2 j hj',←hj];simp[hj']
   by_cases hroom:ys.length+zs.length≤cap
   ·have:=run_append_room_cells (P:=P) w t ty e i ht hi g 0 ys.length cap ⟨b,off,none⟩ zs.length cp (zs.map (Value.int .u8)) (by rw[hsize];simp) hnews (fun u hu=>by obtain⟨z,_,rfl⟩:=List.mem_map.1 hu;rfl) hroom
     (fun j hj=>by rw[zAa hh,hsize];simp at hj;simp;omega) (fun j hj=>by rw[zAd hh])
    rw[hr]at this
    simp at this
    obtain⟨rfl,_⟩:=this;intro b' hb'
    exact .inl hb'
   ·obtain ⟨v2,w2,hr2,h22,_⟩:=run_append_arg_grows (P:=P) w t ty e i (.int .u8 0) 1 1 ht hi hz hsize hby rfl (by decide) ⟨g,0,none⟩ ys.length cap (ys.map (Value.int .u8)) (by simp)
     (fun j u hj=>by
      have hj':j<ys.length:=by have:=(List.getElem?_eq_some_iff.1 hj).1;simpa using this
      rw[show (⟨g,0,none⟩:Addr).add j=⟨g,j,none⟩from by unfold Addr.add;split<;>simp_all,zAa hh];have h5:=congrArg (·[j]?) hc;simp only[Nat.mul_one]at h5;rw[List.getElem?_take_of_lt (by omega)]at h5;rw[←hj,←h5];simp)
     ⟨b,off,none⟩ zs.length cp (zs.map (Value.int .u8)) (by simp) hnews (by omega) (by unfold maxLen;omega) (by omega)
    obtain⟨rfl,rfl⟩:v'=v2∧w'=w2:=by rw[hr]at hr2;simpa using hr2
    intro b' hb'
    exact .inr (h22.lt b' hb').1
theorem zKp {P:Program} {ops:Array Oper} {rest:List Oper} {o:Oper} {a:Act} {Q:Exit→Act→World→Prop} (w:World)(hgd:o.guard=none)(s x:Operand)(t:TypeId)
  (ho:o.op= .call { callee:= .builtin .append,args:=#[s,x],argTypes:=#[t,t] })
  (base:Nat)(e:TypeId)(i:TypeInfo)(ht:P.underlying t=some (.slice e))(hi:P.info? e=some i)(hz:i.zero=some (.int .u8 0))(hsize:i.size=1)(hby:i.bytes=1)
  (v:Value)(ys:List Int)(hs:a.eval s=v)(hown:w.ownsRow base e 1 v ys.length (ys.map (Value.int .u8)))
  (n₀:Nat)(sx:Value)(zs:List Int)(hx:a.eval x=sx)(hI:Rd n₀ w sx zs)(hbd:ys.length+zs.length≤140737488355328)(hbase:base≤w.heap.size)
  (h:∀v' w',w'.ownsRow base e 1 v' (ys++zs).length ((ys++zs).map (Value.int .u8))→w.grownBy w' v.ownBlock→(∀b,v'.ownBlock=some b→v.ownBlock=some b∨w.heap.size≤b)→wpList P ops Q rest (a.put o.dst v') w'):wpList P ops Q (o::rest) a w:=by
 obtain⟨v',w',hr,h2,h3,h4⟩:=run_app3 (P:=P) w t o.type e base i ht hi hz hsize hby v ys hown n₀ sx zs hI hbd hbase;exact wpList_plain hgd fun K hK=>zEl s x t ho v sx hs hx v' w' hr (hK _ _ (h v' w' h2 h3 h4))
theorem zCt(tl:List Value)(t:TypeId)(ub:Nat)(N:Nat→Prop)(ys:List Int)(sx:Value)(zs:List Int)(n₀:Nat)(w:World)(h:HSt tl t ub N ys w)(hN:∀b,N b→b<w.heap.size∧b≠ub)(hI:Rd n₀ w sx zs)(hl:ys.length+zs.length≤140737488355328):
  Calls Tryz.prog 60 #[.pointer (some ⟨ub,0,none⟩),sx] w fun e w'=>e= .returned (.tuple #[])∧HSt tl t ub N (ys++zs) w'∧But (fun b=>ub≤b∧¬N b) w w':=by
 obtain⟨i0,hi,hz0,hz1,hz2⟩:=info_parts zBi;obtain⟨v,hu,hown,hnb⟩:=h;have C0:=zAa hu 0
 simp at C0
 have hub:ub<w.heap.size:=(eS hu);obtain⟨ax,cx,rfl,_,_⟩:=hI.slice;obtain⟨av,cv,rfl,_,_⟩:=(Ow.of_row hown).slice;go_enter Tryz.func60,Tryz.ntmps60;go_wp2_with (at_builtin;refine zKp _ rfl (.tmp 8) (.tmp 9) 26 rfl (ub+1) 5 i0 Tryz.underlying26 hi hz0 hz1 hz2 _ ys rfl hown n₀ _ zs rfl hI hl hub ?_;intro v1 w1 hown1 hg1 hv1;have hu1:=(hg1.block ub hub (fun e=>by have:=(hown.lt ub e.symm).1;omega)).trans hu;have C1:=zAa hu1 0;have F1:=zAd hu1 0;simp at C1;obtain⟨a1,c1,rfl,_,_⟩:=(Ow.of_row hown1).slice)
 have hu2:(w1.setCell ⟨ub,0,none⟩ (.slice a1 (ys++zs).length c1)).heap[ub]? =some (.cells (.slice a1 (ys++zs).length c1::tl).toArray t (0,0)):=by
  have:=zAh hu1 0 (.slice a1 (ys++zs).length c1);simpa using this
 have hvN:∀b,(Value.slice a1 (ys++zs).length c1).ownBlock=some b→¬N b:=by
  intro b hb hn
  rcases hv1 b hb with h|h
  ·exact hnb b h hn
  ·have:=(hN b hn).1;omega
 have hb1:But (fun b=>ub≤b∧¬N b) w (w1.setCell ⟨ub,0,none⟩ (.slice a1 (ys++zs).length c1)):=by
  have h0:But (fun b=>ub≤b∧¬N b) w w1:=⟨hg1.os,hg1.tape,hg1.output,hg1.size,fun k hk hE=>hg1.block k hk (fun e=>hE ⟨by have:=(hown.lt k e.symm).1;omega,hnb k e.symm⟩)⟩;exact h0.setCell (p:=⟨ub,0,none⟩) ⟨Nat.le_refl _,fun hn=>(hN ub hn).2 rfl⟩ _
 have hown2:(w1.setCell ⟨ub,0,none⟩ (.slice a1 (ys++zs).length c1)).ownsRow (ub+1) 5 1 (.slice a1 (ys++zs).length c1) (ys++zs).length ((ys++zs).map (Value.int .u8)):=by
  obtain⟨q1,q2⟩:=hown1;refine⟨q1,q2.imp id ?_⟩;rintro⟨g,cap,cur,e,hg,hh,r⟩;exact⟨g,cap,cur,e,hg,(Below.heap_setCell w1 ⟨ub,0,none⟩ _ g (by simp;omega)).trans hh,r⟩
 go_end0
 rw[←List.length_append];exact⟨rfl,⟨_,hu2,hown2,hvN⟩,hb1⟩
def b2 (n:Int):List Int:=[n/256,n % 256]
def b4 (n:Int):List Int:=[n/65536/256,n/65536 % 256,n % 65536/256,n % 65536 % 256]
theorem zIb {α:Type} (f:Int→List α)(ns:List Int)(k:Nat)(h:k<ns.length):(ns.take (k+1)).flatMap f=(ns.take k).flatMap f++f (ns[k]?.getD 0):=by
 rw[List.take_succ_eq_append_getElem h,List.flatMap_append];simp[h]
theorem b2_len(ns:List Int):(ns.flatMap b2).length=2*ns.length:=by
 induction ns with
 |nil=>rfl
 |cons a r ih=>simp[List.flatMap_cons,b2]at ih⊢;omega
theorem b4_len(ns:List Int):(ns.flatMap b4).length=4*ns.length:=by
 induction ns with
 |nil=>rfl
 |cons a r ih=>simp[List.flatMap_cons,b4]at ih⊢;omega
theorem zEd(tl:List Value)(t tn:TypeId)(ub nb cap:Nat)(N:Nat→Prop)(ys ns:List Int)(w:World)(h:HSt tl t ub N ys w)(hN:∀b,N b→b<w.heap.size∧b≠ub)(hn:N nb)
  (hnb:w.heap[nb]? =some (.cells (ns.map (Value.int .u16)).toArray tn (0,0)))(hbd:∀n∈ns,0≤n∧n≤65535)(hl:ys.length+2*ns.length≤140737488355328)(hcap:ns.length≤cap):
  Calls Tryz.prog 58 #[.pointer (some ⟨ub,0,none⟩),.slice (some ⟨nb,0,none⟩) ns.length cap] w fun e w'=>e= .returned (.tuple #[])∧HSt tl t ub N (ys++ns.flatMap b2) w'∧But (fun b=>ub≤b∧¬N b) w w':=by
 have hnl:=(eS hnb);go_enter Tryz.func58,Tryz.ntmps58;go_wp2
 go_loopw [8] (fun i wr=>∃k:Nat,k≤ns.length∧i= .int .i64 (k:Int)∧HSt tl t ub N (ys++(ns.take k).flatMap b2) wr∧But (fun b=>ub≤b∧¬N b) w wr)
  (fun i _=>ns.length-(intOf i).toNat)
 case atStart=>exact⟨0,by omega,rfl,by simpa using h,But.refl _ _⟩
 case round=>
  obtain⟨k,hk,rfl,hH,hB⟩:=hrel;by_cases hlt:k<ns.length
  ·have hc:wr.cell? ⟨nb,k,none⟩=some (.int .u16 (ns[k]?.getD 0)):=by
    rw[zAa ((hB.block nb hnl (fun e=>e.2 hn)).trans hnb)];simp[hlt]
   have hz:0≤ns[k]?.getD 0∧ns[k]?.getD 0≤65535:=by
    have:=hbd ns[k] (List.getElem_mem hlt);simpa[hlt]using this
   have HF:=zAc (zIb b2 ns k hlt);have hlen:((ys++(ns.take k).flatMap b2)).length+2≤140737488355328:=by rw[List.length_append,b2_len,List.length_take];omega
   generalize ns[k]?.getD 0=z at*;have hlt':(k:Int)<ns.length:=by omega
   have hA:Later wr (wr.alloc (.cells #[.int .u8 (z/256),.int .u8 (z % 256)] 5)):=bA _ _;have hHA:=(hH.alloc (.cells #[.int .u8 (z/256),.int .u8 (z % 256)] 5)).weaken (N':=N) (fun b hb=> .inl hb);have hR:=Rd.new2 (z/256) (z % 256) 5 wr;go_wp2_with fail;generalize wr.alloc (.cells #[.int .u8 (z/256),.int .u8 (z % 256)] 5)=w1 at*;refine(zCt tl t ub N _ _ [z/256,z % 256] _ w1 hHA (fun b hb=>⟨Nat.lt_of_lt_of_le (hN b hb).1 (Nat.le_trans hB.size hA.size),(hN b hb).2⟩) hR hlen).mono ?_;rintro e w2 ⟨rfl,hH2,hB2⟩;go_wp2_with fail;go_roundw
   case rel=>exact⟨k+1,by omega,by go_num,by rw[HF.out,←List.append_assoc];exact hH2,(hB.trans (But.of hA)).trans hB2⟩
   case measure=>simp[intOf];omega
  ·obtain rfl:k=ns.length:=by omega
   rw[List.take_length]at hH;go_wp2
   go_end0
   exact⟨rfl,hH,hB⟩
theorem zNz(tl:List Value)(t tn:TypeId)(ub nb cap:Nat)(N:Nat→Prop)(ys ns:List Int)(w:World)(h:HSt tl t ub N ys w)(hN:∀b,N b→b<w.heap.size∧b≠ub)(hn:N nb)
  (hnb:w.heap[nb]? =some (.cells (ns.map (Value.int .u32)).toArray tn (0,0)))(hbd:∀n∈ns,0≤n∧n≤4294967295)(hl:ys.length+4*ns.length≤140737488355328)(hcap:ns.length≤cap):
  Calls Tryz.prog 59 #[.pointer (some ⟨ub,0,none⟩),.slice (some ⟨nb,0,none⟩) ns.length cap] w fun e w'=>e= .returned (.tuple #[])∧HSt tl t ub N (ys++ns.flatMap b4) w'∧But (fun b=>ub≤b∧¬N b) w w':=by
 have hnl:=(eS hnb);go_enter Tryz.func59,Tryz.ntmps59;go_wp2
 go_loopw [8] (fun i wr=>∃k:Nat,k≤ns.length∧i= .int .i64 (k:Int)∧HSt tl t ub N (ys++(ns.take k).flatMap b4) wr∧But (fun b=>ub≤b∧¬N b) w wr)
  (fun i _=>ns.length-(intOf i).toNat)
 case atStart=>exact⟨0,by omega,rfl,by simpa using h,But.refl _ _⟩
 case round=>
  obtain⟨k,hk,rfl,hH,hB⟩:=hrel;by_cases hlt:k<ns.length
  ·have hc:wr.cell? ⟨nb,k,none⟩=some (.int .u32 (ns[k]?.getD 0)):=by
    rw[zAa ((hB.block nb hnl (fun e=>e.2 hn)).trans hnb)];simp[hlt]
   have hz:0≤ns[k]?.getD 0∧ns[k]?.getD 0≤4294967295:=by
    have:=hbd ns[k] (List.getElem_mem hlt);simpa[hlt]using this
   have HF:=zAc (zIb b4 ns k hlt);have hlen:((ys++(ns.take k).flatMap b4)).length+2* [ns[k]?.getD 0/65536,ns[k]?.getD 0 % 65536].length≤140737488355328:=by rw[List.length_append,b4_len,List.length_take];simp;omega
   generalize ns[k]?.getD 0=z at*;have hlt':(k:Int)<ns.length:=by omega
   have hA:Later wr (wr.alloc (.cells #[.int .u16 (z/65536),.int .u16 (z % 65536)] 22)):=bA _ _;have hHA:=hH.alloc (.cells #[.int .u16 (z/65536),.int .u16 (z % 65536)] 22);have hkA:=heap_alloc_new wr (.cells #[.int .u16 (z/65536),.int .u16 (z % 65536)] 22);have hub:=hH.lt;go_wp2_with fail;rw[IntKind.wrap_u16];have hsz:(wr.alloc (.cells #[.int .u16 (z/65536),.int .u16 (z % 65536)] 22)).heap.size=wr.heap.size+1:=by simp
   have HSZ:=zAc hsz;clear hsz;generalize wr.alloc (.cells #[.int .u16 (z/65536),.int .u16 (z % 65536)] 22)=w1 at*;refine(zEd tl t 22 ub wr.heap.size 2 (fun b=>N b∨b=wr.heap.size) _ [z/65536,z % 65536] w1 hHA (fun b hb=>hb.elim (fun hb=>⟨Nat.lt_of_lt_of_le (hN b hb).1 (Nat.le_trans hB.size hA.size),(hN b hb).2⟩) (fun e=>by subst e;exact⟨by have:=HSZ.out;omega,by omega⟩)) (.inr rfl) hkA (fun n hn=>by simp at hn;rcases hn with rfl|rfl<;>omega) hlen (by simp)).mono ?_;rintro e w2 ⟨rfl,hH2,hB2⟩;go_wp2_with fail;go_roundw
   case rel=>exact⟨k+1,by omega,by go_num,by rw[HF.out,←List.append_assoc];exact hH2.weaken (fun b hb=> .inl hb),(hB.trans (But.of hA)).trans ⟨hB2.os,hB2.tape,hB2.output,hB2.size,fun b hb hE=>hB2.block b hb (fun h=>hE ⟨h.1,fun hn=>h.2 (.inl hn)⟩)⟩⟩
   case measure=>simp[intOf];omega
  ·obtain rfl:k=ns.length:=by omega
   rw[List.take_length]at hH;go_wp2
   go_end0
   exact⟨rfl,hH,hB⟩
theorem make2(w:World):(Instr.makeSlice 26 (.int .i64 2) (.int .i64 2)).run Tryz.prog w= .ok (.slice (some ⟨w.heap.size,0,none⟩) 2 2) (w.alloc (.cells #[.int .u8 0,.int .u8 0] 5)):=by kernel_rfl
theorem make4(w:World):(Instr.makeSlice 26 (.int .i64 4) (.int .i64 4)).run Tryz.prog w= .ok (.slice (some ⟨w.heap.size,0,none⟩) 4 4) (w.alloc (.cells #[.int .u8 0,.int .u8 0,.int .u8 0,.int .u8 0] 5)):=by kernel_rfl
theorem zMn(v:Int)(hv:0≤v∧v≤65535)(w:World):
  Calls Tryz.prog 87 #[.int .u16 v] w fun e w'=>∃a,e= .returned (.slice a 2 2)∧Ow w.heap.size w' (.slice a 2 2) [v/256,v % 256]∧Below w.heap.size w w':=by
 have hm:=make2 w;have hb0:Below w.heap.size w (w.alloc (.cells #[.int .u8 0,.int .u8 0] 5)):=(Below.refl _ w).alloc (Nat.le_refl _) _;go_enter Tryz.func87,Tryz.ntmps87;go_wp2_with fail;refine(zBf _ [0,0] 0 v _ (by simp) (by exact(Rd.new2 0 0 5 w).mono (by simp)) hv).mono ?_;rintro e w1 ⟨a,rfl,hO,hb1⟩;rw[zAv _ 0 0 _ rfl (by simp)]at hO;go_wp2
 go_ret
 exact⟨a,rfl,hO.mono (by simp),hb0.trans (hb1.mono (by simp))⟩
theorem zIc(v:Int)(hv:0≤v∧v≤4294967295)(w:World):
  Calls Tryz.prog 85 #[.int .u32 v] w fun e w'=>∃a,e= .returned (.slice a 4 4)∧Ow w.heap.size w' (.slice a 4 4) [v/65536/256,v/65536 % 256,v % 65536/256,v % 65536 % 256]∧Below w.heap.size w w':=by
 have hm:=make4 w;have hb0:Below w.heap.size w (w.alloc (.cells #[.int .u8 0,.int .u8 0,.int .u8 0,.int .u8 0] 5)):=(Below.refl _ w).alloc (Nat.le_refl _) _;go_enter Tryz.func85,Tryz.ntmps85;go_wp2_with fail;refine(zCs _ [0,0,0,0] 0 v _ (by simp) (by exact(Rd.new4 0 0 0 0 5 w).mono (by simp)) hv).mono ?_;rintro e w1 ⟨a,rfl,hO,hb1⟩;rw[zCi _ 0 0 _ rfl (by simp)]at hO;go_wp2
 go_ret
 exact⟨a,rfl,hO.mono (by simp),hb0.trans (hb1.mono (by simp))⟩
theorem eql_nil(w:World):(binOp .eql 26 (.slice none 0 0) (.slice none 0 0)).run Tryz.prog w= .ok (.bool true) w:=by kernel_rfl
theorem eql_some(w:World)(ad:Addr)(n c:Nat):(binOp .eql 26 (.slice (some ad) n c) (.slice none 0 0)).run Tryz.prog w= .ok (.bool false) w:=by kernel_rfl
theorem zBd(sv:Value)(zs:List Int)(w:World)(hl:zs.length≤140737488355328)(hI:Rd w.heap.size w sv zs):
  Calls Tryz.prog 71 #[sv] w fun e w'=>∃a cap,e= .returned (.slice a zs.length cap)∧Ow w.heap.size w' (.slice a zs.length cap) zs∧Below w.heap.size w w':=by
 obtain⟨i0,hi,hz0,hz1,hz2⟩:=info_parts zBi;have hb0:Below w.heap.size w (w.alloc (.cells #[] 5)):=(Below.refl _ w).alloc (Nat.le_refl _) _;have hR1:=hI.below hb0;obtain⟨a,cap,rfl,hl1,hm1⟩:=hI.slice;cases a with
 | none=>
  obtain⟨rfl,rfl⟩:zs=[]∧cap=0:=by
   rcases hI with⟨a,cap',e,hz,_,hn⟩|⟨_,_,_,e,_⟩
   ·have e1:=e
    simp at e1
    obtain⟨rfl,_,rfl⟩:=e1;exact⟨hz,hn rfl⟩
   ·simp at e
  have hq:=eql_nil w;go_enter Tryz.func71,Tryz.ntmps71;go_wp2
  go_ret
  exact⟨none,0,rfl,.inl ⟨rfl,rfl⟩,Below.refl _ _⟩
 |some ad=>
  have hq:=eql_some w ad zs.length cap;go_enter Tryz.func71,Tryz.ntmps71;go_wp2_with (at_builtin;refine zD8 _ rfl (.tmp 5) (.tmp 6) 26 rfl w.heap.size 5 i0 Tryz.underlying26 hi hz0 hz1 hz2 _ [] rfl (zHz w _) w.heap.size _ zs rfl hR1 (by simp;omega) (by simp) ?_;intro v0 w0 hown0 hg0;have hbw0:=zEz hb0 (zHz w _) hg0 (Nat.le_refl _) hb0.size;clear hg0;have hO0:=Ow.of_row hown0;clear hown0;simp only[List.nil_append]at hO0;obtain⟨a0,cap0,rfl,hp0,hm0⟩:=hO0.slice)
  go_ret
  exact⟨a0,cap0,rfl,hO0,hbw0⟩
theorem zN0(pb cap:Nat)(svs:List Value)(zss:List (List Int))(w:World)(hn:svs.length=zss.length)(hcap:svs.length≤cap)(hk:svs.length≤1000)(hl:zss.flatten.length≤140737488355328)
  (hc:∀j,j<svs.length→w.cell? ⟨pb,j,none⟩=some (svs[j]?.getD undef))(hR:∀j,j<svs.length→Rd w.heap.size w (svs[j]?.getD undef) (zss[j]?.getD [])):
  Calls Tryz.prog 84 #[.slice (some ⟨pb,0,none⟩) svs.length cap] w fun e w'=>∃v,e= .returned v∧w'.ownsRow w.heap.size 5 1 v zss.flatten.length (zss.flatten.map (Value.int .u8))∧Below w.heap.size w w':=by
 obtain⟨i0,hi,hz0,hz1,hz2⟩:=info_parts zBi;have HN:=zAc hn;clear hn;go_enter Tryz.func84,Tryz.ntmps84;go_wp2
 go_loopw [3,8] (fun v i wr=>∃k:Nat,k≤svs.length∧i= .int .i64 (k:Int)∧wr.ownsRow w.heap.size 5 1 v (zss.take k).flatten.length ((zss.take k).flatten.map (Value.int .u8))∧Below w.heap.size w wr)
  (fun _ i _=>svs.length-(intOf i).toNat)
 case atStart=>exact⟨0,by omega,rfl,World.ownsRow_nil _ _ _ _,Below.refl _ _⟩
 case round=>
  obtain⟨k,hk1,rfl,hown,hnx⟩:=hrel;by_cases hlt:k<svs.length
  ·have hck:=hc k hlt
   have hpb:pb<w.heap.size:=World.block_lt_of_cell? w ⟨pb,k,none⟩ hck;have hcx:wr.cell? ⟨pb,k,none⟩=some (svs[k]?.getD undef):=(hnx.cell (p:=⟨pb,k,none⟩) hpb).trans hck;have hRx:Rd w.heap.size wr (svs[k]?.getD undef) (zss[k]?.getD []):=(hR k hlt).below hnx
   have hfl:(zss.take (k+1)).flatten=(zss.take k).flatten++(zss[k]?.getD []):=by
    have hkz:k<zss.length:=by have:=HN.out;omega
    have e1:zss.take (k+1)=zss.take k++[zss[k]?.getD []]:=by
     rw[List.take_succ_eq_append_getElem hkz,List.getElem?_eq_getElem hkz];rfl
    rw[e1,List.flatten_append,List.flatten_cons,List.flatten_nil,List.append_nil]
   have hle:(zss.take (k+1)).flatten.length≤zss.flatten.length:=by
    conv=>rhs;rw[←List.take_append_drop (k+1) zss,List.flatten_append]
    simp
   have HF:=zAc hfl;have hlen:(zss.take k).flatten.length+(zss[k]?.getD []).length≤140737488355328:=by rw[←List.length_append,←hfl];omega
   clear hfl hle hc hR hck;generalize svs[k]?.getD undef=sv at*;generalize zss[k]?.getD []=zs at*;obtain⟨a,cp,rfl,hl1,hm1⟩:=hRx.slice;have hlt':(k:Int)<svs.length:=by omega
   go_wp2_with (at_builtin;refine zD8 _ rfl (.tmp 12) (.tmp 13) 26 rfl w.heap.size 5 i0 Tryz.underlying26 hi hz0 hz1 hz2 _ _ rfl hown w.heap.size _ zs rfl hRx hlen hnx.size ?_;intro v1 w1 hown1 hg1;have hb1:=zEz hnx hown hg1 (Nat.le_refl _) hnx.size;clear hg1 hown)
   go_roundw
   case rel=>exact⟨k+1,by omega,by go_num,by rw[HF.out];exact hown1,hb1⟩
   case measure=>simp[intOf];omega
  ·obtain rfl:k=svs.length:=by omega
   rw[HN.out,List.take_length]at hown;go_wp2
   go_ret
   exact⟨_,rfl,hown,hnx⟩
def Rds (n₀:Nat) (W:World):List Value→List (List Int)→Prop
 | [],[]=>True
 |v::vs,z::zs=>Rd n₀ W v z∧Rds n₀ W vs zs
 |_,_=>False
theorem Rds.length {n₀:Nat} {W:World} :∀ {vs:List Value} {zs:List (List Int)},Rds n₀ W vs zs→vs.length=zs.length
 | [],[],_=>rfl
 |_::_,_::_,h=>by simp[h.2.length]
 | [],_::_,h=>h.elim
 |_::_,[],h=>h.elim
theorem Rds.at {n₀:Nat} {W:World} :∀ {vs:List Value} {zs:List (List Int)},Rds n₀ W vs zs→∀j,j<vs.length→Rd n₀ W (vs[j]?.getD undef) (zs[j]?.getD [])
 |_::_,_::_,h,0,_=>h.1
 |_::_,_::_,h,j+1,hj=>by simpa using h.2.at j (by simpa using hj)
 | [],_,_,_,hj=>by simp at hj
 |_::_,[],h,_,_=>h.elim
theorem rows_of {W:World} {pb:Nat} {t:TypeId} {l:List Value} (h:W.heap[pb]? =some (.cells l.toArray t (0,0))):∀j,j<l.length→W.cell? ⟨pb,j,none⟩=some (l[j]?.getD undef):=by
 intro j hj
 rw[zAa h];simp[hj]
theorem zEe(pb:Nat)(t:TypeId)(svs:List Value)(zss:List (List Int))(w:World)(hb:w.heap[pb]? =some (.cells svs.toArray t (0,0)))(hR:Rds w.heap.size w svs zss)(hk:svs.length≤1000)(hl:zss.flatten.length≤140737488355328):
  Calls Tryz.prog 84 #[.slice (some ⟨pb,0,none⟩) svs.length svs.length] w fun e w'=>∃v,e= .returned v∧w'.ownsRow w.heap.size 5 1 v zss.flatten.length (zss.flatten.map (Value.int .u8))∧Below w.heap.size w w':=
 zN0 pb svs.length svs zss w hR.length (Nat.le_refl _) hk hl (rows_of hb) hR.at
theorem zDv {W:World} {n:Nat} {t:TypeId} (v0 v1 v2 v3 v4 v5 v6 v7 v8 x4 x7 x8:Value)(h:W.heap[n]? =some (.cells #[v0,v1,v2,v3,v4,v5,v6,v7,v8] t (0,0))):
  (((W.setCell ⟨n,4,none⟩ x4).setCell ⟨n,7,none⟩ x7).setCell ⟨n,8,none⟩ x8).heap[n]? =some (.cells #[v0,v1,v2,v3,x4,v5,v6,x7,x8] t (0,0)):=zAh (zAh (zAh h 4 x4) 7 x7) 8 x8
abbrev zcc:List Value:=[.int .u8 0,.int .u16 0,.bool false,.int .u8 0,.int .u8 0,.int .u32 0,.int .u32 0,.slice none 0 0,.slice none 0 0]
theorem zKq(tos id ttl proto src dst np:Int)(keep:Bool)(so sd sd':Value)(zo zd:List Int)(w:World)(hBo:Mt.By zo)(hIo:Rd w.heap.size w so zo)(hId:Rd w.heap.size w sd' zd)
  (hlo:zo.length≤40)(hlm:zo.length % 4=0)(hall:20+zo.length+zd.length≤65535)(ht:0≤tos∧tos≤255)(hid:0≤id∧id≤65535)(htt:0≤ttl∧ttl≤255)(hpr:0≤np∧np≤255)(hsr:0≤src∧src≤4294967295)(hds:0≤dst∧dst≤4294967295):
  Calls Tryz.prog 86 #[.agg #[.int .u8 tos,.int .u16 id,.bool keep,.int .u8 ttl,.int .u8 proto,.int .u32 src,.int .u32 dst,so,sd],.int .u8 np,sd'] w fun e w'=>∃ao co,e= .returned (.tuple #[.agg #[.int .u8 tos,.int .u16 id,.bool keep,.int .u8 ttl,.int .u8 np,.int .u32 src,.int .u32 dst,.slice ao zo.length co,sd'],.int .i64 0])∧Ow w.heap.size w' (.slice ao zo.length co) zo∧Below w.heap.size w w':=by
 obtain⟨ao,co,rfl,hl1,hm1⟩:=hIo.slice;obtain⟨ad,cd,rfl,hl2,hm2⟩:=hId.slice;have hb0:Below w.heap.size w ((w.alloc (.cells #[.int .u8 tos,.int .u16 id,.bool keep,.int .u8 ttl,.int .u8 proto,.int .u32 src,.int .u32 dst,.slice ao zo.length co,sd] 40)).alloc (.cells zcc.toArray 40)):=(bA _ _).alloc (by simp) _;have p0:((w.alloc (.cells #[.int .u8 tos,.int .u16 id,.bool keep,.int .u8 ttl,.int .u8 proto,.int .u32 src,.int .u32 dst,.slice ao zo.length co,sd] 40)).alloc (.cells zcc.toArray 40)).heap[w.heap.size]? =some (.cells #[.int .u8 tos,.int .u16 id,.bool keep,.int .u8 ttl,.int .u8 proto,.int .u32 src,.int .u32 dst,.slice ao zo.length co,sd] 40):=(Below.heap_alloc _ _ _ (by simp)).trans (heap_alloc_new w _);have q0:((w.alloc (.cells #[.int .u8 tos,.int .u16 id,.bool keep,.int .u8 ttl,.int .u8 proto,.int .u32 src,.int .u32 dst,.slice ao zo.length co,sd] 40)).alloc (.cells zcc.toArray 40)).heap[w.heap.size+1]? =some (.cells zcc.toArray 40 (0,0)):=by have:=heap_alloc_new (w.alloc (.cells #[.int .u8 tos,.int .u16 id,.bool keep,.int .u8 ttl,.int .u8 proto,.int .u32 src,.int .u32 dst,.slice ao zo.length co,sd] 40)) (.cells zcc.toArray 40);simpa using this
 have P0:=zAc p0;have Q0:=zAc q0;clear p0 q0;go_enter Tryz.func86,Tryz.ntmps86;go_wp2_with fail;refine(zBd _ zo _ (by omega) ((hIo.below hb0).mono (by simp;omega))).mono ?_;rintro e w1 ⟨a1,c1,rfl,hO1,hb1⟩;have p1:=(hb1.block w.heap.size (by simp;omega)).trans P0.out;have q1:=(hb1.block (w.heap.size+1) (by simp)).trans Q0.out;have K1:=zAa p1;have F1:=zAd p1;have hw1:=hb0.trans (hb1.mono (by simp;omega));have p2:=zDv _ _ _ _ _ _ _ _ _ (.int .u8 np) (.slice a1 zo.length c1) (.slice ad zd.length cd) p1;go_wp2_with fail;have hE:But (fun b=>b=w.heap.size) w1 (((w1.setCell ⟨w.heap.size,4,none⟩ (.int .u8 np)).setCell ⟨w.heap.size,7,none⟩ (.slice a1 zo.length c1)).setCell ⟨w.heap.size,8,none⟩ (.slice ad zd.length cd)):=(((But.refl (fun b=>b=w.heap.size) w1).setCell (p:=⟨w.heap.size,4,none⟩) rfl _).setCell (p:=⟨w.heap.size,7,none⟩) rfl _).setCell (p:=⟨w.heap.size,8,none⟩) rfl _;have hs1:w.heap.size+2≤w1.heap.size:=by have:=hb1.size;simp at this;omega
 generalize ((w1.setCell ⟨w.heap.size,4,none⟩ (.int .u8 np)).setCell ⟨w.heap.size,7,none⟩ (.slice a1 zo.length c1)).setCell ⟨w.heap.size,8,none⟩ (.slice ad zd.length cd)=V at*;have hOV:=hO1.but hE (fun b h e=>by simp at h;omega);have hwV:Below w.heap.size w V:=hw1.trans (hE.below (by omega) (fun k h e=>by omega));have qV:=(hE.block (w.heap.size+1) (by omega) (by omega)).trans q1;refine(zCg tos id ttl np src dst keep _ _ zo zd _ hBo hOV.rd ((hId.below hwV).mono hwV.size) hlo hlm hall ht hid htt hpr hsr hds).mono ?_;rintro e w2 ⟨v2,rfl,hO2,hb2⟩;have p3:=(hb2.block w.heap.size (by have:=hE.size;omega)).trans p2;have q3:=(hb2.block (w.heap.size+1) (by have:=hE.size;omega)).trans qV;have K3:=zAa p3;have Q3:=zAa q3;have G3:=zAd q3;clear K1 F1;go_wp2_with fail;generalize hV:World.setCell _ ⟨w.heap.size+1,8,none⟩ _=V8;have hV9:V8=zAj w2 (w.heap.size+1) 0 [.int .u8 tos,.int .u16 id,.bool keep,.int .u8 ttl,.int .u8 np,.int .u32 src,.int .u32 dst,.slice a1 zo.length c1,.slice ad zd.length cd]:=hV.symm;have hb8:But (fun b=>b=w.heap.size+1) w2 V8:=by rw[hV9];exact zAf (E:=fun b=>b=w.heap.size+1) (n:=w.heap.size+1) rfl _ _ _ _ (But.refl _ _)
 have p8:=zAg [.int .u8 tos,.int .u16 id,.bool keep,.int .u8 ttl,.int .u8 np,.int .u32 src,.int .u32 dst,.slice a1 zo.length c1,.slice ad zd.length cd] q3 rfl;rw[←hV9]at p8;clear hV hV9 Q3 G3 K3;have P8:=zAa p8;have hw2:=hwV.trans (hb2.mono hwV.size);have hw8:Below w.heap.size w V8:=hw2.trans (hb8.below hw2.size (fun k h e=>by omega));refine bodyPost_ret (v:= .tuple #[.agg #[.int .u8 tos,.int .u16 id,.bool keep,.int .u8 ttl,.int .u8 np,.int .u32 src,.int .u32 dst,.slice a1 zo.length c1,.slice ad zd.length cd],.int .i64 0]) (by simp[results,Tryz.results86,go_sem,P8]) rfl ⟨a1,c1,rfl,?_,hw8⟩;exact((hOV.below hb2 (Nat.le_refl _)).but hb8 (fun b h e=>by simp at h;omega)).mono (by simp;omega)
theorem zN1(tos id ttl proto src dst np:Int)(keep:Bool)(so sd:Value)(zo:List Int)(ad:Option Addr)(ld cd:Nat)(w:World)(hIo:Rd w.heap.size w so zo)(h1:zo.length≤140737488355328)(h2:ld≤140737488355328)(hf:flt zo.length ld≠0):
  Calls Tryz.prog 86 #[.agg #[.int .u8 tos,.int .u16 id,.bool keep,.int .u8 ttl,.int .u8 proto,.int .u32 src,.int .u32 dst,so,sd],.int .u8 np,.slice ad ld cd] w fun e w'=>e= .returned (.tuple #[.agg zcc.toArray,.int .i64 (flt zo.length ld)])∧Below w.heap.size w w':=by
 obtain⟨ao,co,rfl,hl1,hm1⟩:=hIo.slice;have hb0:Below w.heap.size w ((w.alloc (.cells #[.int .u8 tos,.int .u16 id,.bool keep,.int .u8 ttl,.int .u8 proto,.int .u32 src,.int .u32 dst,.slice ao zo.length co,sd] 40)).alloc (.cells zcc.toArray 40)):=(bA _ _).alloc (by simp) _;have p0:((w.alloc (.cells #[.int .u8 tos,.int .u16 id,.bool keep,.int .u8 ttl,.int .u8 proto,.int .u32 src,.int .u32 dst,.slice ao zo.length co,sd] 40)).alloc (.cells zcc.toArray 40)).heap[w.heap.size]? =some (.cells #[.int .u8 tos,.int .u16 id,.bool keep,.int .u8 ttl,.int .u8 proto,.int .u32 src,.int .u32 dst,.slice ao zo.length co,sd] 40):=(Below.heap_alloc _ _ _ (by simp)).trans (heap_alloc_new w _);have q0:((w.alloc (.cells #[.int .u8 tos,.int .u16 id,.bool keep,.int .u8 ttl,.int .u8 proto,.int .u32 src,.int .u32 dst,.slice ao zo.length co,sd] 40)).alloc (.cells zcc.toArray 40)).heap[w.heap.size+1]? =some (.cells zcc.toArray 40 (0,0)):=by have:=heap_alloc_new (w.alloc (.cells #[.int .u8 tos,.int .u16 id,.bool keep,.int .u8 ttl,.int .u8 proto,.int .u32 src,.int .u32 dst,.slice ao zo.length co,sd] 40)) (.cells zcc.toArray 40);simpa using this
 have P0:=zAc p0;have Q0:=zAc q0;clear p0 q0;have hf':(flt zo.length ld !=0)=true:=by simp[hf]
 have HF:=zAc hf;clear hf;go_enter Tryz.func86,Tryz.ntmps86;go_wp2_with fail;refine(zBd _ zo _ (by omega) ((hIo.below hb0).mono (by simp;omega))).mono ?_;rintro e w1 ⟨a1,c1,rfl,hO1,hb1⟩;have p1:=(hb1.block w.heap.size (by simp;omega)).trans P0.out;have q1:=(hb1.block (w.heap.size+1) (by simp)).trans Q0.out;have K1:=zAa p1;have F1:=zAd p1;have hw1:=hb0.trans (hb1.mono (by simp;omega));have p2:=zDv _ _ _ _ _ _ _ _ _ (.int .u8 np) (.slice a1 zo.length c1) (.slice ad ld cd) p1;go_wp2_with fail;have hE:But (fun b=>b=w.heap.size) w1 (((w1.setCell ⟨w.heap.size,4,none⟩ (.int .u8 np)).setCell ⟨w.heap.size,7,none⟩ (.slice a1 zo.length c1)).setCell ⟨w.heap.size,8,none⟩ (.slice ad ld cd)):=(((But.refl (fun b=>b=w.heap.size) w1).setCell (p:=⟨w.heap.size,4,none⟩) rfl _).setCell (p:=⟨w.heap.size,7,none⟩) rfl _).setCell (p:=⟨w.heap.size,8,none⟩) rfl _;have hs1:w.heap.size+2≤w1.heap.size:=by have:=hb1.size;simp at this;omega
 generalize ((w1.setCell ⟨w.heap.size,4,none⟩ (.int .u8 np)).setCell ⟨w.heap.size,7,none⟩ (.slice a1 zo.length c1)).setCell ⟨w.heap.size,8,none⟩ (.slice ad ld cd)=V at*;have hwV:Below w.heap.size w V:=hw1.trans (hE.below (by omega) (fun k h e=>by omega));have qV:=(hE.block (w.heap.size+1) (by omega) (by omega)).trans q1;refine(zG1 tos id ttl np src dst keep a1 ad zo.length c1 ld cd _ h1 h2 HF.out).mono ?_;rintro e w2 ⟨rfl,hb2⟩;have q3:=(hb2.block (w.heap.size+1) (by have:=hE.size;omega)).trans qV;have Q3:=zAa q3;have G3:=zAd q3;clear K1 F1;go_wp2_with fail;generalize hV:World.setCell _ ⟨w.heap.size+1,8,none⟩ _=V8;have hV9:V8=zAj w2 (w.heap.size+1) 0 zcc:=hV.symm;have hb8:But (fun b=>b=w.heap.size+1) w2 V8:=by rw[hV9];exact zAf (E:=fun b=>b=w.heap.size+1) (n:=w.heap.size+1) rfl _ _ _ _ (But.refl _ _)
 have p8:=zAg zcc q3 rfl;rw[←hV9]at p8;clear hV hV9 Q3 G3;have P8:=zAa p8;have hw2:=hwV.trans (hb2.mono hwV.size);have hw8:Below w.heap.size w V8:=hw2.trans (hb8.below hw2.size (fun k h e=>by omega));exact bodyPost_ret (v:= .tuple #[.agg zcc.toArray,.int .i64 (flt zo.length ld)]) (by simp[results,Tryz.results86,go_sem,P8]) rfl ⟨rfl,hw8⟩
theorem zKr(tos id ttl proto src dst np:Int)(keep:Bool)(so sd sd':Value)(zo zd:List Int)(w:World)(hBo:Mt.By zo)(hIo:Rd w.heap.size w so zo)(hId:Rd w.heap.size w sd' zd)
  (h1:zo.length≤140737488355328)(h2:zd.length≤140737488355328)(ht:0≤tos∧tos≤255)(hid:0≤id∧id≤65535)(htt:0≤ttl∧ttl≤255)(hpr:0≤np∧np≤255)(hsr:0≤src∧src≤4294967295)(hds:0≤dst∧dst≤4294967295):
  Calls Tryz.prog 86 #[.agg #[.int .u8 tos,.int .u16 id,.bool keep,.int .u8 ttl,.int .u8 proto,.int .u32 src,.int .u32 dst,so,sd],.int .u8 np,sd'] w fun e w'=>Below w.heap.size w w'∧((flt zo.length zd.length≠0∧e= .returned (.tuple #[.agg zcc.toArray,.int .i64 (flt zo.length zd.length)]))∨
   (flt zo.length zd.length=0∧∃ao co,e= .returned (.tuple #[.agg #[.int .u8 tos,.int .u16 id,.bool keep,.int .u8 ttl,.int .u8 np,.int .u32 src,.int .u32 dst,.slice ao zo.length co,sd'],.int .i64 0])∧Ow w.heap.size w' (.slice ao zo.length co) zo)):=by
 by_cases hf:flt zo.length zd.length=0
 ·have hv:zo.length≤40∧zo.length % 4=0∧20+zo.length+zd.length≤65535:=by
   unfold flt at hf;split at hf<;>first|omega|(split at hf<;>omega)
  exact(zKq tos id ttl proto src dst np keep so sd sd' zo zd w hBo hIo hId hv.1 hv.2.1 hv.2.2 ht hid htt hpr hsr hds).mono fun e w' ⟨ao,co,he,hO,hb⟩=>⟨hb,.inr ⟨hf,ao,co,he,hO⟩⟩
 ·obtain ⟨ad,cd,rfl,_,_⟩:=hId.slice
  exact(zN1 tos id ttl proto src dst np keep so sd zo ad zd.length cd w hIo h1 h2 hf).mono fun e w' ⟨he,hb⟩=>⟨hb,.inl ⟨hf,he⟩⟩
theorem zKs(tos id ttl proto src dst np:Int)(keep:Bool)(so sd sd':Value)(zo zd:List Int)(w:World)(ub:Nat)(tu:TypeId)(hu:w.heap[ub]? =some (.cells #[sd',.int .u8 np] tu (0,0)))(hBo:Mt.By zo)(hIo:Rd w.heap.size w so zo)(hId:Rd w.heap.size w sd' zd)
  (hlo:zo.length≤40)(hlm:zo.length % 4=0)(hall:20+zo.length+zd.length≤65535)(ht:0≤tos∧tos≤255)(hid:0≤id∧id≤65535)(htt:0≤ttl∧ttl≤255)(hpr:0≤np∧np≤255)(hsr:0≤src∧src≤4294967295)(hds:0≤dst∧dst≤4294967295):
  Calls Tryz.prog 61 #[.pointer (some ⟨ub,0,none⟩),.agg #[.int .u8 tos,.int .u16 id,.bool keep,.int .u8 ttl,.int .u8 proto,.int .u32 src,.int .u32 dst,so,sd]] w fun e w'=>∃ao co,e= .returned (.tuple #[.agg #[.int .u8 tos,.int .u16 id,.bool keep,.int .u8 ttl,.int .u8 np,.int .u32 src,.int .u32 dst,.slice ao zo.length co,sd'],.int .i64 0])∧Ow w.heap.size w' (.slice ao zo.length co) zo∧Below w.heap.size w w':=by
 obtain⟨ao,co,rfl,hl1,hm1⟩:=hIo.slice;obtain⟨ad,cd,rfl,hl2,hm2⟩:=hId.slice;have hb0:Below w.heap.size w ((w.alloc (.cells #[.int .u8 tos,.int .u16 id,.bool keep,.int .u8 ttl,.int .u8 proto,.int .u32 src,.int .u32 dst,.slice ao zo.length co,sd] 40)).alloc (.cells zcc.toArray 40)):=(bA _ _).alloc (by simp) _;have p0:((w.alloc (.cells #[.int .u8 tos,.int .u16 id,.bool keep,.int .u8 ttl,.int .u8 proto,.int .u32 src,.int .u32 dst,.slice ao zo.length co,sd] 40)).alloc (.cells zcc.toArray 40)).heap[w.heap.size]? =some (.cells #[.int .u8 tos,.int .u16 id,.bool keep,.int .u8 ttl,.int .u8 proto,.int .u32 src,.int .u32 dst,.slice ao zo.length co,sd] 40):=(Below.heap_alloc _ _ _ (by simp)).trans (heap_alloc_new w _);have q0:((w.alloc (.cells #[.int .u8 tos,.int .u16 id,.bool keep,.int .u8 ttl,.int .u8 proto,.int .u32 src,.int .u32 dst,.slice ao zo.length co,sd] 40)).alloc (.cells zcc.toArray 40)).heap[w.heap.size+1]? =some (.cells zcc.toArray 40 (0,0)):=by have:=heap_alloc_new (w.alloc (.cells #[.int .u8 tos,.int .u16 id,.bool keep,.int .u8 ttl,.int .u8 proto,.int .u32 src,.int .u32 dst,.slice ao zo.length co,sd] 40)) (.cells zcc.toArray 40);simpa using this
 have P0:=zAc p0;have Q0:=zAc q0;clear p0 q0;have hub:ub<w.heap.size:=(eS hu);have hu0:=(hb0.block ub hub).trans hu;go_enter Tryz.func61,Tryz.ntmps61;go_upto_region 1 with fail;generalize (w.alloc (.cells #[.int .u8 tos,.int .u16 id,.bool keep,.int .u8 ttl,.int .u8 proto,.int .u32 src,.int .u32 dst,.slice ao zo.length co,sd] 40)).alloc (.cells zcc.toArray 40)=W0 at*;refine zAk (R:=But (fun b=>b=w.heap.size)) 18 rfl (by kernel_rfl) ?_;have hd:Later W0 W0.drew:=Later.drew W0;have qu:∀v1,But (fun b=>b=w.heap.size) W0.drew v1→∀i,v1.cell? ⟨ub,i,none⟩=#[Value.slice ad zd.length cd,.int .u8 np][i]? :=fun v1 h=>zAa ((((But.of hd).trans h).block ub (eS hu0) (by omega)).trans hu0);have P1:=(hd.block w.heap.size (eS P0.out)).trans P0.out;have Q1:=(hd.block (w.heap.size+1) (eS Q0.out)).trans Q0.out;have hbd:=hb0.trans (hd.mono hb0.size);clear P0 Q0 hu0;generalize W0.drew=W1 at*;refine tX (But.pre _) 0 ?_;refine tX (But.pre _) 1 ?_;refine tX (But.pre _) 2 ?_;refine tX (But.pre _) 3 ?_;refine tX (But.pre _) 7 ?_;refine tX (But.pre _) 8 ?_;refine tX (But.pre _) 9 ?_;refine tX (But.pre _) 10 ?_;refine tX (But.pre _) 11 ?_;refine tX (But.pre _) 4 ?_;have K0:=zAa P1;have hsW:w.heap.size+2≤W1.heap.size:=by have:=(eS Q1);omega
 refine tO 5 ?_;unfold Oper.wp;go_simp;refine⟨But.refl _ _,?_⟩;clear K0;refine tX (But.pre _) 12 ?_;refine tO 6 ?_;refine zAi 71 #[.slice ao zo.length co] (by go_simp) ?_;refine(zBd _ zo _ (by omega) ((hIo.below hbd).mono hbd.size)).mono ?_;rintro e w1 ⟨a1,c1,rfl,hO1,hb1⟩;refine⟨But.of hb1,?_⟩;simp only[Act.put,sA,sB,sC];have p1:=(hb1.block w.heap.size (by omega)).trans P1;have q1:=(hb1.block (w.heap.size+1) (by omega)).trans Q1;have hw1:=hbd.trans (hb1.mono hbd.size);have K1:=zAa p1;have F1:=zAd p1;clear qu;refine tO 13 ?_;unfold Oper.wp;go_simp;refine⟨(But.refl (fun b=>b=w.heap.size) w1).setCell (p:=⟨w.heap.size,4,none⟩) rfl _,?_⟩;have p1b:=zAh p1 4 (.int .u8 np);have K1b:=zAa p1b;have F1b:=zAd p1b;clear K1 F1;refine tX (But.pre _) 14 ?_;refine tO 15 ?_;unfold Oper.wp;go_simp;refine⟨(But.refl (fun b=>b=w.heap.size) _).setCell (p:=⟨w.heap.size,7,none⟩) rfl _,?_⟩;have p1c:=zAh p1b 7 (.slice a1 zo.length c1);have K1c:=zAa p1c;have F1c:=zAd p1c;clear K1b F1b;refine tX (But.pre _) 16 ?_;refine tO 17 ?_;unfold Oper.wp;go_simp;refine⟨(But.refl (fun b=>b=w.heap.size) _).setCell (p:=⟨w.heap.size,8,none⟩) rfl _,?_⟩;clear K1c F1c;refine tD ?_;have K1:=zAa p1;have F1:=zAd p1;have p2:=zDv _ _ _ _ _ _ _ _ _ (.int .u8 np) (.slice a1 zo.length c1) (.slice ad zd.length cd) p1;go_wp2_with fail
 have hE:But (fun b=>b=w.heap.size) w1 (((w1.setCell ⟨w.heap.size,4,none⟩ (.int .u8 np)).setCell ⟨w.heap.size,7,none⟩ (.slice a1 zo.length c1)).setCell ⟨w.heap.size,8,none⟩ (.slice ad zd.length cd)):=(((But.refl (fun b=>b=w.heap.size) w1).setCell (p:=⟨w.heap.size,4,none⟩) rfl _).setCell (p:=⟨w.heap.size,7,none⟩) rfl _).setCell (p:=⟨w.heap.size,8,none⟩) rfl _;have hs1:w.heap.size+2≤w1.heap.size:=by have:=hb1.size;omega
 generalize ((w1.setCell ⟨w.heap.size,4,none⟩ (.int .u8 np)).setCell ⟨w.heap.size,7,none⟩ (.slice a1 zo.length c1)).setCell ⟨w.heap.size,8,none⟩ (.slice ad zd.length cd)=V at*;have hOV:=hO1.but hE (fun b h e=>by omega);have hwV:Below w.heap.size w V:=hw1.trans (hE.below (by omega) (fun k h e=>by omega));have qV:=(hE.block (w.heap.size+1) (by omega) (by omega)).trans q1;refine(zCg tos id ttl np src dst keep _ _ zo zd _ hBo hOV.rd ((hId.below hwV).mono hwV.size) hlo hlm hall ht hid htt hpr hsr hds).mono ?_;rintro e w2 ⟨v2,rfl,hO2,hb2⟩;have p3:=(hb2.block w.heap.size (by have:=hE.size;omega)).trans p2;have q3:=(hb2.block (w.heap.size+1) (by have:=hE.size;omega)).trans qV;have K3:=zAa p3;have Q3:=zAa q3;have G3:=zAd q3;clear K1 F1;go_wp2_with fail;generalize hV:World.setCell _ ⟨w.heap.size+1,8,none⟩ _=V8;have hV9:V8=zAj w2 (w.heap.size+1) 0 [.int .u8 tos,.int .u16 id,.bool keep,.int .u8 ttl,.int .u8 np,.int .u32 src,.int .u32 dst,.slice a1 zo.length c1,.slice ad zd.length cd]:=hV.symm;have hb8:But (fun b=>b=w.heap.size+1) w2 V8:=by rw[hV9];exact zAf (E:=fun b=>b=w.heap.size+1) (n:=w.heap.size+1) rfl _ _ _ _ (But.refl _ _)
 have p8:=zAg [.int .u8 tos,.int .u16 id,.bool keep,.int .u8 ttl,.int .u8 np,.int .u32 src,.int .u32 dst,.slice a1 zo.length c1,.slice ad zd.length cd] q3 rfl;rw[←hV9]at p8;clear hV hV9 Q3 G3 K3;have P8:=zAa p8;have hw2:=hwV.trans (hb2.mono hwV.size);have hw8:Below w.heap.size w V8:=hw2.trans (hb8.below hw2.size (fun k h e=>by omega));refine bodyPost_ret (v:= .tuple #[.agg #[.int .u8 tos,.int .u16 id,.bool keep,.int .u8 ttl,.int .u8 np,.int .u32 src,.int .u32 dst,.slice a1 zo.length c1,.slice ad zd.length cd],.int .i64 0]) (by simp[results,Tryz.results61,go_sem,P8]) rfl ⟨a1,c1,rfl,?_,hw8⟩;exact((hOV.below hb2 (Nat.le_refl _)).but hb8 (fun b h e=>by omega)).mono (by omega)
theorem zN2(tos id ttl proto src dst np:Int)(keep:Bool)(so sd:Value)(zo:List Int)(ad:Option Addr)(ld cd:Nat)(w:World)(ub:Nat)(tu:TypeId)(hu:w.heap[ub]? =some (.cells #[.slice ad ld cd,.int .u8 np] tu (0,0)))(hIo:Rd w.heap.size w so zo)(h1:zo.length≤140737488355328)(h2:ld≤140737488355328)(hf:flt zo.length ld≠0):
  Calls Tryz.prog 61 #[.pointer (some ⟨ub,0,none⟩),.agg #[.int .u8 tos,.int .u16 id,.bool keep,.int .u8 ttl,.int .u8 proto,.int .u32 src,.int .u32 dst,so,sd]] w fun e w'=>e= .returned (.tuple #[.agg zcc.toArray,.int .i64 (flt zo.length ld)])∧Below w.heap.size w w':=by
 obtain⟨ao,co,rfl,hl1,hm1⟩:=hIo.slice;have hb0:Below w.heap.size w ((w.alloc (.cells #[.int .u8 tos,.int .u16 id,.bool keep,.int .u8 ttl,.int .u8 proto,.int .u32 src,.int .u32 dst,.slice ao zo.length co,sd] 40)).alloc (.cells zcc.toArray 40)):=(bA _ _).alloc (by simp) _;have p0:((w.alloc (.cells #[.int .u8 tos,.int .u16 id,.bool keep,.int .u8 ttl,.int .u8 proto,.int .u32 src,.int .u32 dst,.slice ao zo.length co,sd] 40)).alloc (.cells zcc.toArray 40)).heap[w.heap.size]? =some (.cells #[.int .u8 tos,.int .u16 id,.bool keep,.int .u8 ttl,.int .u8 proto,.int .u32 src,.int .u32 dst,.slice ao zo.length co,sd] 40):=(Below.heap_alloc _ _ _ (by simp)).trans (heap_alloc_new w _);have q0:((w.alloc (.cells #[.int .u8 tos,.int .u16 id,.bool keep,.int .u8 ttl,.int .u8 proto,.int .u32 src,.int .u32 dst,.slice ao zo.length co,sd] 40)).alloc (.cells zcc.toArray 40)).heap[w.heap.size+1]? =some (.cells zcc.toArray 40 (0,0)):=by have:=heap_alloc_new (w.alloc (.cells #[.int .u8 tos,.int .u16 id,.bool keep,.int .u8 ttl,.int .u8 proto,.int .u32 src,.int .u32 dst,.slice ao zo.length co,sd] 40)) (.cells zcc.toArray 40);simpa using this
 have P0:=zAc p0;have Q0:=zAc q0;clear p0 q0;have hf':(flt zo.length ld !=0)=true:=by simp[hf]
 have HF:=zAc hf;clear hf;have hub:ub<w.heap.size:=(eS hu);have hu0:=(hb0.block ub hub).trans hu;go_enter Tryz.func61,Tryz.ntmps61;go_upto_region 1 with fail;generalize (w.alloc (.cells #[.int .u8 tos,.int .u16 id,.bool keep,.int .u8 ttl,.int .u8 proto,.int .u32 src,.int .u32 dst,.slice ao zo.length co,sd] 40)).alloc (.cells zcc.toArray 40)=W0 at*;refine zAk (R:=But (fun b=>b=w.heap.size)) 18 rfl (by kernel_rfl) ?_;have hd:Later W0 W0.drew:=Later.drew W0;have qu:∀v1,But (fun b=>b=w.heap.size) W0.drew v1→∀i,v1.cell? ⟨ub,i,none⟩=#[Value.slice ad ld cd,.int .u8 np][i]? :=fun v1 h=>zAa ((((But.of hd).trans h).block ub (eS hu0) (by omega)).trans hu0);have P1:=(hd.block w.heap.size (eS P0.out)).trans P0.out;have Q1:=(hd.block (w.heap.size+1) (eS Q0.out)).trans Q0.out;have hbd:=hb0.trans (hd.mono hb0.size);clear P0 Q0 hu0;generalize W0.drew=W1 at*;refine tX (But.pre _) 0 ?_;refine tX (But.pre _) 1 ?_;refine tX (But.pre _) 2 ?_;refine tX (But.pre _) 3 ?_;refine tX (But.pre _) 7 ?_;refine tX (But.pre _) 8 ?_;refine tX (But.pre _) 9 ?_;refine tX (But.pre _) 10 ?_;refine tX (But.pre _) 11 ?_;refine tX (But.pre _) 4 ?_;have K0:=zAa P1;have hsW:w.heap.size+2≤W1.heap.size:=by have:=(eS Q1);omega
 refine tO 5 ?_;unfold Oper.wp;go_simp;refine⟨But.refl _ _,?_⟩;clear K0;refine tX (But.pre _) 12 ?_;refine tO 6 ?_;refine zAi 71 #[.slice ao zo.length co] (by go_simp) ?_;refine(zBd _ zo _ (by omega) ((hIo.below hbd).mono hbd.size)).mono ?_;rintro e w1 ⟨a1,c1,rfl,hO1,hb1⟩;refine⟨But.of hb1,?_⟩;simp only[Act.put,sA,sB,sC];have p1:=(hb1.block w.heap.size (by omega)).trans P1;have q1:=(hb1.block (w.heap.size+1) (by omega)).trans Q1;have hw1:=hbd.trans (hb1.mono hbd.size);have K1:=zAa p1;have F1:=zAd p1;clear qu;refine tO 13 ?_;unfold Oper.wp;go_simp;refine⟨(But.refl (fun b=>b=w.heap.size) w1).setCell (p:=⟨w.heap.size,4,none⟩) rfl _,?_⟩;have p1b:=zAh p1 4 (.int .u8 np);have K1b:=zAa p1b;have F1b:=zAd p1b;clear K1 F1;refine tX (But.pre _) 14 ?_;refine tO 15 ?_;unfold Oper.wp;go_simp;refine⟨(But.refl (fun b=>b=w.heap.size) _).setCell (p:=⟨w.heap.size,7,none⟩) rfl _,?_⟩;have p1c:=zAh p1b 7 (.slice a1 zo.length c1);have K1c:=zAa p1c;have F1c:=zAd p1c;clear K1b F1b;refine tX (But.pre _) 16 ?_;refine tO 17 ?_;unfold Oper.wp;go_simp;refine⟨(But.refl (fun b=>b=w.heap.size) _).setCell (p:=⟨w.heap.size,8,none⟩) rfl _,?_⟩;clear K1c F1c;refine tD ?_;have K1:=zAa p1;have F1:=zAd p1;have p2:=zDv _ _ _ _ _ _ _ _ _ (.int .u8 np) (.slice a1 zo.length c1) (.slice ad ld cd) p1;go_wp2_with fail
 have hE:But (fun b=>b=w.heap.size) w1 (((w1.setCell ⟨w.heap.size,4,none⟩ (.int .u8 np)).setCell ⟨w.heap.size,7,none⟩ (.slice a1 zo.length c1)).setCell ⟨w.heap.size,8,none⟩ (.slice ad ld cd)):=(((But.refl (fun b=>b=w.heap.size) w1).setCell (p:=⟨w.heap.size,4,none⟩) rfl _).setCell (p:=⟨w.heap.size,7,none⟩) rfl _).setCell (p:=⟨w.heap.size,8,none⟩) rfl _;have hs1:w.heap.size+2≤w1.heap.size:=by have:=hb1.size;omega
 generalize ((w1.setCell ⟨w.heap.size,4,none⟩ (.int .u8 np)).setCell ⟨w.heap.size,7,none⟩ (.slice a1 zo.length c1)).setCell ⟨w.heap.size,8,none⟩ (.slice ad ld cd)=V at*;have hwV:Below w.heap.size w V:=hw1.trans (hE.below (by omega) (fun k h e=>by omega));have qV:=(hE.block (w.heap.size+1) (by omega) (by omega)).trans q1;refine(zG1 tos id ttl np src dst keep a1 ad zo.length c1 ld cd _ h1 h2 HF.out).mono ?_;rintro e w2 ⟨rfl,hb2⟩;have q3:=(hb2.block (w.heap.size+1) (by have:=hE.size;omega)).trans qV;have Q3:=zAa q3;have G3:=zAd q3;clear K1 F1;go_wp2_with fail;generalize hV:World.setCell _ ⟨w.heap.size+1,8,none⟩ _=V8;have hV9:V8=zAj w2 (w.heap.size+1) 0 zcc:=hV.symm;have hb8:But (fun b=>b=w.heap.size+1) w2 V8:=by rw[hV9];exact zAf (E:=fun b=>b=w.heap.size+1) (n:=w.heap.size+1) rfl _ _ _ _ (But.refl _ _)
 have p8:=zAg zcc q3 rfl;rw[←hV9]at p8;clear hV hV9 Q3 G3;have P8:=zAa p8;have hw2:=hwV.trans (hb2.mono hwV.size);have hw8:Below w.heap.size w V8:=hw2.trans (hb8.below hw2.size (fun k h e=>by omega));exact bodyPost_ret (v:= .tuple #[.agg zcc.toArray,.int .i64 (flt zo.length ld)]) (by simp[results,Tryz.results61,go_sem,P8]) rfl ⟨rfl,hw8⟩
theorem zKt(tos id ttl proto src dst np:Int)(keep:Bool)(so sd sd':Value)(zo zd:List Int)(w:World)(ub:Nat)(tu:TypeId)(hu:w.heap[ub]? =some (.cells #[sd',.int .u8 np] tu (0,0)))(hBo:Mt.By zo)(hIo:Rd w.heap.size w so zo)(hId:Rd w.heap.size w sd' zd)
  (h1:zo.length≤140737488355328)(h2:zd.length≤140737488355328)(ht:0≤tos∧tos≤255)(hid:0≤id∧id≤65535)(htt:0≤ttl∧ttl≤255)(hpr:0≤np∧np≤255)(hsr:0≤src∧src≤4294967295)(hds:0≤dst∧dst≤4294967295):
  Calls Tryz.prog 61 #[.pointer (some ⟨ub,0,none⟩),.agg #[.int .u8 tos,.int .u16 id,.bool keep,.int .u8 ttl,.int .u8 proto,.int .u32 src,.int .u32 dst,so,sd]] w fun e w'=>Below w.heap.size w w'∧((flt zo.length zd.length≠0∧e= .returned (.tuple #[.agg zcc.toArray,.int .i64 (flt zo.length zd.length)]))∨
   (flt zo.length zd.length=0∧∃ao co,e= .returned (.tuple #[.agg #[.int .u8 tos,.int .u16 id,.bool keep,.int .u8 ttl,.int .u8 np,.int .u32 src,.int .u32 dst,.slice ao zo.length co,sd'],.int .i64 0])∧Ow w.heap.size w' (.slice ao zo.length co) zo)):=by
 by_cases hf:flt zo.length zd.length=0
 ·have hv:zo.length≤40∧zo.length % 4=0∧20+zo.length+zd.length≤65535:=by
   unfold flt at hf;split at hf<;>first|omega|(split at hf<;>omega)
  exact(zKs tos id ttl proto src dst np keep so sd sd' zo zd w ub tu hu hBo hIo hId hv.1 hv.2.1 hv.2.2 ht hid htt hpr hsr hds).mono fun e w' ⟨ao,co,he,hO,hb⟩=>⟨hb,.inr ⟨hf,ao,co,he,hO⟩⟩
 ·obtain ⟨ad,cd,rfl,_,_⟩:=hId.slice
  exact(zN2 tos id ttl proto src dst np keep so sd zo ad zd.length cd w ub tu hu hIo h1 h2 hf).mono fun e w' ⟨he,hb⟩=>⟨hb,.inl ⟨hf,he⟩⟩
end Go.Proofs.YteaeilghamjjkaaGreatDoor
