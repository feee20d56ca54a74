import Derived.Test.YteaeilghamjjkaaGreatDoorX9
namespace Go.Proofs.YteaeilghamjjkaaGreatDoor
set_option maxHeartbeats 8000000
open Go.RowKit Go.Shelf
set_option maxRecDepth 100000
set_option linter.unusedVariables false
set_option linter.unusedSimpArgs false
def noh:Value:= .iface 468 (.agg #[])
theorem first_st(p:Int)(w:World)(hp:(p==6)=false):Calls Tryz.prog 315 #[.int .u8 p] w fun e w'=>e= .returned (.int .i64 8)∧w'=w:=by
 go_enter Tryz.func315,Tryz.ntmps315;go_wp2_with fail;go_ret
 exact⟨rfl,rfl⟩
def ptT (t:Tu) (id till:Int) (q:Int × Int × (Nat→List Rw)):Int × Int × (Nat→List Rw):=if zNw 128 q.1 q.2.2 t.pr t.src t.dst t.sp t.dp till=0 then(q.1+1,q.2.1+1,zOx q.2.2 (bkT t) ⟨t.pr,t.src,t.dst,kyp t.pr t.sp,t.dp,id,till,q.2.1+1⟩)else q
theorem zDb(t:Tu)(id till:Int)(q:Int × Int × (Nat→List Rw)):q.1≤(ptT t id till q).1∧(ptT t id till q).1≤q.1+1∧q.2.1≤(ptT t id till q).2.1∧(ptT t id till q).2.1≤q.2.1+1∧∀i,((ptT t id till q).2.2 i).length≤(q.2.2 i).length+1:=by
 unfold ptT;split
 ·refine ⟨by show q.1≤q.1+1;omega,Int.le_refl _,by show q.2.1≤q.2.1+1;omega,Int.le_refl _,fun i=> ?_⟩
  show(zOx q.2.2 _ _ i).length≤_
  unfold zOx;split
  ·rename_i e;simp[e]
  ·omega
 ·exact ⟨by omega,by omega,by omega,by omega,fun i=>by omega⟩
theorem putF(base gt:Nat)(cnt trn:Int)(rw:Nat→List Rw)(t:Tu)(id till:Int)(w:World)(hT:TB base w gt 128 cnt trn rw)(hB:TuB t)(hbs:base≤w.heap.size)(htr:0≤trn∧trn≤1000000)(hcn:0≤cnt∧cnt≤4096)(hln:∀i,(rw i).length≤5000):
  Calls Tryz.prog 314 #[.pointer (some ⟨gt,0,none⟩),.agg #[.int .u8 t.pr,.int .u32 t.src,.int .u32 t.dst,.int .u16 t.sp,.int .u16 t.dp],.int .i64 id,.int .i64 till] w fun e w'=>∃ev:Int,e= .returned (.int .i64 ev)∧TB base w' gt 128 (ptT t id till (cnt,trn,rw)).1 (ptT t id till (cnt,trn,rw)).2.1 (ptT t id till (cnt,trn,rw)).2.2∧KT w w'∧KM w w'∧KG base w w':=by
 obtain⟨vs,hTv⟩:=hT;refine(tput_any base gt 128 cnt trn vs rw t.pr t.src t.dst t.sp t.dp id till w hTv hB.1 hB.2.1 hB.2.2.1 hB.2.2.2 hbs htr hcn (by omega) (hln _)).mono ?_;rintro e w' ⟨he,⟨h0,h1,h2⟩|⟨h0,h1,h2⟩⟩
 ·refine ⟨_,he,?_,KT.of_later h2,KM.of_later h2,KG.of_later h2⟩
  have e2:ptT t id till (cnt,trn,rw)=(cnt,trn,rw):=by unfold ptT;rw[if_neg h0]
  rw[e2];exact⟨vs,h1⟩
 ·have ty:=hTv.typed (bki t.pr t.src t.dst t.sp t.dp) (zCa _ _ _ _ _)
  refine⟨_,he,?_,KT.of_but h2 ty,KM.of_but h2 ty,KG.of_but h2 (fun k e=> ?_)⟩
  ·have e2:ptT t id till (cnt,trn,rw)=(cnt+1,trn+1,zOx rw (bkT t) ⟨t.pr,t.src,t.dst,kyp t.pr t.sp,t.dp,id,till,trn+1⟩):=by unfold ptT;rw[if_pos h0]
   rw[e2];exact h1
  ·refine ⟨?_,fun ob ho=> ?_⟩
   ·rcases e with e|e
    ·rw[e];exact hTv.2.1
    ·rcases (hTv.2.2.2.1 _ (zCa t.pr t.src t.dst t.sp t.dp)).2 with⟨e2,_⟩|⟨g',cp,cur,e2,hb',_⟩
     ·rw[e2]at e;cases e
     ·rw[e2]at e;cases e;exact hb'
   ·obtain ⟨cur,tt,fz,hh,ht⟩:=ty k e
    rw[hh]at ho;cases ho
    show gTs.contains _=true
    rcases ht with ht|ht<;>(rw[ht];decide)
theorem GF.tabled {base g:Nat} {W W':World} {s:Gf} (h:GF base W g s)(hk:KT W W')(hb:KM W W') {cnt trn:Int} {rw:Nat→List Rw} (ht:TB base W' s.gt 128 cnt trn rw):GF base W' g { s with cnt:=cnt,trn:=trn,rw:=rw } :=by
 have ho:∀ {e:TypeId} {size:Nat} {v:Value} {n:Nat} {xs:List Value},e≠217→e≠220→W.ownsRow base e size v n xs→W'.ownsRow base e size v n xs:=fun h1 h2 q=>by
  obtain⟨q1,q2|⟨b,cap,cur',e',hb',hh,r⟩⟩:=q
  ·exact ⟨q1,.inl q2⟩
  ·exact ⟨q1,.inr ⟨b,cap,cur',e',hb',hk _ _ _ _ hh h1 h2,r⟩⟩
 exact⟨h.bs,hk _ _ _ _ h.gc (by decide) (by decide),⟨h.rl.1,hk _ _ _ _ h.rl.2.1 (by decide) (by decide),ho (by decide) (by decide) h.rl.2.2⟩,ht,⟨h.bl.1,hk _ _ _ _ h.bl.2.1 (by decide) (by decide),ho (by decide) (by decide) h.bl.2.2⟩,hb.map h.fl,hb.map h.pl,h.ne,h.bf,h.fm,h.pm,fun f hf=>⟨(h.fb f hf).1,hk _ _ _ _ (h.fb f hf).2 (by decide) (by decide)⟩,fun p hp=>⟨(h.pb p hp).1,(h.pb p hp).2.1,hk _ _ _ _ (h.pb p hp).2.2 (by decide) (by decide)⟩⟩
def Gf.begun (s:Gf) (f:Fl):Gf:= { s with bg:=s.bg+1,fs:=s.fs++[f],fe:=s.fe.push ⟨.int .i64 f.id,.pointer (some ⟨f.blk,0,none⟩),s.cf⟩,cf:=s.cf+1 }
def opM (s:Gf) (f:Fl):Int × Int × (Nat→List Rw):=ptT f.r f.id s.now (ptT f.o f.id s.now (s.cnt,s.trn,s.rw))
def opS (s:Gf) (f:Fl):Gf:= { s.begun f with cnt:=(opM s f).1,trn:=(opM s f).2.1,rw:=(opM s f).2.2 }
theorem GF.count {base g:Nat} {W:World} {s:Gf} (h:GF base W g s)(n:Int):GF base (W.setCell ⟨g,3,none⟩ (.int .i64 n)) g { s with bg:=n } :=by
 have hb:But (fun b=>b=g) W (W.setCell ⟨g,3,none⟩ (.int .i64 n)):=(But.refl (fun b=>b=g) _).setCell (show _=_ from rfl) _;have hE:=TE.one h.gc;exact⟨h.bs,zAh h.gc 3 (.int .i64 n),⟨h.rl.1,hE.keep hb h.rl.2.1 (zAs (by decide) _ _),hE.own hb h.rl.2.2 (zAs (by decide))⟩,hE.table hb h.tb (zAs (by decide)) (zAs (by decide)),⟨h.bl.1,hE.keep hb h.bl.2.1 (zAs (by decide) _ _),hE.own hb h.bl.2.2 (zAs (by decide))⟩,hE.keep hb h.fl (zCe _ _),hE.keep hb h.pl (zCe _ _),h.ne,h.bf,h.fm,h.pm,fun f hf=>⟨(h.fb f hf).1,hE.keep hb (h.fb f hf).2 (zAs (by decide) _ _)⟩,fun p hp=>⟨(h.pb p hp).1,(h.pb p hp).2.1,hE.keep hb (h.pb p hp).2.2 (zAs (by decide) _ _)⟩⟩
theorem zHl(z:Int):∀(l:List MapEntry) (i:Nat),(∀e∈l,∃k:Int,e.key= .int .i64 k∧k≠z)→Instr.findNow (.int .i64) (.int .i64 z) l i=some none
 | [],_,_=>rfl
 |e::l,i,h=>by
  obtain⟨k,hk,hne⟩:=h e (by simp);have h1:Instr.sameNow (.int .i64) (.int .i64 z) e.key=some false:=by rw[hk];simp[Instr.sameNow,hne,Ne.symm hne]
  unfold Instr.findNow;rw[h1];exact zHl z l (i+1) (fun e' he'=>h e' (by simp[he']))
theorem zQz {base g:Nat} {W:World} {s:Gf} (h:GF base W g s)(z:Int)(hz:∀x∈s.fs,x.id≠z):∀e∈s.fe.toList,∃k:Int,e.key= .int .i64 k∧k≠z:=fun e he=>by
 have h1:(e.key,e.val)∈s.fe.toList.map (fun e=>(e.key,e.val)):=List.mem_map.2 ⟨e,he,rfl⟩;rw[h.fm]at h1;obtain⟨x,hx,e2⟩:=List.mem_map.1 h1;have e3:(Value.int .i64 x.id)=e.key:=congrArg Prod.fst e2;exact⟨x.id,e3.symm,hz x hx⟩
theorem GF.written {base g:Nat} {W W':World} {s:Gf} (h:GF base W g s)(f:Fl)(hid:f.id=s.bg-1)(hb:But (fun b=>b=s.gf) W W')(hm:W'.heap[s.gf]? =some (.map (s.fe.push ⟨.int .i64 f.id,.pointer (some ⟨f.blk,0,none⟩),s.cf⟩) (s.cf+1)))(hf:base≤f.blk∧W.heap[f.blk]? =some (.cells (flc f).toArray 111 (0,0))):GF base W' g { s with fs:=s.fs++[f],fe:=s.fe.push ⟨.int .i64 f.id,.pointer (some ⟨f.blk,0,none⟩),s.cf⟩,cf:=s.cf+1 } :=by
 have hk:∀(b:Nat) (cur:Array Value) (t:TypeId) (fz:Nat × Nat),W.heap[b]? =some (.cells cur t fz)→W'.heap[b]? =some (.cells cur t fz):=fun b cur t fz hh=>(hb.block b (eS hh) (fun e=>by have e':b=s.gf:=e;have h2:=h.fl;rw[←e',hh]at h2;cases h2)).trans hh
 have ho:∀ {bs:Nat} {e:TypeId} {size:Nat} {v:Value} {n:Nat} {xs:List Value},W.ownsRow bs e size v n xs→W'.ownsRow bs e size v n xs:=fun h=>by
  obtain⟨q1,q2|⟨b,cap,cur',e',hb',hh,r⟩⟩:=h
  ·exact ⟨q1,.inl q2⟩
  ·exact ⟨q1,.inr ⟨b,cap,cur',e',hb',hk _ _ _ _ hh,r⟩⟩
 obtain⟨vs,t1,t2,t3,t4,t5⟩:=h.tb;refine⟨h.bs,hk _ _ _ _ h.gc,⟨h.rl.1,hk _ _ _ _ h.rl.2.1,ho h.rl.2.2⟩,⟨vs,t1,t2,hk _ _ _ _ t3,fun i hi=>ho (t4 i hi),t5⟩,⟨h.bl.1,hk _ _ _ _ h.bl.2.1,ho h.bl.2.2⟩,hm,?_,h.ne,h.bf,?_,h.pm,fun x hx=> ?_,fun p hp=>⟨(h.pb p hp).1,(h.pb p hp).2.1,hk _ _ _ _ (h.pb p hp).2.2⟩⟩
 ·exact (hb.block s.gp (eS h.pl) (fun e=>h.ne e.symm)).trans h.pl
 ·show (s.fe.push _).toList.map (fun e=>(e.key,e.val))=(s.fs++[f]).map flE
  rw[Array.toList_push,List.map_append,List.map_append,h.fm];rfl
 ·rcases List.mem_append.1 hx with hx|hx
  ·exact ⟨(h.fb x hx).1,hk _ _ _ _ (h.fb x hx).2⟩
  ·have e:x=f:=by simpa using hx
   subst e;exact⟨hf.1,hk _ _ _ _ hf.2⟩
def zHv (s:Gf) (b:Nat) (o r:Tu) (sd st0 tl0 ms:Int) (hv:Value):Fl:=⟨b,s.bg,o,r,sd,st0,tl0,ms,hv,noh⟩
theorem zM4 {w:World} {b c:Nat} {es:Array MapEntry} (hb:w.heap[b]? =some (.map es c))(z:Int)(v:Value)(hf:Instr.findNow (.int .i64) (.int .i64 z) es.toList 0=some none):
  ∃w',(Instr.mapUpdate 86 (.map (some b)) (.int .i64 z) v).run Tryz.prog w= .ok () w'∧w'.heap[b]? =some (.map (es.push ⟨.int .i64 z,v,c⟩) (c+1))∧But (fun g=>g=b) w w':=by
 have hc:(Instr.checkKey false 10000 3 (.int .i64 z)).run Tryz.prog w= .ok () w:=MapKept.run_checkKey (k:= .int .i64 z) Tryz.underlying3 (by simp[MapKept.IsKey]) false 9999;have hlt:=(eS hb);refine⟨{ w with heap:=w.heap.setIfInBounds b (.map (es.push ⟨.int .i64 z,v,c⟩) (c+1)) },?_,?_,rfl,rfl,rfl,by simp,fun i hi he=> ?_⟩
 ·simp[Instr.mapUpdate,run_underlying Tryz.underlying86,MapKept.run_getObj_map hb,hc,MapKept.run_findKey Tryz.underlying3 hf,MapKept.run_setObj_map _ hb,Result.andThen]
 ·simp[hlt]
 ·have he':i≠b:=he
  rw[Array.getElem?_setIfInBounds_ne (by omega)]
def OpQ (base:Nat) (w w':World) (g:Nat) (s:Gf) (o r:Tu) (sd st0 tl0 ms:Int) (hv:Value) (e:Ending):Prop:=∃f:Fl,w.heap.size≤f.blk∧e= .returned (.pointer (some ⟨f.blk,0,none⟩))∧KG base w w'∧f.id=s.bg∧f.o=o∧f.r=r∧f.side=sd∧f.ms=ms∧f.hv=hv∧f.hp=noh∧GF base w' g (bcS (opS s f) f 8)
attribute [local go_sem] Oper.semAt_some
theorem zM5 {base:Nat} {e:TypeId} {size:Nat} {A B:World} {v:Value} {n:Nat} {xs:List Value} (h:A.ownsRow base e size v n xs)(c:CT A B):B.ownsRow base e size v n xs:=by
 obtain⟨h1,h2|⟨g,cap,cur,hv,hg,hh,r⟩⟩:=h
 ·exact ⟨h1,.inl h2⟩
 ·exact ⟨h1,.inr ⟨g,cap,cur,hv,hg,c.2 _ _ hh rfl,r⟩⟩
theorem hsetG {W:World} {n m j:Nat} {v:Value} {o:Obj} (h:W.heap[n]? =some o)(hne:n≠m):(W.setCell ⟨m,j,none⟩ v).heap[n]? =some o:=(Below.heap_setCell W ⟨m,j,none⟩ v n hne).trans h
theorem newG(W:World)(e:TypeId)(xs:List Value):∀j u,xs[j]? =some u→(W.alloc (.cells xs.toArray e)).cell? ((⟨W.heap.size,0,none⟩:Addr).add j)=some u:=fun j u hj=>by
 rw[show (⟨W.heap.size,0,none⟩:Addr).add j=⟨W.heap.size,j,none⟩from by unfold Addr.add;split<;>simp_all,zAa (heap_alloc_new W _) j];simpa using hj
theorem zGo {o:Obj} (h:o.isWalk=true):o.isCells=false:=by cases o<;>simp_all [Obj.isWalk,Obj.isCells]
theorem info_i64:(Tryz.prog.info? 3).map (fun i=>(i.zero,i.size,i.bytes))=some (some (.int .i64 0),1,8):=by kernel_rfl
theorem zCq {P:Program} {ops:Array Oper} {rest:List Oper} {o:Oper} {a:Act} {Q:Exit→Act→World→Prop} {w:World} (hg:o.guard=none)(s x:Operand)(t u:TypeId)(hop:o.op=Op.call { callee:=Callee.builtin Builtin.append,args:=#[s,x],argTypes:=#[t,u] })
  (v sx:Value)(hs:a.eval s=v)(hx:a.eval x=sx)(v':Value)(w':World)(hrun:(Builtin.append_ #[t,u] o.type #[v,sx]).run P w= .ok v' w')(hk:wpList P ops Q rest (a.put o.dst v') w'):wpList P ops Q (o::rest) a w:=
 wpList_plain hg fun K hK=>wp_appT s x t u hop v sx hs hx v' w' hrun (hK _ _ hk)
theorem zIz(z:Int)(v:Value):∀(l:List MapEntry) (i:Nat),(∀e∈l,∃k:Int,e.key= .int .i64 k∧(k=z→e.val=v))→(∃e∈l,e.key= .int .i64 z)→∃j,Instr.findNow (.int .i64) (.int .i64 z) l i=some (some (j,v))
 | [],_,_,h=>by obtain⟨_,h,_⟩:=h;cases h
 | e::l,i,h,hx=>by
  obtain⟨k,hk,hv⟩:=h e (by simp);by_cases hz:k=z
  ·have h1:Instr.sameNow (.int .i64) (.int .i64 z) e.key=some true:=by rw[hk,hz];simp[Instr.sameNow]
   unfold Instr.findNow;rw[h1];exact⟨i,by rw[hv hz]⟩
  ·have h1:Instr.sameNow (.int .i64) (.int .i64 z) e.key=some false:=by rw[hk];simp[Instr.sameNow,hz,Ne.symm hz]
   unfold Instr.findNow;rw[h1];refine zIz z v l (i+1) (fun e' he'=>h e' (by simp[he'])) ?_;obtain⟨e',he',hk'⟩:=hx;rcases List.mem_cons.1 he' with q|q
   ·rw[q,hk]at hk'
    injection hk' with _ q2
    exact absurd q2 hz
   ·exact ⟨e',q,hk'⟩
def IdU (s:Gf):Prop:=∀x∈s.fs,∀y∈s.fs,x.id=y.id→x.blk=y.blk
theorem zI0 {base g:Nat} {W:World} {s:Gf} (h:GF base W g s) {f:Fl} (hf:f∈s.fs)(hu:IdU s):(Instr.lookup 86 (.map (some s.gf)) (.int .i64 f.id) false).run Tryz.prog W= .ok (.pointer (some ⟨f.blk,0,none⟩)) W:=by
 refine zMw Tryz.underlying86 Tryz.underlying3 h.fl f.id _ (.inl ?_);refine zIz f.id _ s.fe.toList 0 (fun e he=> ?_) ?_
 ·have h1:(e.key,e.val)∈s.fe.toList.map (fun e=>(e.key,e.val)):=List.mem_map.2 ⟨e,he,rfl⟩
  rw[h.fm]at h1;obtain⟨x,hx,e2⟩:=List.mem_map.1 h1;have e3:(Value.int .i64 x.id)=e.key:=congrArg Prod.fst e2;have e4:(Value.pointer (some ⟨x.blk,0,none⟩))=e.val:=congrArg Prod.snd e2;exact⟨x.id,e3.symm,fun q=>by rw[←e4,hu x hx f hf q]⟩
 ·have h1:flE f∈s.fs.map flE:=List.mem_map.2 ⟨f,hf,rfl⟩
  rw[←h.fm]at h1;obtain⟨e,he,e2⟩:=List.mem_map.1 h1;exact⟨e,he,congrArg Prod.fst e2⟩
theorem zQ0:(Tryz.prog.info? 101).map (fun i=>(i.zero,i.size,i.bytes))=some (some (.pointer none),1,8):=by kernel_rfl
theorem info_F:(Tryz.prog.info? 106).any (fun i=>i.zero.any (fun z=>z.cells.size==15) && (i.size==15 && decide (i.bytes≤1000)))=true:=by kernel_rfl
theorem info_F2:∃i z,Tryz.prog.info? 106=some i∧i.zero=some z∧i.size=15∧z.cells.size=15∧i.bytes≤1000:=by
 have h:=info_F;cases hi:Tryz.prog.info? 106 with
 |none=>rw[hi]at h;cases h
 | some i=>
  rw[hi]at h;simp only[Option.any_some,Bool.and_eq_true,beq_iff_eq,decide_eq_true_eq]at h;obtain⟨h1,h2,h3⟩:=h;cases hz:i.zero with
  |none=>rw[hz]at h1;cases h1
  |some z=>
   rw[hz]at h1;simp only[Option.any_some,beq_iff_eq]at h1;exact⟨i,z,rfl,hz,h2,h1,h3⟩
def GenO {α:Type} (F:Fence) (n:Nat) (P:Program) (g:Nat) (lb:Array Value) (encs:α→Array Value) (Kp:World→World→Prop) (X:List α→α→World→Prop) (S Sp:List α→Prop) (w:World):Prop:=
 ∀(l:Nat) (J Jx:List α→World→Prop) (W:World),Below w.heap.size w W→(∀s A B,J s A→Later A B→J s B)→OwnFrom W.heap.size J→OwnFrom W.heap.size Jx→
  (∀pre x V,J pre V→X pre x V→YieldAt F (n-1) P l (encs x) V fun e V'=>(e= .returned (.bool true)∧J (pre++[x]) V'∧Kp V V'∧KeepsFrom W.heap.size V V')∨(e= .returned (.bool false)∧Jx (pre++[x]) V'∧KeepsFrom W.heap.size V V'))→
  J [] W→CallsIn F n P g (#[.func (.yield l) #[] #[]]++lb) W fun e W'=>(∃v,e= .returned v)∧((∃xs,S xs∧J xs W')∨∃pre,Sp pre∧Jx pre W')
theorem zLh {F:Fence} {n:Nat} {P:Program} {α:Type} {g:Operand} {ps:Array Tmp} {assign body:Code} {Q:Exit→Act→World→Prop} {a:Act} {w:World}
  (hro:F.round=none)(h1:1≤n) {gf:Nat} {lb:Array Value} (hg:a.eval g= .func (.func gf) #[] lb)(hFg:F.fn gf)(eg:∀args w,(callFunc gf args).run P w= .ok (.enter gf args) w)
  {encs:α→Array Value} {Kp:World→World→Prop} {X:List α→α→World→Prop} {S Sp:List α→Prop} (hseq:GenO F (n-1) P gf lb encs Kp X S Sp w)
  (hKt:∀ {A B C:World},Kp A B→Kp B C→Kp A C)(hKb:∀(W:World) (l:Nat) (o o':Obj),w.heap.size≤l→W.heap[l]? =some o→o.isCells=false→o.isWalk=false→Kp W (W.putObj l o'))
  (hKl:∀ {A B:World},w.heap.size≤A.heap.size→Later A B→Kp A B)(hXl:∀pre x A B,X pre x A→Later A B→X pre x B)
  (hXb:∀pre x (W:World) (l:Nat) (o o':Obj),w.heap.size≤l→W.heap[l]? =some o→o.isCells=false→X pre x W→X pre x (W.putObj l o'))(hps:∀x,(encs x).size=ps.size)
  (I Ix:List α→World→Prop)(hI:OwnFrom w.heap.size I)(hIl:∀s A B,I s A→Later A B→I s B)(hIx:OwnFrom w.heap.size Ix)(h0:I [] w)
  (A:α→Act→World→Prop)(hA:∀x a' (W:World) (l:Nat) (o o':Obj),w.heap.size≤l→W.heap[l]? =some o→o.isCells=false→A x a' W→A x a' (W.putObj l o'))
  (hassign:∀(l:Nat) (pre:List α) (x:α) (W:World) (K:Act→World→Prop),w.heap.size≤W.heap.size→I pre W→X pre x W→(∀a' W',Later W W'→A x a' W'→K a' W')→
   assign.wpIn (F.inRound l) (n-1-1) P (Exit.then K (fun _ _ _=>False)) { tmps:=(ps.zip (encs x)).foldl (fun t (p,v)=>t.setIfInBounds p v) a.tmps,defers:=[] } W)
  (hbody:∀(l:Nat) (pre:List α) (x:α) (a':Act) (W:World),I pre W→X pre x W→A x a' W→body.wpIn (F.inRound l) (n-1-1) P (postX w.heap.size Kp I Ix (pre++[x]) W) a' W)
  (hdone:∀(D:Nat) (xs:List α) (W:World),w.heap.size≤D→S xs→I xs W→W.heap[D]? =some (.deferred (some []))→Q .normal { a with defers:= { target:= .collected D,args:=#[] } ::a.defers } W)
  (hstop:∀(D:Nat) (pre:List α) (W:World),w.heap.size≤D→Sp pre→Ix pre W→W.heap[D]? =some (.deferred (some []))→Code.ret.wpIn F n P Q { a with defers:= { target:= .collected D,args:=#[] } ::a.defers } W):
  (Code.rangeFunc g ps assign body).wpIn F n P Q a w:=by
 refine wpIn_rangeFunc fun fn hfn=> ?_;rw[hro];obtain⟨rec,hrec⟩:∃rec:LoopState→Option Code→Loop,rec=fun st pe=> { state:=st,pending:=pe,fn,tmps:=a.tmps,params:=ps,assign,body,defers:=w.heap.size } :=⟨_,rfl⟩;obtain⟨V,hV⟩:∃V,(w.alloc (.deferred (some []))).alloc (.loop (rec .ready none))=V:=⟨_,rfl⟩
 have hl:V.heap[w.heap.size+1]? =some (.loop (rec .ready none)):=by
  have:=World.alloc_heap_new (w.alloc (.deferred (some []))) (.loop (rec .ready none));rw[World.size_alloc]at this;rw[←hV];exact this
 have hk:V.heap[w.heap.size]? =some (.deferred (some [])):=by
  rw[←hV];exact(Below.heap_alloc _ _ _ (by simp)).trans (World.alloc_heap_new w _)
 have hi:I [] V:=by rw[←hV];exact hI.alloc _ (hI.alloc _ h0)
 have hb:Below w.heap.size w V:=by rw[←hV];exact((Below.refl _ w).alloc (Nat.le_refl _) _).alloc (by simp) _
 have hVs:V.heap.size=w.heap.size+1+1:=by rw[←hV];simp
 refine⟨w.heap.size+1,[{ target:= .collected w.heap.size,args:=#[] }],V, { target:= .fn (.func gf) lb,args:=#[.func (.yield (w.heap.size+1)) #[] #[]] },V,gf,#[.func (.yield (w.heap.size+1)) #[] #[]]++lb,V,?_,?_,?_,?_,fun _=>h1,?_⟩
 ·rw[←hV,hrec];exact run_enterLoop_outer _ _ _ _ _
 ·simp only[resolve,hg]
  simp[go_sem]
 ·intro f' hf';simp[Target.leads]at hf';subst hf';exact hFg
 ·simp[invoke,go_sem,eg]
 refine(hseq (w.heap.size+1) (fun pre W=>I pre W∧W.heap[w.heap.size+1]? =some (.loop (rec .ready none))∧W.heap[w.heap.size]? =some (.deferred (some [])))
  (fun pre W=>Ix pre W∧W.heap[w.heap.size+1]? =some (.loop (rec .done (some .ret)))∧W.heap[w.heap.size]? =some (.deferred (some []))) V hb
  (fun s A B hs h=>⟨hIl s A B hs.1 h,zAb h hs.2.1,zAb h hs.2.2⟩)
  (fun s A B row hs hg hr=>⟨hI s A B row hs.1 hg (fun r e=>⟨by have:=(hr r e).1;omega,(hr r e).2⟩),(hg.block _ (eS hs.2.1) (fun e=>by have:=(hr _ e.symm).1;omega)).trans hs.2.1,(hg.block _ (eS hs.2.2) (fun e=>by have:=(hr _ e.symm).1;omega)).trans hs.2.2⟩)
  (fun s A B row hs hg hr=>⟨hIx s A B row hs.1 hg (fun r e=>⟨by have:=(hr r e).1;omega,(hr r e).2⟩),(hg.block _ (eS hs.2.1) (fun e=>by have:=(hr _ e.symm).1;omega)).trans hs.2.1,(hg.block _ (eS hs.2.2) (fun e=>by have:=(hr _ e.symm).1;omega)).trans hs.2.2⟩)
  ?_ ⟨hi,hl,hk⟩).mono ?_
 ·rintro pre x W ⟨ji,jl,jk⟩ hx
  have hlt:w.heap.size+1<W.heap.size:=(eS jl);have hy:=run_yield (P:=P) (args:=encs x) jl (by rw[hrec];exact hps x);rw[hrec]at hy;refine⟨fn,_,assign,body,hy,roundIn_of_wpIn hfn (hassign _ pre x W _ (by omega) ji hx fun a' W' hL hAx=> ?_)⟩;have pL:Kp W W':=hKl (by omega) hL;have kf1:KeepsFrom V.heap.size W W':=⟨Below.size hL,fun i o hi ho hc=>zAb hL ho⟩;replace ji:=hIl _ _ _ ji hL
  replace jl:=zAb hL jl
  replace jk:=zAb hL jk
  replace hx:=hXl _ _ _ _ hx hL
  replace hlt:w.heap.size+1<W'.heap.size:=(eS jl)
  refine⟨_,run_beginRound jl (by rw[hrec]),?_⟩;obtain⟨U,hU⟩:∃U,W'.putObj (w.heap.size+1) (.loop { rec .ready none with state:= .busy })=U:=⟨_,rfl⟩;have l2:U.heap[w.heap.size+1]? =some (.loop { rec .ready none with state:= .busy }):=by rw[←hU];exact World.putObj_heap_same hlt
  have k2:U.heap[w.heap.size]? =some (.deferred (some [])):=by rw[←hU];exact(World.putObj_heap_other (by omega)).trans jk
  have kf2:KeepsFrom V.heap.size W U:=⟨Nat.le_trans kf1.size (by rw[←hU];exact(grownBy_putObj' W' _ _).size),fun i o hi ho hc=>by rw[←hU];exact(World.putObj_heap_other (by omega)).trans (kf1.same i o hi ho hc)⟩;have p2:Kp W U:=by rw[←hU];exact hKt pL (hKb _ _ _ _ (by omega) jl rfl rfl)
  have a2:A x a' U:=by rw[←hU];exact hA _ _ _ _ _ _ (by omega) jl rfl hAx
  have i2:I pre U:=by rw[←hU];exact hI.putObj _ ji (by omega) jl rfl
  have x2:X pre x U:=by rw[←hU];exact hXb _ _ _ _ _ _ (by omega) jl rfl hx
  rw[hU];refine wpIn_mono (hbody _ pre x a' U i2 x2 a2) ?_
  have fin:∀(jump:Option Code) (Z:World),KeepsFrom w.heap.size U Z→
    (Instr.endRound (w.heap.size+1) jump).run P Z= .ok (.bool jump.isNone) (Z.putObj (w.heap.size+1) (.loop (rec (if jump.isNone then .ready else .done) jump)))∧Z.heap[w.heap.size+1]? =some (.loop { rec .ready none with state:= .busy })∧
    (Z.putObj (w.heap.size+1) (.loop (rec (if jump.isNone then .ready else .done) jump))).heap[w.heap.size+1]? =some (.loop (rec (if jump.isNone then .ready else .done) jump))∧
    (Z.putObj (w.heap.size+1) (.loop (rec (if jump.isNone then .ready else .done) jump))).heap[w.heap.size]? =some (.deferred (some [])):=fun jump Z hZ=>by
   have l3:=hZ.same _ _ (by omega) l2 rfl;have r3:=run_endRound (P:=P) jump l3;rw[hrec]at r3⊢;exact⟨r3,by rw[hrec]at l3;exact l3,World.putObj_heap_same (eS l3),(World.putObj_heap_other (by omega)).trans (hZ.same _ _ (Nat.le_refl _) k2 rfl)⟩
  have kfin:∀(o':Obj) (Z:World),KeepsFrom w.heap.size U Z→KeepsFrom V.heap.size W (Z.putObj (w.heap.size+1) o'):=fun o' Z hZ=>⟨Nat.le_trans kf2.size (Nat.le_trans hZ.size (grownBy_putObj' Z _ _).size),fun i o hi ho hc=>(World.putObj_heap_other (by omega)).trans (hZ.same i o (by omega) (kf2.same i o hi ho hc) hc)⟩;rintro e a3 Z hp;cases e with
  |normal=>
   obtain⟨hZ,hp3,hi3⟩:=hp;obtain⟨hr,l3,l4,k4⟩:=fin none Z hZ;exact⟨_,_,hr,.inl ⟨rfl,⟨hI.putObj _ hi3 (by omega) l3 rfl,l4,k4⟩,hKt (hKt p2 hp3) (hKb _ _ _ _ (by omega) l3 rfl rfl),kfin _ Z hZ⟩⟩
  |ret=>
   obtain⟨hZ,hi3⟩:=hp;obtain⟨hr,l3,l4,k4⟩:=fin (some .ret) Z hZ;exact⟨_,_,hr,.inr ⟨rfl,⟨hIx.putObj _ hi3 (by omega) l3 rfl,l4,k4⟩,kfin _ Z hZ⟩⟩
  |exit id=>exact hp.elim
  |goto t=>exact hp.elim
  |panic ch=>exact hp.elim
  |outgrown=>exact hp.elim
 ·rintro e W2 ⟨⟨v,rfl⟩,(⟨xs,hS,ji,jl,jk⟩|⟨pre,hSp,ji,jl,jk⟩)⟩
  ·exact ⟨none,_,by have:=run_endLoop (P:=P) jl (by rw[hrec];simp);rw[hrec]at this;exact this,hdone _ xs _ (Nat.le_refl _) hS (hI.putObj _ ji (by omega) jl rfl) ((World.putObj_heap_other (by omega)).trans jk)⟩
  ·exact ⟨some .ret,_,by have:=run_endLoop (P:=P) jl (by rw[hrec];simp);rw[hrec]at this;exact this,hstop _ pre _ (Nat.le_refl _) hSp (hIx.putObj _ ji (by omega) jl rfl) ((World.putObj_heap_other (by omega)).trans jk)⟩
open Go.RowKit Go.Shelf Go.ChangeMaps
attribute [local go_sem] Oper.semAt_some
structure EsI (es:Array MapEntry) (cf:Nat):Prop where
 ki:∀e∈es.toList,∃z:Int,e.key= .int .i64 z
 bn:∀e∈es.toList,e.born<cf
 nd:(es.toList.map (·.born)).Nodup
theorem zI1(W:World)(r:Nat)(o:Obj):setBlock W r o=W.putObj r o:=rfl
def XkM (es:Array MapEntry) (pre:List Int) (x:Int) (W:World):Prop:=pre.length<es.size∧(∀y∈pre,∃e∈es.toList,e.key= .int .i64 y)∧∃e∈es.toList,e.key= .int .i64 x
attribute [local go_sem] Oper.semAt_some
def YkP (es:Array MapEntry) (xs:List Int):Prop:=xs.length≤es.size∧(xs.map (Value.int .i64)).Perm (es.toList.map (·.key))
theorem zQ1 {es:Array MapEntry} {seen:Array Nat} {e:MapEntry} (hn:(es.toList.map (·.born)).Nodup)(he:e∈(leftOf es seen).toList):(leftOf es seen).toList.Perm (e::(leftOf es (seen.push e.born)).toList):=by
 unfold leftOf at*;rw[Array.toList_filter]at he⊢;rw[Array.toList_filter]
 have hc:∀(x:MapEntry),(seen.push e.born).contains x.born=(seen.contains x.born||(e.born==x.born)):=fun x=>by
  rw[contains_push];cases seen.contains x.born<;>simp[Bool.beq_comm]
 generalize es.toList=es' at*;induction es' with
 |nil=>simp at he
 | cons x l ih=>
  rw[List.map_cons,List.nodup_cons]at hn;by_cases hx:x=e
  ·subst hx
   have h1:=(List.mem_filter.1 he).2
   have h2:∀y∈l,(!(seen.push x.born).contains y.born)=(!seen.contains y.born):=fun y hy=>by
    have:(x.born==y.born)=false:=by
     rw[beq_eq_false_iff_ne];intro e
     exact hn.1 (e▸List.mem_map.2 ⟨y,hy,rfl⟩)
    rw[hc,this,Bool.or_false]
   rw[List.filter_cons_of_pos (p:=fun(y:MapEntry)=> !seen.contains y.born) h1,List.filter_cons_of_neg (p:=fun(y:MapEntry)=> !(seen.push x.born).contains y.born) (by show ¬((!(seen.push x.born).contains x.born)=true);rw[hc];simp),List.filter_congr h2]
  ·have hm:e∈l.filter fun e=> !seen.contains e.born:=by
    rcases List.mem_filter.1 he with⟨h1,h2⟩
    rcases List.mem_cons.1 h1 with h1|h1
    ·exact absurd h1.symm hx
    ·exact List.mem_filter.2 ⟨h1,h2⟩
   have hel:e∈l:=(List.mem_filter.1 hm).1
   have hne:(e.born==x.born)=false:=by
    rw[beq_eq_false_iff_ne];intro q
    exact hn.1 (q▸List.mem_map.2 ⟨e,hel,rfl⟩)
   have:=ih hn.2 hm;by_cases hs:(!seen.contains x.born)=true
   ·rw[List.filter_cons_of_pos (p:=fun(y:MapEntry)=> !seen.contains y.born) hs,List.filter_cons_of_pos (p:=fun(y:MapEntry)=> !(seen.push e.born).contains y.born) (by show(!(seen.push e.born).contains x.born)=true;rw[hc,hne,Bool.or_false];exact hs)]
    exact(this.cons x).trans (List.Perm.swap _ _ _)
   ·rw[List.filter_cons_of_neg (p:=fun(y:MapEntry)=> !seen.contains y.born) hs,List.filter_cons_of_neg (p:=fun(y:MapEntry)=> !(seen.push e.born).contains y.born) (by show ¬((!(seen.push e.born).contains x.born)=true);rw[hc,hne,Bool.or_false];exact hs)]
    exact this
theorem zQ2 {es:Array MapEntry} {seen:Array Nat} {e:MapEntry} {z:Int} {pre:List Int} (hn:(es.toList.map (·.born)).Nodup)(he:e∈(leftOf es seen).toList)(hz:e.key= .int .i64 z)(h:(pre.map (Value.int .i64)++(leftOf es seen).toList.map (·.key)).Perm (es.toList.map (·.key))):((pre++[z]).map (Value.int .i64)++(leftOf es (seen.push e.born)).toList.map (·.key)).Perm (es.toList.map (·.key)):=by
 refine List.Perm.trans ?_ h;have h1:=(zQ1 hn he).map (·.key);rw[List.map_cons,hz]at h1;rw[List.map_append,List.append_assoc];exact(h1.symm.append_left _)
theorem keysP_in(n:Nat)(hn:1≤n)(l B gf cf n₀:Nat)(es:Array MapEntry)(hes:EsI es cf)(J Jx:List Int→World→Prop)(W:World)(hJ:∀s A B,J s A→Later A B→J s B)(hJo:OwnFrom W.heap.size J)
  (hY:∀pre x V,J pre V→XkM es pre x V→YieldAt Fence.wide (n-1) Tryz.prog l (encK x) V fun e V'=>(e= .returned (.bool true)∧J (pre++[x]) V'∧KWk n₀ V V')∨(e= .returned (.bool false)∧Jx (pre++[x]) V'))
  (hB:W.cell? ⟨B,0,none⟩=some (.map (some gf)))(hm:W.heap[gf]? =some (.map es cf))(hg0:gf<n₀)(h0:J [] W):
  CallsIn Fence.wide n Tryz.prog 143 #[.func (.yield l) #[] #[],.pointer (some ⟨B,0,none⟩)] W fun e W'=>(∃v,e= .returned v)∧((∃xs,YkP es xs∧J xs W')∨∃pre,True∧Jx pre W'):=by
 have la:=zAe W (.mapIter (some gf) cf #[] cf);have hrg:=run_range_map (P:=Tryz.prog) W 86 _ _ gf es cf Tryz.underlying86 hm;have hit:=heap_alloc_new W (.mapIter (some gf) cf #[] cf);have hm1:=zAb la hm
 have HREL:Hid (∃(seen:Array Nat) (pre:List Int),J pre (W.alloc (.mapIter (some gf) cf #[] cf))∧(W.alloc (.mapIter (some gf) cf #[] cf)).heap[W.heap.size]? =some (.mapIter (some gf) cf seen cf)∧(W.alloc (.mapIter (some gf) cf #[] cf)).heap[gf]? =some (.map es cf)∧pre.length+(leftOf es seen).size≤es.size∧(∀y∈pre,∃e∈es.toList,e.key= .int .i64 y)∧(pre.map (Value.int .i64)++(leftOf es seen).toList.map (·.key)).Perm (es.toList.map (·.key))):=
  ⟨#[],[],hJ _ _ _ h0 la,hit,hm1,by unfold leftOf;simp only[List.length_nil,Nat.zero_add];exact Array.size_filter_le,by simp,by rw[show (leftOf es #[]).toList=es.toList from by unfold leftOf;rw[Array.toList_filter];exact List.filter_eq_self.2 (fun _ _=>by simp)];simp⟩
 have HY:=zAc hY;have HJ:=zAc hJ;have HJO:=zAc hJo;clear hJo;have HES:=zAc hes;clear hm hm1 hit la hY hJ h0 hes;refine callsIn_of_wp Tryz.func143 rfl trivial ?_ rfl;simp only[Tryz.ntmps143,List.size_toArray,List.length_cons,List.length_nil,Nat.reduceAdd,Nat.reduceSub,Array.replicate_succ,Array.replicate_zero,List.push_toArray,List.append_toArray,List.nil_append,List.cons_append];gi_wp2
 clear hrg hB;generalize hr:W.heap.size=r at*;generalize W.alloc (.mapIter (some gf) cf #[] cf)=W1 at*;gi_loopw [3] (fun _ wx=>∃(seen:Array Nat) (pre:List Int),J pre wx∧wx.heap[r]? =some (.mapIter (some gf) cf seen cf)∧wx.heap[gf]? =some (.map es cf)∧pre.length+(leftOf es seen).size≤es.size∧(∀y∈pre,∃e∈es.toList,e.key= .int .i64 y)∧(pre.map (Value.int .i64)++(leftOf es seen).toList.map (·.key)).Perm (es.toList.map (·.key))) (fun _ wx=>match wx.heap[r]? with|some (.mapIter _ _ seen _)=>(leftOf es seen).size|_=>0)
 case atStart=>exact HREL.out
 case round=>
  obtain⟨seen,pre,hj,hi,hm,hc,hk,hpm⟩:=hrel;clear HREL;rename World=>wx
  rcases Go.run_next_at (P:=Tryz.prog) wx 0 r gf cf cf seen es cf hi hm (fun x hx=>HES.out.bn x hx) (Nat.le_refl _)with⟨h0,hnd⟩|⟨e,he,w1,hw1,hnx⟩
  ·have HK:=zAc (show YkP es pre from⟨by omega,by
    have h1:(leftOf es seen).toList=[]:=List.eq_nil_of_length_eq_zero (by simpa using h0);rw[h1]at hpm;simpa using hpm⟩)
   clear hc hk h0 hpm;gi_wp2
   go_end0
   exact⟨⟨_,rfl⟩,.inl ⟨_,HK.out,hj⟩⟩
  ·obtain ⟨hem,hns⟩:=mem_left he
   have hsh:=left_shrinks es seen e he;obtain⟨z,hz⟩:=HES.out.ki e hem
   have lw:Later wx w1:=by
    rcases hw1 with q|q
    ·rw[q];exact Later.refl _
    ·rw[q];exact Later.drew _
   have hi1:=zAb lw hi;have hm1:=zAb lw hm;have hiv:(setBlock w1 r (.mapIter (some gf) cf (seen.push e.born) cf)).heap[r]? =some (.mapIter (some gf) cf (seen.push e.born) cf):=zK7 hi1;have hgr:gf≠r:=fun q=>by rw[q,hi]at hm;cases hm
   have hmv:(setBlock w1 r (.mapIter (some gf) cf (seen.push e.born) cf)).heap[gf]? =some (.map es cf):=by
    show(w1.heap.setIfInBounds r _)[gf]? =_
    rw[Array.getElem?_setIfInBounds_ne (Ne.symm hgr)];exact hm1
   have hen:=Go.run_entry_at (P:=Tryz.prog) (setBlock w1 r (.mapIter (some gf) cf (seen.push e.born) cf)) r gf cf seen es cf e hiv hmv hem HES.out.nd;have HPM:=zAc (zQ2 HES.out.nd he hz hpm);rw[hz]at hnx hen;have HXP:=zAc (show XkM es pre z (setBlock w1 r (.mapIter (some gf) cf (seen.push e.born) cf))from⟨by omega,hk,e,hem,hz⟩)
   have HNK:=zAc (show ∀y∈pre++[z],∃e∈es.toList,e.key= .int .i64 y from fun y hy=>by
    rcases List.mem_append.1 hy with hy|hy
    ·exact hk y hy
    ·rw[List.mem_singleton.1 hy];exact⟨e,hem,hz⟩)
   have HC:=zAc (show(pre++[z]).length+(leftOf es (seen.push e.born)).size≤es.size by rw[List.length_append];simp only[List.length_cons,List.length_nil];omega);have HSH:=zAc hsh;have HI:=zAc hi;have HIV:=zAc hiv;have HMV:=zAc hmv;have HJV:=zAc (show J pre (setBlock w1 r (.mapIter (some gf) cf (seen.push e.born) cf))from by rw[zI1];exact HJO.out.putObj _ (HJ.out _ _ _ hj lw) (Nat.le_refl _) hi1 rfl);clear hpm;clear hc hk hsh hiv hmv hi1 hm1 hem hns he hz hw1 lw hgr hj hm hi;generalize setBlock w1 r (.mapIter (some gf) cf (seen.push e.born) cf)=V at*;generalize seen.push e.born=seen2 at*;obtain⟨fn,tmps,assign,body,hy,hR⟩:=HY.out pre z V HJV.out HXP.out;dsimp only[encK]at hy
   gi_wp2
   refine hR.mono ?_;rintro e W3 (⟨rfl,hJ3,hk3⟩|⟨rfl,hJx3⟩)
   ·have hi3:=hk3.2 r _ HIV.out rfl
    have hm3:=(hk3.1.block gf hg0).trans HMV.out;have hix:=HI.out;have hsx:=HSH.out;gi_wp2
    go_roundw
    case rel=>exact⟨seen2,pre++[z],hJ3,hi3,hm3,HC.out,HNK.out,HPM.out⟩
    case measure=>simp[hi3,hix];exact hsx
   ·gi_wp2
    refine bodyPost_ret (results_none rfl _ _ _) rfl ?_;exact⟨⟨_,rfl⟩,.inr ⟨_,trivial,hJx3⟩⟩
theorem zQ3(n:Nat)(hn:1≤n)(B gf cf n₀:Nat)(es:Array MapEntry)(hes:EsI es cf)(w:World)(hB:w.heap[B]? =some (.cells #[.map (some gf)] 86 (0,0)))(hm:w.heap[gf]? =some (.map es cf))(hg:gf<n₀):
  GenO Fence.wide n Tryz.prog 143 #[.pointer (some ⟨B,0,none⟩)] encK (KWk n₀) (XkM es) (YkP es) (fun _=>True) w:=fun l J Jx W hW hJ hJo _ hY h0=>
 keysP_in n hn l B gf cf n₀ es hes J Jx W hJ hJo (fun pre x V h1 h2=>(hY pre x V h1 h2).mono (fun e V' h=>h.imp (fun h=>⟨h.1,h.2.1,h.2.2.1⟩) (fun h=>⟨h.1,h.2.1⟩))) (zAa (zAb hW hB) 0) (zAb hW hm) hg h0
attribute [local go_sem] Oper.semAt_some
def GaM (B n₀:Nat) (pre:List Int) (W:World):Prop:=∃v,W.heap[B]? =some (.cells #[v] 181 (0,0))∧W.ownsRow n₀ 3 1 v pre.length (pre.map (Value.int .i64))
theorem GaM.ct {B n₀:Nat} {pre:List Int} {U V:World} (h:GaM B n₀ pre U)(c:CT U V):GaM B n₀ pre V:=by
 obtain⟨v,h1,h2⟩:=h;exact⟨v,c.2 _ _ h1 rfl,zM5 h2 c⟩
theorem nanI(x:Int)(w:World):Calls Tryz.prog 215 #[.int .i64 x] w fun e w'=>e= .returned (.bool false)∧w'=w:=by
 go_enter Tryz.func215,Tryz.ntmps215;go_wp2_with fail;go_ret
 exact⟨rfl,rfl⟩
theorem lessI(x y:Int)(w:World):Calls Tryz.prog 262 #[.int .i64 x,.int .i64 y] w fun e w'=>(∃b,e= .returned (.bool b))∧w'=w:=by
 go_enter Tryz.func262,Tryz.ntmps262;go_wp2_with fail;refine(nanI x _).mono ?_;rintro e w1 ⟨rfl,rfl⟩;go_wp2_with fail;go_ret
 exact⟨⟨_,rfl⟩,rfl⟩
attribute [local go_sem] Oper.semAt_some
theorem zLi(B gf cf:Nat)(es:Array MapEntry)(hes:EsI es cf)(hsz:es.size≤1000)(w:World)(hB:w.heap[B]? =some (.cells #[.map (some gf)] 86 (0,0)))(hm:w.heap[gf]? =some (.map es cf)):
  Calls Tryz.prog 191 #[.slice none 0 0,.func (.func 143) #[] #[.pointer (some ⟨B,0,none⟩)]] w fun e w'=>Later w w'∧∃v xs,e= .returned v∧YkP es xs∧w'.ownsRow w.heap.size 3 1 v xs.length (xs.map (Value.int .i64)):=by
 have l0:=zAe w (.cells #[.slice none 0 0] 181);have C0:=zAc (heap_alloc_new w (.cells #[.slice none 0 0] 181));have HB1:=zAc (zAb l0 hB);have HM1:=zAc (zAb l0 hm);have hgl:=(eS hm);have HSZ:=zAc hsz;clear hsz;refine(callsIn_wide (n:=5)).1 ?_;refine callsIn_of_wp_marks Tryz.func191 rfl trivial ?_ rfl;simp only[Tryz.ntmps191,List.size_toArray,List.length_cons,List.length_nil,Nat.reduceAdd,Nat.reduceSub,Array.replicate_succ,Array.replicate_zero,List.push_toArray,List.append_toArray,List.nil_append,List.cons_append];gi_wp2
 have hs1:(w.alloc (.cells #[.slice none 0 0] 181)).heap.size=w.heap.size+1:=by simp
 generalize w.alloc (.cells #[.slice none 0 0] 181)=w1 at*;have hs0:=l0.size
 refine zLh (w:=w1) rfl (by omega) (gf:=143) (lb:=#[.pointer (some ⟨B,0,none⟩)]) rfl trivial (enters_of Tryz.func143 (by kernel_rfl) rfl)
  (zQ3 4 (by omega) B gf cf w.heap.size es hes w1 HB1.out HM1.out hgl)
  (fun h k=>h.trans k) (fun W l o o' hl ho hc hw=>KWk.put (by omega) ho hc hw) (fun hA hL=>KWk.of hL (by omega)) (fun _ _ _ _ h _=>h) (fun _ _ _ _ _ _ _ _ _ h=>h) (fun _=>rfl)
  (fun pre W=>GaM w.heap.size (w.heap.size+1) pre W∧Below w.heap.size w W) (fun pre W=>False)
  (OwnFrom.and (fun s A B row hs hg hr=>hs.ct (CT.row hg (fun r e=>(hr r e).2))) (ownFrom_below (Nat.le_refl _) (by omega)))
  (fun s A B h l=>⟨h.1.ct (CT.of l),h.2.trans (l.mono h.2.size)⟩)
  (fun s A B row hs hg hr=>hs)
  ⟨⟨.slice none 0 0,C0.out,World.ownsRow_nil _ _ _ _⟩,l0⟩
  (fun x a' W=>a'= { tmps:=#[.slice none 0 0,.func (.func 143) #[] #[.pointer (some ⟨B,0,none⟩)],.pointer (some ⟨w.heap.size,0,none⟩),undef,.slice none 0 0,.int .i64 x,.func (.func 143) #[] #[.pointer (some ⟨B,0,none⟩)],.int .i64 x,undef,undef,undef,undef,undef],defers:=[] })
  (fun x a' W l o o' hl ho hc h=>h) ?assign ?body ?done ?stop
 case assign=>
  rintro l pre x W K hsz _ hX hK;dsimp only[encK]
  gi_wp2
  exact hK _ _ (Later.refl _) rfl
 case body=>
  rintro l pre x a' W ⟨⟨v,h1,hOw⟩,hbW⟩ ⟨hpl,hpk,_⟩ rfl;have hpl2:pre.length≤1000:=by have:=HSZ.out;omega
  have K0:=zAa h1;have F0:=zAd h1;have hol:=(eS h1);obtain⟨i0,hi,hz0,hz1,hz2⟩:=info_parts info_i64;have HNW:=zAc (newG W 3 [Value.int .i64 x]);have H1:=zAc h1;have hbs:=hbW.size;have HOW:=zAc (hOw.alloc (.cells [Value.int .i64 x].toArray 3));have hvb:∀q,v.ownBlock=some q→w.heap.size+1≤q:=fun q hq=>(hOw.lt q hq).1
  have hvc:∀q,v.ownBlock=some q→∃cur t f,W.heap[q]? =some (.cells cur t f):=fun q hq=>by
   rcases hOw.2 with⟨e,_⟩|⟨g,cap,cur,e,_,hh,_⟩
   ·rw[e]at hq;cases hq
   ·rw[e]at hq;cases hq;exact⟨_,_,_,hh⟩
  have HVB:=zAc hvb;have HVC:=zAc hvc;have HPL:=zAc hpl2;clear hOw h1 hpl hpk hvb hvc hpl2;gi_wp2_with (gi_at_builtin;refine wpListIn_append_own _ rfl (.tmp 8) (.tmp 10) 181 rfl (w.heap.size+1) 3 i0 (.int .i64 0) 1 8 Tryz.underlying181 hi hz0 hz1 hz2 rfl (by decide) v pre.length (pre.map (Value.int .i64)) rfl HOW.out ⟨W.heap.size,0,none⟩ 1 1 [Value.int .i64 x] rfl rfl HNW.out (by intro u hu;simp at hu;subst hu;rfl) (by have:=HPL.out;simp only[maxLen];omega) (by have:=HPL.out;omega) (by simp;omega) ?_;intro v2 W2 hrow2 hg2 hnn;obtain⟨g2,cp2,rfl⟩:=ownsRow_succ hrow2;have hob2:=(hg2.block w.heap.size (by simp;omega) (fun e=>by have:=HVB.out _ e.symm;omega)).trans ((Below.heap_alloc W _ w.heap.size hol).trans H1.out);have Kv2:=zAa hob2;have Fv2:=zAd hob2)
  have hkeep:∀i o,W.heap[i]? =some o→i≠w.heap.size→v.ownBlock≠some i→(W2.setCell ⟨w.heap.size,0,none⟩ (.slice (some ⟨g2,0,none⟩) (pre.length+1) cp2)).heap[i]? =some o:=fun i o hi h2 h3=>
   hsetG ((hg2.block i (by have:=(eS hi);simp;omega) (fun e=>h3 e.symm)).trans ((Below.heap_alloc W _ i (eS hi)).trans hi)) h2
  have hsz2:W.heap.size+1≤W2.heap.size:=by have:=hg2.size;simpa using this
  have hnc:∀i o,W.heap[i]? =some o→o.isCells=false→i≠w.heap.size∧v.ownBlock≠some i:=fun i o hi hc=>by
   refine⟨fun e=> ?_,fun e=> ?_⟩
   ·rw[e,H1.out]at hi
    cases hi
    cases hc
   ·obtain ⟨cur,t,f,hh⟩:=HVC.out i e
    rw[hh]at hi;cases hi
    cases hc
  have hbn2:Below w.heap.size W (W2.setCell ⟨w.heap.size,0,none⟩ (.slice (some ⟨g2,0,none⟩) (pre.length+1) cp2)):=⟨hg2.os,hg2.tape,hg2.output,by simp;omega,fun i hi=>by
   cases hh:W.heap[i]? with
   |none=>have:=Array.getElem?_eq_none_iff.1 hh;omega
   |some o=>exact hkeep i o hh (by omega) (fun e=>by have:=HVB.out i e;omega)⟩
  refine⟨⟨hbn2.size,fun i o hi ho hc=>hkeep i o ho (hnc i o ho hc).1 (hnc i o ho hc).2⟩,⟨hbn2,fun i o ho hw=>hkeep i o ho (hnc i o ho (zGo hw)).1 (hnc i o ho (zGo hw)).2⟩,⟨_,zAh hob2 0 _,?_⟩,hbW.trans hbn2⟩;rw[List.length_append,List.map_append];refine⟨hrow2.1,hrow2.2.imp id ?_⟩;rintro⟨g,cp,cur,e1,e2,e3,r⟩;exact⟨g,cp,cur,e1,e2,hsetG e3 (by omega),r⟩
 case done=>
  rintro D xs W hD hxs ⟨⟨v,h1,hOw⟩,hbW⟩ hK;have K1:=zAa h1;gi_wp2
  refine⟨by simp,.inl ⟨_,_,rfl,run_takeDeferred hK,?_⟩⟩;exact⟨v,by simp[results,Tryz.results191,go_sem],hbW.trans (belowK_b (w:=w) (Nat.le_refl _) W D _ _ (by omega) hK rfl rfl),v,xs,rfl,hxs,zCl (zM5 hOw (CT.put hK rfl)) (by omega)⟩
 case stop=>
  rintro D pre W hD _ h;exact h.elim
theorem zQ4(B gf cf:Nat)(es:Array MapEntry)(hes:EsI es cf)(hsz:es.size≤1000)(w:World)(hB:w.heap[B]? =some (.cells #[.map (some gf)] 86 (0,0)))(hm:w.heap[gf]? =some (.map es cf)):
  Calls Tryz.prog 141 #[.func (.func 143) #[] #[.pointer (some ⟨B,0,none⟩)]] w fun e w'=>Later w w'∧∃v xs,e= .returned v∧YkP es xs∧w'.ownsRow w.heap.size 3 1 v xs.length (xs.map (Value.int .i64)):=by
 have HA:=zAc (zLi B gf cf es hes hsz w hB hm);go_enter Tryz.func141,Tryz.ntmps141;go_wp2_with fail;refine HA.out.mono ?_;rintro e w1 ⟨l1,v,xs,rfl,hx,hv⟩;go_wp2_with fail;go_ret
 exact⟨l1,_,xs,rfl,hx,hv⟩
end Go.Proofs.YteaeilghamjjkaaGreatDoor
