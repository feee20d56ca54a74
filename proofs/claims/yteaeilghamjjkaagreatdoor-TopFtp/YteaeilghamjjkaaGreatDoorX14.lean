import Derived.Test.YteaeilghamjjkaaGreatDoorX15
import Derived.Maps.RangeRun
namespace Go.Proofs.YteaeilghamjjkaaGreatDoor
open Go.RowKit Go.Shelf
set_option maxRecDepth 100000
set_option linter.unusedVariables false
set_option linter.unusedSimpArgs false
def bkR (r:Rw):Nat:=bki r.p r.s r.d r.a r.b
def rwL (L:List Rw):Nat→List Rw:=fun j=>L.filter fun r=>bkR r==j
def zDl (t:Tu) (r:Rw):Bool:=isK t.pr t.src t.dst (kyp t.pr t.sp) t.dp r
def UL (L:List Rw):Prop:=∀(t:Tu),(L.filter (zDl t)).length≤1
theorem zFc {t:Tu} {r:Rw} :zDl t r=true↔r.p=t.pr∧r.s=t.src∧r.d=t.dst∧r.a=kyp t.pr t.sp∧r.b=t.dp:=by
 unfold zDl isK;simp
theorem kyp_idem(p a:Int):kyp p (kyp p a)=kyp p a:=by
 unfold kyp;split<;>simp_all
theorem zUf {t:Tu} {r:Rw} (h:zDl t r=true):bkR r=bkT t:=by
 obtain⟨h1,h2,h3,h4,h5⟩:=zFc.1 h;unfold bkR bkT bki;rw[h1,h2,h3,h4,h5,kyp_idem]
theorem rwL_at(L:List Rw)(t:Tu):(rwL L (bkT t)).filter (zDl t)=L.filter (zDl t):=by
 unfold rwL;rw[List.filter_filter];refine List.filter_congr (fun r _=> ?_);cases hb:zDl t r with
 |false=>rfl
 |true=>simp[zUf hb]
theorem zGr {α:Type} (p:α→Bool):∀(l:List α),(l.findIdx? p=none↔l.filter p=[])
 | []=>by simp
 |x::l=>by
  rw[List.findIdx?_cons];cases hx:p x with
  |true=>simp[hx]
  |false=>simp[hx,zGr p l]
theorem zUg(t:Tu)(ls:Nat→List Rw):kxT t ls=(ls (bkT t)).findIdx? (zDl t):=rfl
theorem zFs(L:List Rw)(t:Tu):kxT t (rwL L)=none↔∀r∈L,zDl t r=false:=by
 rw[zUg,zGr,rwL_at,List.filter_eq_nil_iff];simp
theorem zI9(L:List Rw)(t:Tu)(r:Rw)(hr:r∈L)(ht:zDl t r=true)(hu:UL L):∃k,kxT t (rwL L)=some k∧(rwL L (bkT t))[k]? =some r:=by
 cases hk:kxT t (rwL L) with
 |none=>exact absurd ht (by rw[(zFs L t).1 hk r hr];simp)
 | some k=>
  refine⟨k,rfl,?_⟩;rw[zUg,List.findIdx?_eq_some_iff_getElem]at hk;obtain⟨h1,h2,_⟩:=hk
  have hm:(rwL L (bkT t))[k]∈L.filter (zDl t):=by
   rw[←rwL_at];exact List.mem_filter.2 ⟨List.getElem_mem h1,h2⟩
  have hm2:r∈L.filter (zDl t):=List.mem_filter.2 ⟨hr,ht⟩;have hl:=hu t;rw[List.getElem?_eq_getElem h1];match hq:L.filter (zDl t),hl,hm,hm2 with
  | [],_,hm,_=>cases hm
  | [x],_,hm,hm2=>rw[List.mem_singleton.1 hm,List.mem_singleton.1 hm2]
  |_::_::_,hl,_,_=>simp at hl
theorem rwL_add(L:List Rw)(r:Rw)(i:Nat)(hi:bkR r=i):zSc (rwL L) i r=rwL (L++[r]):=by
 funext j
 unfold zSc rwL;rw[List.filter_append];split
 ·rename_i e
  subst e;simp[hi]
 ·rename_i e
  simp[hi,Ne.symm e]
theorem zH7 {α:Type} (p:α→Bool)(f:α→α):∀(l:List α) (k:Nat),l.findIdx? p=some k→(l.filter p).length≤1→l.modify k f=l.map (fun x=>if p x then f x else x)
 | [],_,h,_=>by simp at h
 | x::l,k,h,hu=>by
  rw[List.findIdx?_cons]at h;cases hx:p x with
  | true=>
   rw[hx]at h;simp only[if_true,Option.some.injEq]at h;subst h;rw[List.filter_cons_of_pos hx]at hu
   have hn:l.filter p=[]:=by
    cases hq:l.filter p with
    |nil=>rfl
    |cons _ _=>rw[hq]at hu;simp at hu
   have hm:l.map (fun x=>if p x then f x else x)=l:=by
    rw[List.filter_eq_nil_iff]at hn;conv=>rhs;rw[←List.map_id l]
    exact List.map_congr_left (fun y hy=>by simp[hn y hy])
   simp[hx,hm]
  | false=>
   rw[hx]at h;simp only[Bool.false_eq_true,if_false]at h;cases hk:l.findIdx? p with
   |none=>rw[hk]at h;simp at h
   |some k'=>
    rw[hk]at h;simp only[Option.map_some,Option.some.injEq]at h;subst h;rw[List.filter_cons_of_neg (by simp[hx])]at hu;simp[hx,zH7 p f l k' hk hu]
def reT (till tn:Int) (r:Rw):Rw:= { r with till:=till,turn:=tn }
def mvR (t:Tu) (till tn:Int) (L:List Rw):List Rw:=L.map fun r=>if zDl t r then reT till tn r else r
theorem bkR_re(till tn:Int)(r:Rw):bkR (reT till tn r)=bkR r:=rfl
theorem mvG(bk:Rw→Nat)(p:Rw→Bool)(f:Rw→Rw)(i k:Nat)(L:List Rw)(hb:∀r,bk (f r)=bk r)(hp:∀r,p r=true→bk r=i)(hk:(L.filter (fun r=>bk r==i)).findIdx? p=some k)(hu:(L.filter p).length≤1)(j:Nat):
  (if j=i then(L.filter (fun r=>bk r==i)).modify k f else L.filter (fun r=>bk r==j))=(L.map (fun r=>if p r then f r else r)).filter (fun r=>bk r==j):=by
 have he:(L.map (fun r=>if p r then f r else r)).filter (fun r=>bk r==j)=(L.filter (fun r=>bk r==j)).map (fun r=>if p r then f r else r):=by
  rw[List.filter_map];refine congrArg (List.map _) (List.filter_congr (fun r _=> ?_))
  have h2:bk (if p r then f r else r)=bk r:=by
   split
   ·exact hb _
   ·rfl
  simp only[Function.comp,h2]
 rw[he]
 have hl:((L.filter (fun r=>bk r==i)).filter p).length≤1:=by
  rw[List.filter_filter];refine Nat.le_trans (Nat.le_of_eq ?_) hu;refine congrArg List.length (List.filter_congr (fun r _=> ?_));cases hq:p r with
  |false=>rfl
  |true=>simp[hp r hq]
 split
 ·rename_i e
  rw[e];exact zH7 p f _ k hk hl
 ·rename_i e
  refine(List.map_id (L.filter (fun r=>bk r==j))).symm.trans (List.map_congr_left (fun r hr=> ?_))
  have hb:p r=false:=by
   cases hq:p r with
   |false=>rfl
   |true=>
    have:=(List.mem_filter.1 hr).2;simp[hp r hq]at this
    exact absurd this.symm e
  simp[hb]
theorem rwL_mv(L:List Rw)(t:Tu)(till tn:Int)(k:Nat)(hk:kxT t (rwL L)=some k)(hu:UL L):mvL (rwL L) (bkT t) k till tn=rwL (mvR t till tn L):=
 funext (mvG bkR (zDl t) (reT till tn) (bkT t) k L (bkR_re till tn) (fun r h=>zUf h) hk (hu t))
theorem zH8 {L:List Rw} (r:Rw)(t:Tu)(hr:zDl t r=true)(hn:∀x∈L,zDl t x=false)(h:UL L):UL (L++[r]):=fun u=>by
 rw[List.filter_append,List.length_append];cases hb:zDl u r with
 |false=>simp[hb];exact h u
 | true=>
  have:L.filter (zDl u)=[]:=by
   rw[List.filter_eq_nil_iff];intro x hx hux
   have h1:=zFc.1 hr;have h2:=zFc.1 hb;have h3:=zFc.1 hux;have:zDl t x=true:=zFc.2 ⟨by rw[h3.1,←h2.1,h1.1],by rw[h3.2.1,←h2.2.1,h1.2.1],by rw[h3.2.2.1,←h2.2.2.1,h1.2.2.1],by rw[h3.2.2.2.1,←h2.2.2.2.1,h1.2.2.2.1],by rw[h3.2.2.2.2,←h2.2.2.2.2,h1.2.2.2.2]⟩;rw[hn x hx]at this;cases this
  simp[this,hb]
theorem UL_nil:UL []:=fun u=>by simp
theorem ptT_L(t:Tu)(id till c tn:Int)(L:List Rw)(hm:zEw till=true)(hc:c<128)(hn:∀r∈L,zDl t r=false):ptT t id till (c,tn,rwL L)=(c+1,tn+1,rwL (L++[roT t id till (tn+1)])):=by
 rw[ptT_yes t id till c tn (rwL L) hm hc ((zFs L t).2 hn)];rw[rwL_add L _ _ (zUf (zFc.2 ⟨rfl,rfl,rfl,rfl,rfl⟩))]
theorem mvT_L(t:Tu)(till tn:Int)(L:List Rw)(r:Rw)(hm:zEw till=true)(hr:r∈L)(ht:zDl t r=true)(hu:UL L):mvT t till (tn,rwL L)=(tn+1,rwL (mvR t till (tn+1) L)):=by
 obtain⟨k,hk,_⟩:=zI9 L t r hr ht hu;rw[mvT_yes t till tn (rwL L) k hm hk,rwL_mv L t till (tn+1) k hk hu]
theorem allL_mem(L:List Rw)(r:Rw):r∈zE5 (rwL L)↔r∈L:=by
 unfold zE5 rwL;rw[List.mem_flatMap];constructor
 ·rintro ⟨j,_,h⟩
  exact(List.mem_filter.1 h).1
 ·intro h
  refine⟨bkR r,?_,List.mem_filter.2 ⟨h,by simp⟩⟩;rw[List.mem_range];exact zDz _ _ _ _ _
open Go.RowKit Go.Shelf Go.ChangeMaps
attribute [local go_sem] Oper.semAt_some
theorem zK8(z:Int)(v:Value):∀(l:List MapEntry) (i:Nat),(∀e∈l,∃k:Int,e.key= .int .i64 k∧(k=z→e.val=v))→(∃e∈l,e.key= .int .i64 z)→∃j,Instr.findNow (.int .i64) (.int .i64 z) l i=some (some (j,v))
 | [],_,_,h=>by obtain⟨_,h,_⟩:=h;cases h
 | e::l,i,h,hx=>by
  obtain⟨k,hk,hv⟩:=h e (by simp);by_cases hz:k=z
  ·have h1:Instr.sameNow (.int .i64) (.int .i64 z) e.key=some true:=by rw[hk,hz];simp[Instr.sameNow]
   unfold Instr.findNow;rw[h1];exact⟨i,by rw[hv hz]⟩
  ·have h1:Instr.sameNow (.int .i64) (.int .i64 z) e.key=some false:=by rw[hk];simp[Instr.sameNow,hz,Ne.symm hz]
   unfold Instr.findNow;rw[h1];refine zK8 z v l (i+1) (fun e' he'=>h e' (by simp[he'])) ?_;obtain⟨e',he',hk'⟩:=hx;rcases List.mem_cons.1 he' with q|q
   ·rw[q,hk]at hk'
    injection hk' with _ q2
    exact absurd q2 hz
   ·exact ⟨e',q,hk'⟩
def IdU (s:Gf):Prop:=∀x∈s.fs,∀y∈s.fs,x.id=y.id→x.blk=y.blk
theorem zUh {base g:Nat} {W:World} {s:Gf} (h:GF base W g s) {f:Fl} (hf:f∈s.fs)(hu:IdU s):(Instr.lookup 86 (.map (some s.gf)) (.int .i64 f.id) false).run Tryz.prog W= .ok (.pointer (some ⟨f.blk,0,none⟩)) W:=by
 refine zPh Tryz.underlying86 Tryz.underlying3 h.fl f.id _ (.inl ?_);refine zK8 f.id _ s.fe.toList 0 (fun e he=> ?_) ?_
 ·have h1:(e.key,e.val)∈s.fe.toList.map (fun e=>(e.key,e.val)):=List.mem_map.2 ⟨e,he,rfl⟩
  rw[h.fm]at h1;obtain⟨x,hx,e2⟩:=List.mem_map.1 h1;have e3:(Value.int .i64 x.id)=e.key:=congrArg Prod.fst e2;have e4:(Value.pointer (some ⟨x.blk,0,none⟩))=e.val:=congrArg Prod.snd e2;exact⟨x.id,e3.symm,fun q=>by rw[←e4,hu x hx f hf q]⟩
 ·have h1:flE f∈s.fs.map flE:=List.mem_map.2 ⟨f,hf,rfl⟩
  rw[←h.fm]at h1;obtain⟨e,he,e2⟩:=List.mem_map.1 h1;exact⟨e,he,congrArg Prod.fst e2⟩
attribute [local go_sem] Oper.semAt_some
structure EsI (es:Array MapEntry) (cf:Nat):Prop where
 ki:∀e∈es.toList,∃z:Int,e.key= .int .i64 z
 bn:∀e∈es.toList,e.born<cf
 nd:(es.toList.map (·.born)).Nodup
theorem getF_yes(base gt:Nat)(cnt trn:Int)(rw:Nat→List Rw)(p x d a b:Int)(k:Nat)(r:Rw)(W:World)(h:TB base W gt 128 cnt trn rw)(hk:kx p x d a b rw=some k)(hr:(rw (bki p x d a b))[k]? =some r)(hs:0≤x∧x≤4294967295)(hd:0≤d∧d≤4294967295)(ha:0≤a∧a≤65535)(hb:0≤b∧b≤65535):
  Calls Tryz.prog 103 #[.pointer (some ⟨gt,0,none⟩),.agg #[.int .u8 p,.int .u32 x,.int .u32 d,.int .u16 a,.int .u16 b]] W fun e w'=>e= .returned (.tuple #[.int .i64 r.id,.int .i64 r.till,.bool true])∧Later W w':=by
 refine(zS5 base gt 128 cnt trn rw p x d a b W h hs hd ha hb).mono ?_;rintro e w' ⟨h1,rfl⟩;exact⟨by unfold gtv;simp only[hk,hr],h1⟩
theorem tup_ne2(bk:Bool)(p x d a b p2 x2 d2 a2 b2:Int)(w:World)(h:bk=true↔¬(p=p2∧x=x2∧d=d2∧a=a2∧b=b2)):(binOp .neq 103 (.agg #[.int .u8 p,.int .u32 x,.int .u32 d,.int .u16 a,.int .u16 b]) (.agg #[.int .u8 p2,.int .u32 x2,.int .u32 d2,.int .u16 a2,.int .u16 b2])).run Tryz.prog w= .ok (.bool bk) w:=by
 cases bk with
 |true=>exact zUd p x d a b p2 x2 d2 a2 b2 w (h.1 rfl)
 |false=>
  have h2:p=p2∧x=x2∧d=d2∧a=a2∧b=b2:=Classical.byContradiction (fun q=>by have:=h.2 q;cases this);obtain⟨rfl,rfl,rfl,rfl,rfl⟩:=h2;go_simp
set_option maxHeartbeats 4000000 in
theorem zM4(base g:Nat)(s:Gf)(f:Fl)(bk:Bool)(p x d a b:Int)(k:Nat)(r:Rw)(w:World)(h:GF base w g s)(hf:f∈s.fs)(hu:IdU s)(hk:kx p x d a b s.rw=some k)(hr:(s.rw (bki p x d a b))[k]? =some r)(hid:r.id=f.id)(hs:0≤x∧x≤4294967295)(hd:0≤d∧d≤4294967295)(ha:0≤a∧a≤65535)(hb:0≤b∧b≤65535)
  (hbk:bk=true↔¬(p=f.o.pr∧x=f.o.src∧d=f.o.dst∧kyp p a=kyp f.o.pr f.o.sp∧b=f.o.dp)):
  Calls Tryz.prog 49 #[.pointer (some ⟨g,0,none⟩),.agg #[.int .u8 p,.int .u32 x,.int .u32 d,.int .u16 a,.int .u16 b]] w fun e w'=>e= .returned (.tuple #[.pointer (some ⟨f.blk,0,none⟩),.bool bk,.bool true])∧Later w w':=by
 have l0:=zAg w (.cells #[.int .u8 p,.int .u32 x,.int .u32 d,.int .u16 a,.int .u16 b] 103);have C0:=zAd (heap_alloc_new w (.cells #[.int .u8 p,.int .u32 x,.int .u32 d,.int .u16 a,.int .u16 b] 103));have HG:=zAd (h.later l0);have HGT:=zAd (fun W (l:Later w W)=>getF_yes base s.gt s.cnt s.trn s.rw p x d a b k r W (h.tb.laterD l) hk hr hs hd ha hb);rw[hid]at HGT;have HLK:=zAd (fun W (l:Later w W)=>zUh (h.later l) hf hu);have HF:=zAd (zAb l0 (h.fb f hf).2);have HBK:=zAd hbk;clear h hs hd ha hb hk hr hid hf hu hbk;go_enter Tryz.func49,Tryz.ntmps49;go_upto_region 1 with fail;generalize w.alloc _=w1 at*;generalize w.heap.size=gx at*;refine zAn (R:=Later) Later.pre Later.drew 13 rfl (by kernel_rfl) (fun V0 hV0=> ?_);have q0:∀v,Later V0 v→∀j,v.cell? ⟨gx,j,none⟩=#[.int .u8 p,.int .u32 x,.int .u32 d,.int .u16 a,.int .u16 b][j]? :=fun v hv=>zAa (zAb (hV0.trans hv) C0.out);have q1:∀v,Later V0 v→∀j,v.cell? ⟨g,j,none⟩=(gfc s).toArray[j]? :=fun v hv=>zAa (zAb (hV0.trans hv) HG.out.gc);unfold gfc at q1;refine rX Later.pre 0 ?_;refine rX Later.pre 1 ?_;refine rX Later.pre 2 ?_;refine rX Later.pre 3 ?_;refine rX Later.pre 4 ?_;clear q0 q1
 refine zAq Later.pre 5 (.tuple #[.int .i64 f.id,.int .i64 r.till,.bool true]) rfl (by kernel_rfl) (by kernel_rfl) (by kernel_rfl) (fun _ _ _ h=>h) rfl (fun u hu=>zAo 103 #[.pointer (some ⟨s.gt,0,none⟩),.agg #[.int .u8 p,.int .u32 x,.int .u32 d,.int .u16 a,.int .u16 b]] (by go_simp) (HGT.out u (Later.trans l0 (hV0.trans hu)))) ?_;simp only[Act.put,sA,sB,sC];refine rX Later.pre 6 ?_;refine rX Later.pre 7 ?_;refine rX Later.pre 8 ?_;refine rX Later.pre 9 ?_;refine rX Later.pre 10 ?_;refine rX Later.pre 11 ?_;refine rX Later.pre 12 ?_;refine rD (fun V9 hV9=> ?_);have L9:Later w1 V9:=hV0.trans hV9;have k1:=zAa (zAb L9 HG.out.gc);unfold gfc at k1;have hlk:=HLK.out V9 (l0.trans L9);clear hV0 hV9;go_upto_region 5 with fail;clear k1 hlk;refine zAn (R:=Later) Later.pre Later.drew 13 rfl (by kernel_rfl) (fun V1 hV1=> ?_);have q0:∀v,Later V1 v→∀j,v.cell? ⟨gx,j,none⟩=#[.int .u8 p,.int .u32 x,.int .u32 d,.int .u16 a,.int .u16 b][j]? :=fun v hv=>zAa (zAb (L9.trans (hV1.trans hv)) C0.out);have qf:∀v,Later V1 v→∀j,v.cell? ⟨f.blk,j,none⟩=(flc f).toArray[j]? :=fun v hv=>zAa (zAb (L9.trans (hV1.trans hv)) HF.out);unfold flc at qf;refine rX Later.pre 0 ?_;refine rX Later.pre 1 ?_
 refine zAq Later.pre 2 (.agg #[.int .u8 p,.int .u32 x,.int .u32 d,.int .u16 (kyp p a),.int .u16 b]) rfl (by kernel_rfl) (by kernel_rfl) (by kernel_rfl) (fun _ _ _ h=>h) rfl (fun u hu=>zAo 104 #[.agg #[.int .u8 p,.int .u32 x,.int .u32 d,.int .u16 a,.int .u16 b]] (by go_simp) (zD8 p x d a b u)) ?_;simp only[Act.put,sA,sB,sC];refine rX Later.pre 3 ?_;refine rX Later.pre 4 ?_;refine rX Later.pre 5 ?_;refine rX Later.pre 6 ?_;refine rX Later.pre 7 ?_;refine zAq Later.pre 8 (.agg #[.int .u8 f.o.pr,.int .u32 f.o.src,.int .u32 f.o.dst,.int .u16 (kyp f.o.pr f.o.sp),.int .u16 f.o.dp]) rfl (by kernel_rfl) (by kernel_rfl) (by kernel_rfl) (fun _ _ _ h=>h) rfl (fun u hu=>zAo 104 #[.agg #[.int .u8 f.o.pr,.int .u32 f.o.src,.int .u32 f.o.dst,.int .u16 f.o.sp,.int .u16 f.o.dp]] (by go_simp) (zD8 f.o.pr f.o.src f.o.dst f.o.sp f.o.dp u)) ?_;simp only[Act.put,sA,sB,sC];clear q0 qf;generalize kyp p a=ka at*;generalize kyp f.o.pr f.o.sp=ka2 at*;have q5:∀v:World,(binOp .neq 103 (.agg #[.int .u8 p,.int .u32 x,.int .u32 d,.int .u16 ka,.int .u16 b]) (.agg #[.int .u8 f.o.pr,.int .u32 f.o.src,.int .u32 f.o.dst,.int .u16 ka2,.int .u16 f.o.dp])).run Tryz.prog v= .ok (.bool bk) v:=fun v=>tup_ne2 bk p x d ka b f.o.pr f.o.src f.o.dst ka2 f.o.dp v HBK.out
 refine rV Later.pre 9 rfl rfl ⟨.bool bk,fun v1 hv1=>by
  have hb:=HBK.out;clear q5;cases bk with
  |true=>
   have hn:=hb.1 rfl;clear hb;go_simp;by_cases g1:p=f.o.pr<;>by_cases g2:x=f.o.src<;>by_cases g3:d=f.o.dst<;>by_cases g4:ka=ka2<;>by_cases g5:b=f.o.dp<;>simp_all
  |false=>
   have h2:=Classical.byContradiction (fun q=>by have:=hb.2 q;cases this);obtain⟨g1,g2,g3,g4,g5⟩:=h2;rw[g1,g2,g3,g4,g5];go_simp,?_⟩
 simp only[Act.put,sA,sB,sC];refine rX Later.pre 10 ?_;refine rX Later.pre 11 ?_;refine rX Later.pre 12 ?_;refine rD (fun V2 hV2=> ?_);go_wp2_with fail;exact bodyPost_ret (v:= .tuple #[.pointer (some ⟨f.blk,0,none⟩),.bool bk,.bool true]) (by simp[results,Tryz.results49,go_sem]) rfl ⟨rfl,l0.trans (L9.trans (hV1.trans hV2))⟩
theorem zUi(base gr:Nat)(vr:Value)(ls:List Ru)(x:Int)(W:World)(mr:Ru)(h:RL 285 base W gr vr ls)(hok:okL ls)(hx:0≤x∧x≤4294967295)(hn:ls.find? (mqB x)=some mr):
  Calls Tryz.prog 281 #[.pointer (some ⟨gr,0,none⟩),.int .u32 x] W fun e w'=>e= .returned (.tuple #[.agg #[.int .i64 mr.kind,.int .u8 mr.proto,.int .u32 mr.net,.int .i64 mr.bits,.int .u32 mr.tt,.int .u16 mr.port,.int .u32 mr.host,.int .u16 mr.hp],.bool true])∧Later W w':=by
 have:=masq_any base (some ⟨gr,0,none⟩) ls x W (.inr ⟨gr,vr,rfl,h⟩) hok hx;have e1:fnd (mqB x) ls=mr:=by unfold fnd;rw[hn];rfl
 have e2:fdb (mqB x) ls=true:=by unfold fdb;rw[hn];rfl
 rw[e1,e2]at this;exact this
def MqC (v:Value) (n:Nat) (wx:World) (mr:Ru):Prop:=∃gn,v= .pointer (some ⟨gn,0,none⟩)∧n≤gn∧wx.heap[gn]? =some (.cells #[.int .i64 mr.kind,.int .u8 mr.proto,.int .u32 mr.net,.int .i64 mr.bits,.int .u32 mr.tt,.int .u16 mr.port,.int .u32 mr.host,.int .u16 mr.hp] 125 (0,0))
structure Rdy (s:Gf) (x d:Int) (a:Nat) (b:Int) (mr:Ru):Prop where
 ps:s.ps=[]
 ok:okL s.ls
 fd:s.ls.find? (mqB x)=some mr
 hx:0≤x∧x≤4294967295
 hd:0≤d∧d≤4294967295
 ha:a≤65535
 hb:0≤b∧b≤65535
 tt:0≤mr.tt∧mr.tt≤4294967295
 h1:1≤s.lo
 h2:s.lo≤s.hi
 h3:s.hi<65536
 s1:(b==5060)=false
 s2:((a:Int)==5060)=false
 k1:kx 17 x d (a:Int) b s.rw=none
 k2:∀n:Nat,kx 17 d mr.tt b (n:Int) s.rw=none
 fs:s.fs.length<64
 ne:¬(x=d∧d=mr.tt)
 tr:0≤s.trn∧s.trn≤900000
 nw:0≤s.now∧s.now≤549755813888
 bg:0≤s.bg∧s.bg≤1000000
 id:∀y∈s.fs,y.id≠s.bg
 cn:0≤s.cnt∧s.cnt≤1000
 ln:∀i,(s.rw i).length≤4000
end Go.Proofs.YteaeilghamjjkaaGreatDoor
