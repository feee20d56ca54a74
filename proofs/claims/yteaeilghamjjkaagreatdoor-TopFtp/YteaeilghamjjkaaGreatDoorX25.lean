import Derived.Test.YteaeilghamjjkaaGreatDoorX26
import Derived.Deep.DeepCutAuto
import Derived.Deep.CutBlock
namespace Go.Proofs.YteaeilghamjjkaaGreatDoor
set_option maxHeartbeats 4000000
open Go.RowKit Go.Shelf
set_option maxRecDepth 100000
attribute [local go_sem] Oper.semAt_some
set_option linter.unusedVariables false
set_option linter.unusedSimpArgs false
theorem zS9 {W:World} {n m j:Nat} {v:Value} {o:Obj} (h:W.heap[n]? =some o)(hne:n≠m):(W.setCell ⟨m,j,none⟩ v).heap[n]? =some o:=(Below.heap_setCell W ⟨m,j,none⟩ v n hne).trans h
def rks (l:List Rw):List Value:=l.flatMap rwk
theorem zQz(l:List Rw):(rks l).length=l.length*5:=by
 induction l with
 |nil=>rfl
 |cons r l ih=>unfold rks at ih⊢;simp[rwk]at ih⊢;omega
theorem rks_snoc(l:List Rw)(r:Rw):rks (l++[r])=rks l++rwk r:=by unfold rks;simp
theorem zHs {n:Nat} {t:TypeId} :∀(vs pre mid post:List Value) (W:World),W.heap[n]? =some (.cells (pre++(mid++post)).toArray t (0,0))→mid.length=vs.length→(zAi W n pre.length vs).heap[n]? =some (.cells (pre++(vs++post)).toArray t (0,0))
 | [],pre,mid,post,W,h,hl=>by
  have:mid=[]:=List.length_eq_zero_iff.1 hl;subst this;exact h
 |v::r,pre,[],post,W,h,hl=>by simp at hl
 | v::r,pre,p::mid,post,W,h,hl=>by
  have h1:=zAh h pre.length v
  have e:((pre++(p::mid++post)).toArray.setIfInBounds pre.length v)=((pre++[v])++(mid++post)).toArray:=by
   simp
  rw[e]at h1;have:=zHs r (pre++[v]) mid post _ h1 (by simpa using hl);simpa[zAi]using this
theorem zTa:(Tryz.prog.info? 103).map (fun i=>(i.zero,i.size,i.bytes))=some (some (.agg #[.int .u8 0,.int .u32 0,.int .u32 0,.int .u16 0,.int .u16 0]),5,16):=by kernel_rfl
theorem due_any(base bt:Nat)(lim cnt trn now:Int)(ls:Nat→List Rw)(l':List Rw)(w:World)(hT:TB base w bt lim cnt trn ls)(hS:zS7 (duR now (zE5 ls)) l')(hal:(zE5 ls).length≤5000):
  Calls Tryz.prog 48 #[.pointer (some ⟨bt,0,none⟩),.int .i64 now] w fun e w'=>Below w.heap.size w w'∧∃g,e= .returned (.slice (some ⟨g,0,none⟩) l'.length l'.length)∧w.heap.size≤g∧w'.heap[g]? =some (.cells (rks l').toArray 103 (0,0)):=by
 obtain⟨vs,hT⟩:=hT;refine(callsIn_wide (n:=5)).1 ?_;refine callsIn_of_wp_marks Tryz.func48 rfl trivial ?_ rfl;simp only[Tryz.ntmps48,List.size_toArray,List.length_cons,List.length_nil,Nat.reduceAdd,Nat.reduceSub,Array.replicate_succ,Array.replicate_zero,List.push_toArray,List.append_toArray,List.nil_append,List.cons_append];have hb4:Later w (((w.alloc (.cells #[.int .i64 now] 3)).alloc (.cells #[.slice none 0 0] 210)).alloc (.cells #[.pointer (some ⟨bt,3,none⟩)] 293)):=((bA _ _).alloc (by simp) _).alloc (by simp<;>omega) _;have c0:(((w.alloc (.cells #[.int .i64 now] 3)).alloc (.cells #[.slice none 0 0] 210)).alloc (.cells #[.pointer (some ⟨bt,3,none⟩)] 293)).heap[w.heap.size]? =some (.cells #[.int .i64 now] 3):=(Below.heap_alloc _ _ _ (by simp<;>omega)).trans ((Below.heap_alloc _ _ _ (by simp)).trans (heap_alloc_new w _))
 have c1:(((w.alloc (.cells #[.int .i64 now] 3)).alloc (.cells #[.slice none 0 0] 210)).alloc (.cells #[.pointer (some ⟨bt,3,none⟩)] 293)).heap[w.heap.size+1]? =some (.cells #[.slice none 0 0] 210):=by
  have:=heap_alloc_new (w.alloc (.cells #[.int .i64 now] 3)) (.cells #[.slice none 0 0] 210);rw[World.size_alloc]at this;exact(Below.heap_alloc _ _ _ (by simp)).trans this
 have c2:(((w.alloc (.cells #[.int .i64 now] 3)).alloc (.cells #[.slice none 0 0] 210)).alloc (.cells #[.pointer (some ⟨bt,3,none⟩)] 293)).heap[w.heap.size+1+1]? =some (.cells #[.pointer (some ⟨bt,3,none⟩)] 293):=by
  have:=heap_alloc_new ((w.alloc (.cells #[.int .i64 now] 3)).alloc (.cells #[.slice none 0 0] 210)) (.cells #[.pointer (some ⟨bt,3,none⟩)] 293);simpa only[World.size_alloc]using this
 have hs4:(((w.alloc (.cells #[.int .i64 now] 3)).alloc (.cells #[.slice none 0 0] 210)).alloc (.cells #[.pointer (some ⟨bt,3,none⟩)] 293)).heap.size=w.heap.size+1+1+1:=by simp
 have C0:=zAd c0;have C1:=zAd c1;have C2:=zAd c2;have HS4:=zAd hs4;clear c0 c1 c2 hs4;gi_wp2_with (refine⟨trivial,?_⟩;gi_at_call 100;refine(all_in _ _ _).mono ?_;rintro e w' ⟨rfl,rfl⟩)
 generalize ((w.alloc (.cells #[.int .i64 now] 3)).alloc (.cells #[.slice none 0 0] 210)).alloc (.cells #[.pointer (some ⟨bt,3,none⟩)] 293)=w4 at*;have hs4:w4.heap.size=w.heap.size+1+1+1:=HS4.out
 refine zB7 (w:=w4) rfl (by omega) (gf:=154) (lb:=#[.pointer (some ⟨w.heap.size+1+1,0,none⟩)]) rfl trivial (enters_of Tryz.func154 (by kernel_rfl) rfl)
  (all_gen 4 (by omega) (w.heap.size+1+1) bt w.heap.size base lim cnt trn vs ls w w4 hT rfl hb4 (by omega) (zAa C2.out 0))
  (fun h k=>h.trans k) (fun W l o o' hl ho hc hw=>belowK_b (w:=w4) (by omega) W l o o' hl ho hc hw) (fun hA hL=>hL.mono (by omega)) (fun _ _ _ _ h _=>h) (fun _ _ _ _ _ _ _ _ _ h=>h) (fun _=>rfl)
  (fun pre W=>PD w.heap.size (w.heap.size+1+1+1) now pre W∧Below w.heap.size w W) (fun pre W=>False)
  (OwnFrom.and (fun s A B row hs hg hr=>hs.ct (CTy.row hg (fun r e=>(hr r e).2))) (ownFrom_below (Nat.le_refl _) (by omega)))
  (fun s A B h l=>⟨h.1.ct (CTy.of l),h.2.trans (l.mono h.2.size)⟩)
  (fun s A B row hs hg hr=>hs)
  ⟨⟨⟨.slice none 0 0,C1.out,rfl,.inl ⟨rfl,rfl⟩⟩,C0.out⟩,hb4⟩
  (fun x a' W=>∃bx:Nat,w.heap.size+1+1+1≤bx∧W.heap[bx]? =some (.cells #[.int .u8 x.p,.int .u32 x.s,.int .u32 x.d,.int .u16 x.a,.int .u16 x.b,.int .i64 x.id,.int .i64 x.till,.int .i64 x.turn] 220 (0,0))∧a'= { tmps:=#[.pointer (some ⟨bt,0,none⟩),.int .i64 now,undef,.pointer (some ⟨w.heap.size,0,none⟩),.slice none 0 0,.pointer (some ⟨w.heap.size+1,0,none⟩),.pointer (some ⟨bx,0,none⟩),undef,undef,undef,.pointer (some ⟨bt,0,none⟩),.bool false,.pointer (some ⟨bt,0,none⟩),.pointer (some ⟨bt,0,none⟩),.pointer (some ⟨bt,3,none⟩),.func (.func 154) #[] #[.pointer (some ⟨w.heap.size+1+1,0,none⟩)],.agg #[.int .u8 x.p,.int .u32 x.s,.int .u32 x.d,.int .u16 x.a,.int .u16 x.b,.int .i64 x.id,.int .i64 x.till,.int .i64 x.turn],undef,undef,undef,undef,undef,undef,undef,undef,undef,undef,undef,undef,undef,undef,undef,undef,undef,undef,undef,undef,undef,undef,undef,undef,undef,undef,undef],defers:=[] })
  (fun x a' W l o o' hl ho hc h=>by obtain⟨bx,h1,h2,h3⟩:=h;exact⟨bx,h1,(CTy.put ho hc).2 _ _ h2 rfl,h3⟩) ?assign ?body ?done ?stop
 case assign=>
  rintro l pre x W K hsz _ hX hK;dsimp only[encR,rwc]
  gi_wp2
  refine hK _ _ ?_ ⟨W.heap.size,by omega,heap_alloc_new _ _,rfl⟩;exact(Below.refl _ W).alloc (Nat.le_refl _) _
 case body=>
  rintro l pre x a' W ⟨⟨⟨v,hob,hOw⟩,hr0⟩,hbW⟩ hX ⟨bx,hbx,hbo,rfl⟩;have hbsz:=hbW.size;have Kb:=zAa hbo;have Kn:=zAa hr0;have hobl:=(bl9 hob);have hbl:=(bl9 hbo);have hal2:pre.length≤5000:=by obtain⟨rest,e⟩:=hX;have:=congrArg List.length e;simp at this;omega
  by_cases htl:x.till≤now
  ·have hdu:=duR_yes (l:=pre) htl
   have hdl:(duR now pre).length≤5000:=Nat.le_trans (zHr now pre) hal2;have Kv:=zAa hob;have Fv:=zAc hob;obtain⟨sa,cap,rfl,_,_⟩:=(zDd hOw).slice;obtain⟨i0,hi,hz0,hz1,hz2⟩:=info_parts zO5;have la:Later W (W.alloc (.cells #[.int .u8 x.p,.int .u32 x.s,.int .u32 x.d,.int .u16 x.a,.int .u16 x.b,.int .i64 x.id,.int .i64 x.till,.int .i64 x.turn] 220)):=(Below.refl _ W).alloc (Nat.le_refl _) _;have hrowA:=zCu hOw la;have hnews:∀j u,[Value.int .u8 x.p,.int .u32 x.s,.int .u32 x.d,.int .u16 x.a,.int .u16 x.b,.int .i64 x.id,.int .i64 x.till,.int .i64 x.turn][j]? =some u→(W.alloc (.cells #[.int .u8 x.p,.int .u32 x.s,.int .u32 x.d,.int .u16 x.a,.int .u16 x.b,.int .i64 x.id,.int .i64 x.till,.int .i64 x.turn] 220)).cell? ((⟨W.heap.size,0,none⟩:Addr).add j)=some u:=zMg W [Value.int .u8 x.p,.int .u32 x.s,.int .u32 x.d,.int .u16 x.a,.int .u16 x.b,.int .i64 x.id,.int .i64 x.till,.int .i64 x.turn]
   have hbl2:∀r,(Value.slice sa (duR now pre).length cap).ownBlock=some r→∃cur,(W.alloc (.cells #[.int .u8 x.p,.int .u32 x.s,.int .u32 x.d,.int .u16 x.a,.int .u16 x.b,.int .i64 x.id,.int .i64 x.till,.int .i64 x.turn] 220)).heap[r]? =some (.cells cur 220 (0,0))∧w.heap.size+1+1+1≤r:=fun r hr=>by
    rcases hrowA.2 with⟨e,_⟩|⟨g,cp,cur,e,hg,hh,_⟩
    ·rw[e]at hr;cases hr
    ·rw[e]at hr;cases hr
     exact⟨cur,hh,hg⟩
   have HNW:=zAd hnews;have HRA:=zAd hrowA;have HB2:=zAd hbl2;have HDU:=zAd hdu;clear hnews hrowA hbl2 hOw hdu;gi_wp2_with (gi_at_builtin;refine wpListIn_append_own _ rfl (.tmp 21) (.tmp 23) 210 rfl (w.heap.size+1+1+1) 220 i0 (.agg #[.int .u8 0,.int .u32 0,.int .u32 0,.int .u16 0,.int .u16 0,.int .i64 0,.int .i64 0,.int .i64 0]) 8 40 Tryz.underlying210 hi hz0 hz1 hz2 rfl (by decide) _ (duR now pre).length (rws (duR now pre)) rfl HRA.out ⟨W.heap.size,0,none⟩ 1 1 [Value.int .u8 x.p,.int .u32 x.s,.int .u32 x.d,.int .u16 x.a,.int .u16 x.b,.int .i64 x.id,.int .i64 x.till,.int .i64 x.turn] rfl rfl HNW.out (by intro u hu;simp at hu;rcases hu with rfl|rfl|rfl|rfl|rfl|rfl|rfl|rfl<;>rfl) (by simp only[maxLen];omega) (by omega) (by simp;omega) ?_;intro v2 W2 hrow2 hg2 hnn;obtain⟨g2,cp2,rfl⟩:=ownsRow_succ hrow2;have hob2:=(hg2.block (w.heap.size+1) (by simp;omega) (fun e=>by obtain⟨_,_,h⟩:=HB2.out _ e.symm;omega)).trans ((Below.heap_alloc W _ (w.heap.size+1) hobl).trans hob);have Kv2:=zAa hob2;have Fv2:=zAc hob2)
   have hkeep:∀i o,W.heap[i]? =some o→some i≠(Value.slice sa (duR now pre).length cap).ownBlock→i≠w.heap.size+1→(W2.setCell ⟨w.heap.size+1,0,none⟩ (.slice (some ⟨g2,0,none⟩) ((duR now pre).length+1) cp2)).heap[i]? =some o:=fun i o hi h1 h2=>
    zS9 ((hg2.block i (by have:=(bl9 hi);simp;omega) h1).trans ((Below.heap_alloc W _ i (bl9 hi)).trans hi)) h2
   have hsz2:W.heap.size+1≤W2.heap.size:=by have:=hg2.size;simpa using this
   have hown2:(W2.setCell ⟨w.heap.size+1,0,none⟩ (.slice (some ⟨g2,0,none⟩) ((duR now pre).length+1) cp2)).ownsRow (w.heap.size+1+1+1) 220 8 (.slice (some ⟨g2,0,none⟩) ((duR now pre).length+1) cp2) ((duR now pre).length+1) (rws (duR now pre)++rwc x):=by
    refine⟨hrow2.1,hrow2.2.imp id ?_⟩;rintro⟨g,cp,cur,e1,e2,e3,r⟩;exact⟨g,cp,cur,e1,e2,zS9 e3 (by omega),r⟩
   have hbn:Below w.heap.size W (W2.setCell ⟨w.heap.size+1,0,none⟩ (.slice (some ⟨g2,0,none⟩) ((duR now pre).length+1) cp2)):=⟨hg2.os,hg2.tape,hg2.output,by simp;omega,fun i hi=>by
    cases hh:W.heap[i]? with
    |none=>have:=Array.getElem?_eq_none_iff.1 hh;omega
    |some o=>exact hkeep i o hh (fun e=>by obtain⟨_,_,h⟩:=HB2.out _ e.symm;omega) (by omega)⟩
   refine⟨⟨by simp;omega,fun i o hi ho hc=>hkeep i o ho (fun e=> ?_) (by omega)⟩,hbn,⟨⟨.slice (some ⟨g2,0,none⟩) ((duR now pre).length+1) cp2,zAh hob2 0 _,?_⟩,?_⟩,hbW.trans hbn⟩
   ·obtain ⟨c2,h2,_⟩:=HB2.out i e.symm
    rw[Below.heap_alloc W _ i (bl9 ho),ho]at h2;cases h2
    cases hc
   ·rw[HDU.out,List.length_append,List.length_singleton,rws_snoc]
    exact hown2
   ·exact hkeep _ _ hr0 (fun e=>by obtain⟨_,_,h⟩:=HB2.out _ e.symm;omega) (by omega)
  ·have hdu:=duR_no (l:=pre) htl
   have HDU:=zAd hdu;clear hdu;gi_wp2
   exact⟨KeepsFrom.refl _ _,Below.refl _ _,⟨⟨v,hob,by rw[HDU.out];exact hOw⟩,hr0⟩,hbW⟩
 case done=>
  rintro D xs W hD rfl ⟨⟨⟨v,h1,h2⟩,h3⟩,hbW⟩ hK;obtain⟨hl',hS⟩:=hS;have hbsz:=hbW.size;have K1:=zAa h1;have hdl:(duR now (zE5 ls)).length≤5000:=Nat.le_trans (zHr now _) hal;obtain⟨sa,cap,rfl,hcp,hcm⟩:=(zDd h2).slice;have HSO:=zAd (hS _ _ W h2)
  have hnb:∀i o,W.heap[i]? =some o→(o.isCells=false∨i<w.heap.size+1+1+1)→(Value.slice sa (duR now (zE5 ls)).length cap).ownBlock≠some i:=fun i o ho hh e=>by
   rcases h2.2 with⟨e2,_⟩|⟨g,cp,cur,e2,hg,hgh,_⟩
   ·rw[e2]at e;cases e
   ·rw[e2]at e
    have e3:g=i:=by simpa[Value.ownBlock]using e
    subst e3;rcases hh with hh|hh
    ·rw[hgh]at ho;cases ho;cases hh
    ·omega
  generalize (duR now (zE5 ls)).length=N at*;subst hl';gi_wp2
  refine⟨trivial,?_⟩;refine(callsIn_wide.2 HSO.out).mono ?_;rintro e W1 ⟨⟨u,rfl⟩,hr1,hbt1⟩;have h11:=(hbt1.block _ (bl9 h1) (hnb _ _ h1 (.inr (by omega)))).trans h1;have hD1:=(hbt1.block _ (bl9 hK) (hnb _ _ hK (.inl rfl))).trans hK
  have hb1:Below w.heap.size w W1:=hbW.trans (hbt1.below hbsz (fun k h e=>by
   rcases h2.2 with⟨e2,_⟩|⟨g,cp,cur,e2,hg,hgh,_⟩
   ·rw[e2]at e;cases e
   ·rw[e2]at e
    have e3:g=k:=by simpa[Value.ownBlock]using e
    omega))
  clear HSO h1 h2 hK hnb h3 K1 hbt1 hS;have K1:=zAa h11;gi_wp2
  obtain⟨i0,hi,hz0,hz1,hz2⟩:=info_parts zTa
  have hmk:(Instr.makeSlice 128 (.int .i64 (l'.length:Int)) (.int .i64 (l'.length:Int))).run Tryz.prog W1= .ok (.slice (some ⟨W1.heap.size,0,none⟩) l'.length l'.length) (W1.alloc (.cells (madeCells (Value.agg #[.int .u8 0,.int .u32 0,.int .u32 0,.int .u16 0,.int .u16 0]).cells (l'.length*5)) 103)):=by
   have:=run_make (P:=Tryz.prog) W1 128 103 i0 _ Tryz.underlying128 hi hz0 .i64 .i64 (l'.length:Int) (l'.length:Int) (by omega) (by omega) (by rw[hz2];omega) (by omega);rw[hz1]at this;simpa using this
  have hsz:(madeCells (Value.agg #[.int .u8 0,.int .u32 0,.int .u32 0,.int .u16 0,.int .u16 0]).cells (l'.length*5)).size=l'.length*5:=size_madeCells _ _;rw[hmk];clear hmk;generalize madeCells (Value.agg #[.int .u8 0,.int .u32 0,.int .u32 0,.int .u16 0,.int .u16 0]).cells (l'.length*5)=mk at*;have la:Later W1 (W1.alloc (.cells mk 103)):=bA _ _;have hgk:=heap_alloc_new W1 (.cells mk 103);have hV1:=zAb la h11;have hVD:=zAb la hD1;have hVr:=zCu hr1 la;have hbV:Below w.heap.size w (W1.alloc (.cells mk 103)):=hb1.trans (la.mono hb1.size);have hgsz:=hb1.size;clear h11 hD1 hr1 hb1 K1;generalize hgke:W1.heap.size=gk at*;generalize W1.alloc (.cells mk 103)=V at*;clear hgke la;have K1:=zAa hV1;gi_wp2
  clear K1;gi_loopw [32] (fun i wx=>∃k:Nat,k≤l'.length∧i= .int .i64 (k:Int)∧But (fun g=>g=gk) V wx∧∃rest:List Value,rest.length=(l'.length-k)*5∧wx.heap[gk]? =some (.cells (rks (l'.take k)++rest).toArray 103 (0,0))) (fun i _=>l'.length-(intOf i).toNat)
  case atStart=>exact⟨0,by omega,rfl,But.refl _ _,mk.toList,by simpa using hsz,by simpa[rks]using hgk⟩
  case round=>
   obtain⟨k,hk,rfl,hbk,rest,hrl,hgw⟩:=hrel;by_cases hkl:k<l'.length
   ·have hRw:RdR wr.heap.size wr (.slice sa l'.length cap) l':=by
     refine zDd (base:=w.heap.size+1+1+1) ⟨hVr.1,hVr.2.imp id ?_⟩;rintro⟨g,cp,cur,e1,e2,e3,r⟩;exact⟨g,cp,cur,e1,e2,(hbk.block g (bl9 e3) (fun e=>by rw[e,hgk]at e3;cases e3)).trans e3,r⟩
    obtain⟨g,off,cp,e,_,_,hgn,hcs⟩:=hRw.cells (by omega)
    simp at e
    obtain⟨rfl,rfl⟩:=e;have c0:=hcs k hkl 0 (by omega);have c1:=hcs k hkl 1 (by omega);have c2:=hcs k hkl 2 (by omega);have c3:=hcs k hkl 3 (by omega);have c4:=hcs k hkl 4 (by omega);have c5:=hcs k hkl 5 (by omega);have c6:=hcs k hkl 6 (by omega);have c7:=hcs k hkl 7 (by omega);have hkl':(k:Int)<l'.length:=by omega
    have htk:rks (l'.take (k+1))=rks (l'.take k)++rwk l'[k]:=by rw[←List.take_append_getElem hkl,rks_snoc]
    have hrk:(rks (l'.take k)).length=k*5:=by rw[zQz,List.length_take,Nat.min_eq_left hk]
    obtain⟨r0,r1,r2,r3,r4,rest',rfl⟩:∃r0 r1 r2 r3 r4 rest',rest=r0::r1::r2::r3::r4::rest':=by
     have h5:5≤rest.length:=by rw[hrl];omega
     match rest,h5 with
     |r0::r1::r2::r3::r4::rest',_=>exact⟨_,_,_,_,_,_,rfl⟩
    have hk5:∀j,wr.cell? ⟨gk,k*5+j,none⟩=(r0::r1::r2::r3::r4::rest')[j]? :=fun j=>by
     rw[zAa hgw,List.getElem?_toArray,List.getElem?_append_right (by omega),hrk,Nat.add_sub_cancel_left]
    have d0:=hk5 0;have d1:=hk5 1;have d2:=hk5 2;have d3:=hk5 3;have d4:=hk5 4;have Fg:=zAc hgw;have hgl:gk<wr.heap.size:=(bl9 hgw);clear hcs hk5;generalize hgo:l'[k]=r at*
    have hpt:(zAi wr gk (k*5) (rwk r)).heap[gk]? =some (.cells (rks (l'.take k)++(rwk r++rest')).toArray 103 (0,0)):=by
     have:=zHs (rwk r) (rks (l'.take k)) [r0,r1,r2,r3,r4] rest' wr hgw rfl;rw[hrk]at this;exact this
    have hpb:But (fun g=>g=gk) V (zAi wr gk (k*5) (rwk r)):=zAf (E:=fun g=>g=gk) rfl _ _ _ _ hbk;have HPT:=zAd hpt;have HPB:=zAd hpb;clear hpt hpb;have HTK:=zAd htk;have HRK:=zAd hrk;have HRL:=zAd hrl;clear hgo htk hrk hrl;simp only[rwc,List.getElem?_cons_zero,List.getElem?_cons_succ,Nat.add_zero]at c0 c1 c2 c3 c4 c5 c6 c7 d0 d1 d2 d3 d4;gi_wp2
    go_roundw
    case rel=>
     refine⟨k+1,by omega,by go_num,(show But _ V (zAi wr gk (k*5) (rwk r))from HPB.out).trans (But.of (bA _ _)),rest',?_,?_⟩
     ·have:=HRL.out
      simp at this
      omega
     ·rw[HTK.out,List.append_assoc]
      exact(Below.heap_alloc (zAi wr gk (k*5) (rwk r)) _ gk (bl9 HPT.out)).trans HPT.out
    case measure=>simp[intOf];omega
   ·obtain rfl:k=l'.length:=by omega
    have hrD:wr.heap[D]? =some (.deferred (some [])):=(hbk.block D (bl9 hVD) (fun e=>by rw[e,hgk]at hVD;cases hVD)).trans hVD;obtain rfl:rest=[]:=List.length_eq_zero_iff.1 (by rw[hrl];simp);rw[List.take_length,List.append_nil]at hgw;have hbw:Below w.heap.size w wr:=hbV.trans (hbk.below hbV.size (fun k h e=>by omega));gi_wp2
    refine⟨by simp,.inl ⟨_,_,rfl,run_takeDeferred hrD,?_⟩⟩;exact⟨.slice (some ⟨gk,0,none⟩) l'.length l'.length,by simp[results,Tryz.results48,go_sem],hbw.trans (belowK_b (w:=w) (Nat.le_refl _) wr D _ _ (by omega) hrD rfl rfl),gk,rfl,by omega,(CTy.put (o':= .deferred none) hrD rfl).2 _ _ hgw rfl⟩
 case stop=>
  rintro D pre W hD hSp hF hK;exact hF.elim
def zAp (zs:List Int) (p:Int):Int:=if 0≤p∧p+2≤zs.length then wat zs p.toNat else 0
def zAw (zs:List Int) (p:Int):Int:=if 0≤p∧p+4≤zs.length then zAs zs p.toNat else 0
theorem zDt {n₀:Nat} (sv:Value)(zs:List Int)(hB:Mt.By zs)(p:Int)(w:World)(hI:Rd n₀ w sv zs):
  Calls Tryz.prog 39 #[sv,.int .i64 p] w fun e w'=>e= .returned (.int .u16 (zAp zs p))∧∃n,w'=w.drewN n:=by
 by_cases h:0≤p∧p+2≤zs.length
 ·obtain ⟨n,rfl⟩:=Int.eq_ofNat_of_zero_le h.1
  unfold zAp;rw[if_pos h,Int.toNat_natCast];exact zA4 sv zs hB n (by omega) w hI
 ·unfold zAp
  rw[if_neg h];obtain⟨a,cap,rfl,h1,h2⟩:=hI.slice;exact(get16_no a zs.length cap p w (by omega) (by omega)).mono fun e w' ⟨he,hw⟩=>⟨he,0,hw⟩
theorem zEl {n₀:Nat} (sv:Value)(zs:List Int)(hB:Mt.By zs)(p:Int)(w:World)(hI:Rd n₀ w sv zs):
  Calls Tryz.prog 70 #[sv,.int .i64 p] w fun e w'=>e= .returned (.int .u32 (zAw zs p))∧∃n,w'=w.drewN n:=by
 by_cases h:0≤p∧p+4≤zs.length
 ·obtain ⟨n,rfl⟩:=Int.eq_ofNat_of_zero_le h.1
  unfold zAw;rw[if_pos h,Int.toNat_natCast];exact zCh sv zs hB n (by omega) w hI
 ·unfold zAw
  rw[if_neg h];obtain⟨a,cap,rfl,h1,h2⟩:=hI.slice;exact(get32_no a zs.length cap p w (by omega) (by omega)).mono fun e w' ⟨he,hw⟩=>⟨he,0,hw⟩
def HSt (tl:List Value) (t:TypeId) (ub:Nat) (N:Nat→Prop) (ys:List Int) (W:World):Prop:=
 ∃v,W.heap[ub]? =some (.cells (v::tl).toArray t (0,0))∧W.ownsRow (ub+1) 5 1 v ys.length (ys.map (Value.int .u8))∧∀b,v.ownBlock=some b→¬N b
theorem HSt.lt {tl:List Value} {t:TypeId} {ub:Nat} {N:Nat→Prop} {ys:List Int} {W:World} (h:HSt tl t ub N ys W):ub<W.heap.size:=by
 obtain⟨v,h1,_⟩:=h;exact(bl9 h1)
theorem HSt.alloc {tl:List Value} {t:TypeId} {ub:Nat} {N:Nat→Prop} {ys:List Int} {W:World} (h:HSt tl t ub N ys W)(o:Obj):HSt tl t ub (fun b=>N b∨b=W.heap.size) ys (W.alloc o):=by
 obtain⟨v,h1,h2,h3⟩:=h;exact⟨v,(Below.heap_alloc W o ub (bl9 h1)).trans h1,h2.alloc o,fun b hb hN=>hN.elim (h3 b hb) (fun e=>by have:=(h2.lt b hb).2;omega)⟩
theorem HSt.weaken {tl:List Value} {t:TypeId} {ub:Nat} {N N':Nat→Prop} {ys:List Int} {W:World} (h:HSt tl t ub N ys W)(hN:∀b,N' b→N b):HSt tl t ub N' ys W:=by
 obtain⟨v,h1,h2,h3⟩:=h;exact⟨v,h1,h2,fun b hb hn=>h3 b hb (hN b hn)⟩
theorem run_app3 {P:Program} (w:World)(t ty e:TypeId)(base:Nat)(i:TypeInfo)(ht:P.underlying t=some (.slice e))(hi:P.info? e=some i)(hz:i.zero=some (.int .u8 0))(hsize:i.size=1)(hby:i.bytes=1)
  (v:Value)(ys:List Int)(hown:w.ownsRow base e 1 v ys.length (ys.map (Value.int .u8)))
  (n₀:Nat)(sx:Value)(zs:List Int)(hI:Rd n₀ w sx zs)(hbd:ys.length+zs.length≤140737488355328)(hbase:base≤w.heap.size):
  ∃v' w',(Builtin.append_ #[t,t] ty #[v,sx]).run P w= .ok v' w'∧w'.ownsRow base e 1 v' (ys++zs).length ((ys++zs).map (Value.int .u8))∧w.grownBy w' v.ownBlock∧∀b,v'.ownBlock=some b→v.ownBlock=some b∨w.heap.size≤b:=by
 obtain⟨v',w',hr,h2,h3⟩:=zF3 (P:=P) w t ty e base i ht hi hz hsize hby v ys hown n₀ sx zs hI hbd hbase;refine⟨v',w',hr,h2,h3,?_⟩;rcases hown.2 with⟨rfl,hnil⟩|⟨g,cap,cur,rfl,hg,hh,hl,hm,hs,hc⟩
 ·have hy:ys=[]:=by simpa using hnil
  subst hy;obtain⟨v2,w2,hr2,h22,_⟩:=zF3 (P:=P) w t ty e w.heap.size i ht hi hz hsize hby (.slice none 0 0) [] (World.ownsRow_nil _ _ _ _) n₀ sx zs hI hbd (Nat.le_refl _);obtain⟨rfl,rfl⟩:v'=v2∧w'=w2:=by rw[hr]at hr2;simpa using hr2
  intro b hb
  exact .inr (h22.lt b hb).1
 ·rcases hI with⟨ao,cp,rfl,rfl,hm2,hn⟩|⟨b,off,cp,rfl,hne,hl2,hm2,hb2,hc2⟩
  ·have hv:v'= .slice (some ⟨g,0,none⟩) ys.length cap:=by
    cases ao with
    |none=>
     obtain rfl:=hn rfl;have:=run_append_owned_none w base t ty e i 1 ht hi _ _ _ hown;rw[hr]at this
     simp at this
     exact this.1
    |some ad=>
     have:=run_append_room_cells (P:=P) w t ty e i ht hi g 0 ys.length cap ad 0 cp [] (by simp) (fun j u hj=>by simp at hj) (fun u hu=>by simp at hu) (by omega) (fun j hj=>by simp at hj) (fun j hj=>by simp at hj);rw[hr]at this
     simp at this
     exact this.1
   subst hv;intro b hb
   exact .inl hb
  ·have hnews:∀j u,(zs.map (Value.int .u8))[j]? =some u→w.cell? ((⟨b,off,none⟩:Addr).add j)=some u:=fun j u hj=>by
    have hj':j<zs.length:=by have:=(List.getElem?_eq_some_iff.1 hj).1;simpa using this
    rw[show (⟨b,off,none⟩:Addr).add j=⟨b,off+j,none⟩from by unfold Addr.add;split<;>simp_all,hc2 j hj',←hj];simp[hj']
   by_cases hroom:ys.length+zs.length≤cap
   ·have:=run_append_room_cells (P:=P) w t ty e i ht hi g 0 ys.length cap ⟨b,off,none⟩ zs.length cp (zs.map (Value.int .u8)) (by rw[hsize];simp) hnews (fun u hu=>by obtain⟨z,_,rfl⟩:=List.mem_map.1 hu;rfl) hroom
     (fun j hj=>by rw[zAa hh,hsize];simp at hj;simp;omega) (fun j hj=>by rw[zAc hh])
    rw[hr]at this
    simp at this
    obtain⟨rfl,_⟩:=this;intro b' hb'
    exact .inl hb'
   ·obtain ⟨v2,w2,hr2,h22,_⟩:=run_append_arg_grows (P:=P) w t ty e i (.int .u8 0) 1 1 ht hi hz hsize hby rfl (by decide) ⟨g,0,none⟩ ys.length cap (ys.map (Value.int .u8)) (by simp)
     (fun j u hj=>by
      have hj':j<ys.length:=by have:=(List.getElem?_eq_some_iff.1 hj).1;simpa using this
      rw[show (⟨g,0,none⟩:Addr).add j=⟨g,j,none⟩from by unfold Addr.add;split<;>simp_all,zAa hh];have h5:=congrArg (·[j]?) hc;simp only[Nat.mul_one]at h5;rw[List.getElem?_take_of_lt (by omega)]at h5;rw[←hj,←h5];simp)
     ⟨b,off,none⟩ zs.length cp (zs.map (Value.int .u8)) (by simp) hnews (by omega) (by unfold maxLen;omega) (by omega)
    obtain⟨rfl,rfl⟩:v'=v2∧w'=w2:=by rw[hr]at hr2;simpa using hr2
    intro b' hb'
    exact .inr (h22.lt b' hb').1
theorem zMh {P:Program} {ops:Array Oper} {rest:List Oper} {o:Oper} {a:Act} {Q:Exit→Act→World→Prop} (w:World)(hgd:o.guard=none)(s x:Operand)(t:TypeId)
  (ho:o.op= .call { callee:= .builtin .append,args:=#[s,x],argTypes:=#[t,t] })
  (base:Nat)(e:TypeId)(i:TypeInfo)(ht:P.underlying t=some (.slice e))(hi:P.info? e=some i)(hz:i.zero=some (.int .u8 0))(hsize:i.size=1)(hby:i.bytes=1)
  (v:Value)(ys:List Int)(hs:a.eval s=v)(hown:w.ownsRow base e 1 v ys.length (ys.map (Value.int .u8)))
  (n₀:Nat)(sx:Value)(zs:List Int)(hx:a.eval x=sx)(hI:Rd n₀ w sx zs)(hbd:ys.length+zs.length≤140737488355328)(hbase:base≤w.heap.size)
  (h:∀v' w',w'.ownsRow base e 1 v' (ys++zs).length ((ys++zs).map (Value.int .u8))→w.grownBy w' v.ownBlock→(∀b,v'.ownBlock=some b→v.ownBlock=some b∨w.heap.size≤b)→wpList P ops Q rest (a.put o.dst v') w'):wpList P ops Q (o::rest) a w:=by
 obtain⟨v',w',hr,h2,h3,h4⟩:=run_app3 (P:=P) w t o.type e base i ht hi hz hsize hby v ys hown n₀ sx zs hI hbd hbase;exact wpList_plain hgd fun K hK=>zC9 s x t ho v sx hs hx v' w' hr (hK _ _ (h v' w' h2 h3 h4))
theorem zDe(tl:List Value)(t:TypeId)(ub:Nat)(N:Nat→Prop)(ys:List Int)(sx:Value)(zs:List Int)(n₀:Nat)(w:World)(h:HSt tl t ub N ys w)(hN:∀b,N b→b<w.heap.size∧b≠ub)(hI:Rd n₀ w sx zs)(hl:ys.length+zs.length≤140737488355328):
  Calls Tryz.prog 60 #[.pointer (some ⟨ub,0,none⟩),sx] w fun e w'=>e= .returned (.tuple #[])∧HSt tl t ub N (ys++zs) w'∧But (fun b=>ub≤b∧¬N b) w w':=by
 obtain⟨i0,hi,hz0,hz1,hz2⟩:=info_parts zBt;obtain⟨v,hu,hown,hnb⟩:=h;have C0:=zAa hu 0
 simp at C0
 have hub:ub<w.heap.size:=(bl9 hu);obtain⟨ax,cx,rfl,_,_⟩:=hI.slice;obtain⟨av,cv,rfl,_,_⟩:=(Ow.of_row hown).slice;go_enter Tryz.func60,Tryz.ntmps60;go_wp2_with (at_builtin;refine zMh _ rfl (.tmp 8) (.tmp 9) 26 rfl (ub+1) 5 i0 Tryz.underlying26 hi hz0 hz1 hz2 _ ys rfl hown n₀ _ zs rfl hI hl hub ?_;intro v1 w1 hown1 hg1 hv1;have hu1:=(hg1.block ub hub (fun e=>by have:=(hown.lt ub e.symm).1;omega)).trans hu;have C1:=zAa hu1 0;have F1:=zAc hu1 0;simp at C1;obtain⟨a1,c1,rfl,_,_⟩:=(Ow.of_row hown1).slice)
 have hu2:(w1.setCell ⟨ub,0,none⟩ (.slice a1 (ys++zs).length c1)).heap[ub]? =some (.cells (.slice a1 (ys++zs).length c1::tl).toArray t (0,0)):=by
  have:=zAh hu1 0 (.slice a1 (ys++zs).length c1);simpa using this
 have hvN:∀b,(Value.slice a1 (ys++zs).length c1).ownBlock=some b→¬N b:=by
  intro b hb hn
  rcases hv1 b hb with h|h
  ·exact hnb b h hn
  ·have:=(hN b hn).1;omega
 have hb1:But (fun b=>ub≤b∧¬N b) w (w1.setCell ⟨ub,0,none⟩ (.slice a1 (ys++zs).length c1)):=by
  have h0:But (fun b=>ub≤b∧¬N b) w w1:=⟨hg1.os,hg1.tape,hg1.output,hg1.size,fun k hk hE=>hg1.block k hk (fun e=>hE ⟨by have:=(hown.lt k e.symm).1;omega,hnb k e.symm⟩)⟩;exact h0.setCell (p:=⟨ub,0,none⟩) ⟨Nat.le_refl _,fun hn=>(hN ub hn).2 rfl⟩ _
 have hown2:(w1.setCell ⟨ub,0,none⟩ (.slice a1 (ys++zs).length c1)).ownsRow (ub+1) 5 1 (.slice a1 (ys++zs).length c1) (ys++zs).length ((ys++zs).map (Value.int .u8)):=by
  obtain⟨q1,q2⟩:=hown1;refine⟨q1,q2.imp id ?_⟩;rintro⟨g,cap,cur,e,hg,hh,r⟩;exact⟨g,cap,cur,e,hg,(Below.heap_setCell w1 ⟨ub,0,none⟩ _ g (by simp;omega)).trans hh,r⟩
 go_end0
 rw[←List.length_append];exact⟨rfl,⟨_,hu2,hown2,hvN⟩,hb1⟩
def b2 (n:Int):List Int:=[n/256,n % 256]
def b4 (n:Int):List Int:=[n/65536/256,n/65536 % 256,n % 65536/256,n % 65536 % 256]
theorem zKi {α:Type} (f:Int→List α)(ns:List Int)(k:Nat)(h:k<ns.length):(ns.take (k+1)).flatMap f=(ns.take k).flatMap f++f (ns[k]?.getD 0):=by
 rw[List.take_succ_eq_append_getElem h,List.flatMap_append];simp[h]
theorem b2_len(ns:List Int):(ns.flatMap b2).length=2*ns.length:=by
 induction ns with
 |nil=>rfl
 |cons a r ih=>simp[List.flatMap_cons,b2]at ih⊢;omega
theorem b4_len(ns:List Int):(ns.flatMap b4).length=4*ns.length:=by
 induction ns with
 |nil=>rfl
 |cons a r ih=>simp[List.flatMap_cons,b4]at ih⊢;omega
theorem zE6(tl:List Value)(t tn:TypeId)(ub nb cap:Nat)(N:Nat→Prop)(ys ns:List Int)(w:World)(h:HSt tl t ub N ys w)(hN:∀b,N b→b<w.heap.size∧b≠ub)(hn:N nb)
  (hnb:w.heap[nb]? =some (.cells (ns.map (Value.int .u16)).toArray tn (0,0)))(hbd:∀n∈ns,0≤n∧n≤65535)(hl:ys.length+2*ns.length≤140737488355328)(hcap:ns.length≤cap):
  Calls Tryz.prog 58 #[.pointer (some ⟨ub,0,none⟩),.slice (some ⟨nb,0,none⟩) ns.length cap] w fun e w'=>e= .returned (.tuple #[])∧HSt tl t ub N (ys++ns.flatMap b2) w'∧But (fun b=>ub≤b∧¬N b) w w':=by
 have hnl:=(bl9 hnb);go_enter Tryz.func58,Tryz.ntmps58;go_wp2
 go_loopw [8] (fun i wr=>∃k:Nat,k≤ns.length∧i= .int .i64 (k:Int)∧HSt tl t ub N (ys++(ns.take k).flatMap b2) wr∧But (fun b=>ub≤b∧¬N b) w wr)
  (fun i _=>ns.length-(intOf i).toNat)
 case atStart=>exact⟨0,by omega,rfl,by simpa using h,But.refl _ _⟩
 case round=>
  obtain⟨k,hk,rfl,hH,hB⟩:=hrel;by_cases hlt:k<ns.length
  ·have hc:wr.cell? ⟨nb,k,none⟩=some (.int .u16 (ns[k]?.getD 0)):=by
    rw[zAa ((hB.block nb hnl (fun e=>e.2 hn)).trans hnb)];simp[hlt]
   have hz:0≤ns[k]?.getD 0∧ns[k]?.getD 0≤65535:=by
    have:=hbd ns[k] (List.getElem_mem hlt);simpa[hlt]using this
   have HF:=zAd (zKi b2 ns k hlt);have hlen:((ys++(ns.take k).flatMap b2)).length+2≤140737488355328:=by rw[List.length_append,b2_len,List.length_take];omega
   generalize ns[k]?.getD 0=z at*;have hlt':(k:Int)<ns.length:=by omega
   have hA:Later wr (wr.alloc (.cells #[.int .u8 (z/256),.int .u8 (z % 256)] 5)):=bA _ _;have hHA:=(hH.alloc (.cells #[.int .u8 (z/256),.int .u8 (z % 256)] 5)).weaken (N':=N) (fun b hb=> .inl hb);have hR:=Rd.new2 (z/256) (z % 256) 5 wr;go_wp2_with fail;generalize wr.alloc (.cells #[.int .u8 (z/256),.int .u8 (z % 256)] 5)=w1 at*;refine(zDe tl t ub N _ _ [z/256,z % 256] _ w1 hHA (fun b hb=>⟨Nat.lt_of_lt_of_le (hN b hb).1 (Nat.le_trans hB.size hA.size),(hN b hb).2⟩) hR hlen).mono ?_;rintro e w2 ⟨rfl,hH2,hB2⟩;go_wp2_with fail;go_roundw
   case rel=>exact⟨k+1,by omega,by go_num,by rw[HF.out,←List.append_assoc];exact hH2,(hB.trans (But.of hA)).trans hB2⟩
   case measure=>simp[intOf];omega
  ·obtain rfl:k=ns.length:=by omega
   rw[List.take_length]at hH;go_wp2
   go_end0
   exact⟨rfl,hH,hB⟩
theorem zQ0(tl:List Value)(t tn:TypeId)(ub nb cap:Nat)(N:Nat→Prop)(ys ns:List Int)(w:World)(h:HSt tl t ub N ys w)(hN:∀b,N b→b<w.heap.size∧b≠ub)(hn:N nb)
  (hnb:w.heap[nb]? =some (.cells (ns.map (Value.int .u32)).toArray tn (0,0)))(hbd:∀n∈ns,0≤n∧n≤4294967295)(hl:ys.length+4*ns.length≤140737488355328)(hcap:ns.length≤cap):
  Calls Tryz.prog 59 #[.pointer (some ⟨ub,0,none⟩),.slice (some ⟨nb,0,none⟩) ns.length cap] w fun e w'=>e= .returned (.tuple #[])∧HSt tl t ub N (ys++ns.flatMap b4) w'∧But (fun b=>ub≤b∧¬N b) w w':=by
 have hnl:=(bl9 hnb);go_enter Tryz.func59,Tryz.ntmps59;go_wp2
 go_loopw [8] (fun i wr=>∃k:Nat,k≤ns.length∧i= .int .i64 (k:Int)∧HSt tl t ub N (ys++(ns.take k).flatMap b4) wr∧But (fun b=>ub≤b∧¬N b) w wr)
  (fun i _=>ns.length-(intOf i).toNat)
 case atStart=>exact⟨0,by omega,rfl,by simpa using h,But.refl _ _⟩
 case round=>
  obtain⟨k,hk,rfl,hH,hB⟩:=hrel;by_cases hlt:k<ns.length
  ·have hc:wr.cell? ⟨nb,k,none⟩=some (.int .u32 (ns[k]?.getD 0)):=by
    rw[zAa ((hB.block nb hnl (fun e=>e.2 hn)).trans hnb)];simp[hlt]
   have hz:0≤ns[k]?.getD 0∧ns[k]?.getD 0≤4294967295:=by
    have:=hbd ns[k] (List.getElem_mem hlt);simpa[hlt]using this
   have HF:=zAd (zKi b4 ns k hlt);have hlen:((ys++(ns.take k).flatMap b4)).length+2* [ns[k]?.getD 0/65536,ns[k]?.getD 0 % 65536].length≤140737488355328:=by rw[List.length_append,b4_len,List.length_take];simp;omega
   generalize ns[k]?.getD 0=z at*;have hlt':(k:Int)<ns.length:=by omega
   have hA:Later wr (wr.alloc (.cells #[.int .u16 (z/65536),.int .u16 (z % 65536)] 22)):=bA _ _;have hHA:=hH.alloc (.cells #[.int .u16 (z/65536),.int .u16 (z % 65536)] 22);have hkA:=heap_alloc_new wr (.cells #[.int .u16 (z/65536),.int .u16 (z % 65536)] 22);have hub:=hH.lt;go_wp2_with fail;rw[IntKind.wrap_u16];have hsz:(wr.alloc (.cells #[.int .u16 (z/65536),.int .u16 (z % 65536)] 22)).heap.size=wr.heap.size+1:=by simp
   have HSZ:=zAd hsz;clear hsz;generalize wr.alloc (.cells #[.int .u16 (z/65536),.int .u16 (z % 65536)] 22)=w1 at*;refine(zE6 tl t 22 ub wr.heap.size 2 (fun b=>N b∨b=wr.heap.size) _ [z/65536,z % 65536] w1 hHA (fun b hb=>hb.elim (fun hb=>⟨Nat.lt_of_lt_of_le (hN b hb).1 (Nat.le_trans hB.size hA.size),(hN b hb).2⟩) (fun e=>by subst e;exact⟨by have:=HSZ.out;omega,by omega⟩)) (.inr rfl) hkA (fun n hn=>by simp at hn;rcases hn with rfl|rfl<;>omega) hlen (by simp)).mono ?_;rintro e w2 ⟨rfl,hH2,hB2⟩;go_wp2_with fail;go_roundw
   case rel=>exact⟨k+1,by omega,by go_num,by rw[HF.out,←List.append_assoc];exact hH2.weaken (fun b hb=> .inl hb),(hB.trans (But.of hA)).trans ⟨hB2.os,hB2.tape,hB2.output,hB2.size,fun b hb hE=>hB2.block b hb (fun h=>hE ⟨h.1,fun hn=>h.2 (.inl hn)⟩)⟩⟩
   case measure=>simp[intOf];omega
  ·obtain rfl:k=ns.length:=by omega
   rw[List.take_length]at hH;go_wp2
   go_end0
   exact⟨rfl,hH,hB⟩
theorem eql_nil(w:World):(binOp .eql 26 (.slice none 0 0) (.slice none 0 0)).run Tryz.prog w= .ok (.bool true) w:=by kernel_rfl
theorem eql_some(w:World)(ad:Addr)(n c:Nat):(binOp .eql 26 (.slice (some ad) n c) (.slice none 0 0)).run Tryz.prog w= .ok (.bool false) w:=by kernel_rfl
theorem zAx(sv:Value)(zs:List Int)(w:World)(hl:zs.length≤140737488355328)(hI:Rd w.heap.size w sv zs):
  Calls Tryz.prog 71 #[sv] w fun e w'=>∃a cap,e= .returned (.slice a zs.length cap)∧Ow w.heap.size w' (.slice a zs.length cap) zs∧Below w.heap.size w w':=by
 obtain⟨i0,hi,hz0,hz1,hz2⟩:=info_parts zBt;have hb0:Below w.heap.size w (w.alloc (.cells #[] 5)):=(Below.refl _ w).alloc (Nat.le_refl _) _;have hR1:=hI.below hb0;obtain⟨a,cap,rfl,hl1,hm1⟩:=hI.slice;cases a with
 | none=>
  obtain⟨rfl,rfl⟩:zs=[]∧cap=0:=by
   rcases hI with⟨a,cap',e,hz,_,hn⟩|⟨_,_,_,e,_⟩
   ·have e1:=e
    simp at e1
    obtain⟨rfl,_,rfl⟩:=e1;exact⟨hz,hn rfl⟩
   ·simp at e
  have hq:=eql_nil w;go_enter Tryz.func71,Tryz.ntmps71;go_wp2
  go_ret
  exact⟨none,0,rfl,.inl ⟨rfl,rfl⟩,Below.refl _ _⟩
 |some ad=>
  have hq:=eql_some w ad zs.length cap;go_enter Tryz.func71,Tryz.ntmps71;go_wp2_with (at_builtin;refine zE1 _ rfl (.tmp 5) (.tmp 6) 26 rfl w.heap.size 5 i0 Tryz.underlying26 hi hz0 hz1 hz2 _ [] rfl (zJ9 w _) w.heap.size _ zs rfl hR1 (by simp;omega) (by simp) ?_;intro v0 w0 hown0 hg0;have hbw0:=zEh hb0 (zJ9 w _) hg0 (Nat.le_refl _) hb0.size;clear hg0;have hO0:=Ow.of_row hown0;clear hown0;simp only[List.nil_append]at hO0;obtain⟨a0,cap0,rfl,hp0,hm0⟩:=hO0.slice)
  go_ret
  exact⟨a0,cap0,rfl,hO0,hbw0⟩
theorem zKj {W:World} {n:Nat} {t:TypeId} (v0 v1 v2 v3 v4 v5 v6 v7 v8 x4 x7 x8:Value)(h:W.heap[n]? =some (.cells #[v0,v1,v2,v3,v4,v5,v6,v7,v8] t (0,0))):
  (((W.setCell ⟨n,4,none⟩ x4).setCell ⟨n,7,none⟩ x7).setCell ⟨n,8,none⟩ x8).heap[n]? =some (.cells #[v0,v1,v2,v3,x4,v5,v6,x7,x8] t (0,0)):=zAh (zAh (zAh h 4 x4) 7 x7) 8 x8
abbrev zcc:List Value:=[.int .u8 0,.int .u16 0,.bool false,.int .u8 0,.int .u8 0,.int .u32 0,.int .u32 0,.slice none 0 0,.slice none 0 0]
theorem zMi(tos id ttl proto src dst np:Int)(keep:Bool)(so sd sd':Value)(zo zd:List Int)(w:World)(ub:Nat)(tu:TypeId)(hu:w.heap[ub]? =some (.cells #[sd',.int .u8 np] tu (0,0)))(hBo:Mt.By zo)(hIo:Rd w.heap.size w so zo)(hId:Rd w.heap.size w sd' zd)
  (hlo:zo.length≤40)(hlm:zo.length % 4=0)(hall:20+zo.length+zd.length≤65535)(ht:0≤tos∧tos≤255)(hid:0≤id∧id≤65535)(htt:0≤ttl∧ttl≤255)(hpr:0≤np∧np≤255)(hsr:0≤src∧src≤4294967295)(hds:0≤dst∧dst≤4294967295):
  Calls Tryz.prog 61 #[.pointer (some ⟨ub,0,none⟩),.agg #[.int .u8 tos,.int .u16 id,.bool keep,.int .u8 ttl,.int .u8 proto,.int .u32 src,.int .u32 dst,so,sd]] w fun e w'=>∃ao co,e= .returned (.tuple #[.agg #[.int .u8 tos,.int .u16 id,.bool keep,.int .u8 ttl,.int .u8 np,.int .u32 src,.int .u32 dst,.slice ao zo.length co,sd'],.int .i64 0])∧Ow w.heap.size w' (.slice ao zo.length co) zo∧Below w.heap.size w w':=by
 obtain⟨ao,co,rfl,hl1,hm1⟩:=hIo.slice;obtain⟨ad,cd,rfl,hl2,hm2⟩:=hId.slice;have hb0:Below w.heap.size w ((w.alloc (.cells #[.int .u8 tos,.int .u16 id,.bool keep,.int .u8 ttl,.int .u8 proto,.int .u32 src,.int .u32 dst,.slice ao zo.length co,sd] 40)).alloc (.cells zcc.toArray 40)):=(bA _ _).alloc (by simp) _;have p0:((w.alloc (.cells #[.int .u8 tos,.int .u16 id,.bool keep,.int .u8 ttl,.int .u8 proto,.int .u32 src,.int .u32 dst,.slice ao zo.length co,sd] 40)).alloc (.cells zcc.toArray 40)).heap[w.heap.size]? =some (.cells #[.int .u8 tos,.int .u16 id,.bool keep,.int .u8 ttl,.int .u8 proto,.int .u32 src,.int .u32 dst,.slice ao zo.length co,sd] 40):=(Below.heap_alloc _ _ _ (by simp)).trans (heap_alloc_new w _);have q0:((w.alloc (.cells #[.int .u8 tos,.int .u16 id,.bool keep,.int .u8 ttl,.int .u8 proto,.int .u32 src,.int .u32 dst,.slice ao zo.length co,sd] 40)).alloc (.cells zcc.toArray 40)).heap[w.heap.size+1]? =some (.cells zcc.toArray 40 (0,0)):=by have:=heap_alloc_new (w.alloc (.cells #[.int .u8 tos,.int .u16 id,.bool keep,.int .u8 ttl,.int .u8 proto,.int .u32 src,.int .u32 dst,.slice ao zo.length co,sd] 40)) (.cells zcc.toArray 40);simpa using this
 have P0:=zAd p0;have Q0:=zAd q0;clear p0 q0;have hub:ub<w.heap.size:=(bl9 hu);have hu0:=(hb0.block ub hub).trans hu;go_enter Tryz.func61,Tryz.ntmps61;go_upto_region 1 with fail;generalize (w.alloc (.cells #[.int .u8 tos,.int .u16 id,.bool keep,.int .u8 ttl,.int .u8 proto,.int .u32 src,.int .u32 dst,.slice ao zo.length co,sd] 40)).alloc (.cells zcc.toArray 40)=W0 at*;refine zAl (R:=But (fun b=>b=w.heap.size)) 18 rfl (by kernel_rfl) ?_;have hd:Later W0 W0.drew:=Later.drew W0;have qu:∀v1,But (fun b=>b=w.heap.size) W0.drew v1→∀i,v1.cell? ⟨ub,i,none⟩=#[Value.slice ad zd.length cd,.int .u8 np][i]? :=fun v1 h=>zAa ((((But.of hd).trans h).block ub (bl9 hu0) (by omega)).trans hu0);have P1:=(hd.block w.heap.size (bl9 P0.out)).trans P0.out;have Q1:=(hd.block (w.heap.size+1) (bl9 Q0.out)).trans Q0.out;have hbd:=hb0.trans (hd.mono hb0.size);clear P0 Q0 hu0;generalize W0.drew=W1 at*;refine tX (But.pre _) 0 ?_;refine tX (But.pre _) 1 ?_;refine tX (But.pre _) 2 ?_;refine tX (But.pre _) 3 ?_;refine tX (But.pre _) 7 ?_;refine tX (But.pre _) 8 ?_;refine tX (But.pre _) 9 ?_;refine tX (But.pre _) 10 ?_;refine tX (But.pre _) 11 ?_;refine tX (But.pre _) 4 ?_;have K0:=zAa P1;have hsW:w.heap.size+2≤W1.heap.size:=by have:=(bl9 Q1);omega
 refine tO 5 ?_;unfold Oper.wp;go_simp;refine⟨But.refl _ _,?_⟩;clear K0;refine tX (But.pre _) 12 ?_;refine tO 6 ?_;refine zAj 71 #[.slice ao zo.length co] (by go_simp) ?_;refine(zAx _ zo _ (by omega) ((hIo.below hbd).mono hbd.size)).mono ?_;rintro e w1 ⟨a1,c1,rfl,hO1,hb1⟩;refine⟨But.of hb1,?_⟩;simp only[Act.put,sA,sB,sC];have p1:=(hb1.block w.heap.size (by omega)).trans P1;have q1:=(hb1.block (w.heap.size+1) (by omega)).trans Q1;have hw1:=hbd.trans (hb1.mono hbd.size);have K1:=zAa p1;have F1:=zAc p1;clear qu;refine tO 13 ?_;unfold Oper.wp;go_simp;refine⟨(But.refl (fun b=>b=w.heap.size) w1).setCell (p:=⟨w.heap.size,4,none⟩) rfl _,?_⟩;have p1b:=zAh p1 4 (.int .u8 np);have K1b:=zAa p1b;have F1b:=zAc p1b;clear K1 F1;refine tX (But.pre _) 14 ?_;refine tO 15 ?_;unfold Oper.wp;go_simp;refine⟨(But.refl (fun b=>b=w.heap.size) _).setCell (p:=⟨w.heap.size,7,none⟩) rfl _,?_⟩;have p1c:=zAh p1b 7 (.slice a1 zo.length c1);have K1c:=zAa p1c;have F1c:=zAc p1c;clear K1b F1b;refine tX (But.pre _) 16 ?_;refine tO 17 ?_;unfold Oper.wp;go_simp;refine⟨(But.refl (fun b=>b=w.heap.size) _).setCell (p:=⟨w.heap.size,8,none⟩) rfl _,?_⟩;clear K1c F1c;refine tD ?_;have K1:=zAa p1;have F1:=zAc p1;have p2:=zKj _ _ _ _ _ _ _ _ _ (.int .u8 np) (.slice a1 zo.length c1) (.slice ad zd.length cd) p1;go_wp2_with fail
 have hE:But (fun b=>b=w.heap.size) w1 (((w1.setCell ⟨w.heap.size,4,none⟩ (.int .u8 np)).setCell ⟨w.heap.size,7,none⟩ (.slice a1 zo.length c1)).setCell ⟨w.heap.size,8,none⟩ (.slice ad zd.length cd)):=(((But.refl (fun b=>b=w.heap.size) w1).setCell (p:=⟨w.heap.size,4,none⟩) rfl _).setCell (p:=⟨w.heap.size,7,none⟩) rfl _).setCell (p:=⟨w.heap.size,8,none⟩) rfl _;have hs1:w.heap.size+2≤w1.heap.size:=by have:=hb1.size;omega
 generalize ((w1.setCell ⟨w.heap.size,4,none⟩ (.int .u8 np)).setCell ⟨w.heap.size,7,none⟩ (.slice a1 zo.length c1)).setCell ⟨w.heap.size,8,none⟩ (.slice ad zd.length cd)=V at*;have hOV:=hO1.but hE (fun b h e=>by omega);have hwV:Below w.heap.size w V:=hw1.trans (hE.below (by omega) (fun k h e=>by omega));have qV:=(hE.block (w.heap.size+1) (by omega) (by omega)).trans q1;refine(zEj tos id ttl np src dst keep _ _ zo zd _ hBo hOV.rd ((hId.below hwV).mono hwV.size) hlo hlm hall ht hid htt hpr hsr hds).mono ?_;rintro e w2 ⟨v2,rfl,hO2,hb2⟩;have p3:=(hb2.block w.heap.size (by have:=hE.size;omega)).trans p2;have q3:=(hb2.block (w.heap.size+1) (by have:=hE.size;omega)).trans qV;have K3:=zAa p3;have Q3:=zAa q3;have G3:=zAc q3;clear K1 F1;go_wp2_with fail;generalize hV:World.setCell _ ⟨w.heap.size+1,8,none⟩ _=V8;have hV9:V8=zAi w2 (w.heap.size+1) 0 [.int .u8 tos,.int .u16 id,.bool keep,.int .u8 ttl,.int .u8 np,.int .u32 src,.int .u32 dst,.slice a1 zo.length c1,.slice ad zd.length cd]:=hV.symm;have hb8:But (fun b=>b=w.heap.size+1) w2 V8:=by rw[hV9];exact zAf (E:=fun b=>b=w.heap.size+1) (n:=w.heap.size+1) rfl _ _ _ _ (But.refl _ _)
 have p8:=zAe [.int .u8 tos,.int .u16 id,.bool keep,.int .u8 ttl,.int .u8 np,.int .u32 src,.int .u32 dst,.slice a1 zo.length c1,.slice ad zd.length cd] q3 rfl;rw[←hV9]at p8;clear hV hV9 Q3 G3 K3;have P8:=zAa p8;have hw2:=hwV.trans (hb2.mono hwV.size);have hw8:Below w.heap.size w V8:=hw2.trans (hb8.below hw2.size (fun k h e=>by omega));refine bodyPost_ret (v:= .tuple #[.agg #[.int .u8 tos,.int .u16 id,.bool keep,.int .u8 ttl,.int .u8 np,.int .u32 src,.int .u32 dst,.slice a1 zo.length c1,.slice ad zd.length cd],.int .i64 0]) (by simp[results,Tryz.results61,go_sem,P8]) rfl ⟨a1,c1,rfl,?_,hw8⟩;exact((hOV.below hb2 (Nat.le_refl _)).but hb8 (fun b h e=>by omega)).mono (by omega)
theorem zQ1(tos id ttl proto src dst np:Int)(keep:Bool)(so sd:Value)(zo:List Int)(ad:Option Addr)(ld cd:Nat)(w:World)(ub:Nat)(tu:TypeId)(hu:w.heap[ub]? =some (.cells #[.slice ad ld cd,.int .u8 np] tu (0,0)))(hIo:Rd w.heap.size w so zo)(h1:zo.length≤140737488355328)(h2:ld≤140737488355328)(hf:flt zo.length ld≠0):
  Calls Tryz.prog 61 #[.pointer (some ⟨ub,0,none⟩),.agg #[.int .u8 tos,.int .u16 id,.bool keep,.int .u8 ttl,.int .u8 proto,.int .u32 src,.int .u32 dst,so,sd]] w fun e w'=>e= .returned (.tuple #[.agg zcc.toArray,.int .i64 (flt zo.length ld)])∧Below w.heap.size w w':=by
 obtain⟨ao,co,rfl,hl1,hm1⟩:=hIo.slice;have hb0:Below w.heap.size w ((w.alloc (.cells #[.int .u8 tos,.int .u16 id,.bool keep,.int .u8 ttl,.int .u8 proto,.int .u32 src,.int .u32 dst,.slice ao zo.length co,sd] 40)).alloc (.cells zcc.toArray 40)):=(bA _ _).alloc (by simp) _;have p0:((w.alloc (.cells #[.int .u8 tos,.int .u16 id,.bool keep,.int .u8 ttl,.int .u8 proto,.int .u32 src,.int .u32 dst,.slice ao zo.length co,sd] 40)).alloc (.cells zcc.toArray 40)).heap[w.heap.size]? =some (.cells #[.int .u8 tos,.int .u16 id,.bool keep,.int .u8 ttl,.int .u8 proto,.int .u32 src,.int .u32 dst,.slice ao zo.length co,sd] 40):=(Below.heap_alloc _ _ _ (by simp)).trans (heap_alloc_new w _);have q0:((w.alloc (.cells #[.int .u8 tos,.int .u16 id,.bool keep,.int .u8 ttl,.int .u8 proto,.int .u32 src,.int .u32 dst,.slice ao zo.length co,sd] 40)).alloc (.cells zcc.toArray 40)).heap[w.heap.size+1]? =some (.cells zcc.toArray 40 (0,0)):=by have:=heap_alloc_new (w.alloc (.cells #[.int .u8 tos,.int .u16 id,.bool keep,.int .u8 ttl,.int .u8 proto,.int .u32 src,.int .u32 dst,.slice ao zo.length co,sd] 40)) (.cells zcc.toArray 40);simpa using this
 have P0:=zAd p0;have Q0:=zAd q0;clear p0 q0;have hf':(flt zo.length ld !=0)=true:=by simp[hf]
 have HF:=zAd hf;clear hf;have hub:ub<w.heap.size:=(bl9 hu);have hu0:=(hb0.block ub hub).trans hu;go_enter Tryz.func61,Tryz.ntmps61;go_upto_region 1 with fail;generalize (w.alloc (.cells #[.int .u8 tos,.int .u16 id,.bool keep,.int .u8 ttl,.int .u8 proto,.int .u32 src,.int .u32 dst,.slice ao zo.length co,sd] 40)).alloc (.cells zcc.toArray 40)=W0 at*;refine zAl (R:=But (fun b=>b=w.heap.size)) 18 rfl (by kernel_rfl) ?_;have hd:Later W0 W0.drew:=Later.drew W0;have qu:∀v1,But (fun b=>b=w.heap.size) W0.drew v1→∀i,v1.cell? ⟨ub,i,none⟩=#[Value.slice ad ld cd,.int .u8 np][i]? :=fun v1 h=>zAa ((((But.of hd).trans h).block ub (bl9 hu0) (by omega)).trans hu0);have P1:=(hd.block w.heap.size (bl9 P0.out)).trans P0.out;have Q1:=(hd.block (w.heap.size+1) (bl9 Q0.out)).trans Q0.out;have hbd:=hb0.trans (hd.mono hb0.size);clear P0 Q0 hu0;generalize W0.drew=W1 at*;refine tX (But.pre _) 0 ?_;refine tX (But.pre _) 1 ?_;refine tX (But.pre _) 2 ?_;refine tX (But.pre _) 3 ?_;refine tX (But.pre _) 7 ?_;refine tX (But.pre _) 8 ?_;refine tX (But.pre _) 9 ?_;refine tX (But.pre _) 10 ?_;refine tX (But.pre _) 11 ?_;refine tX (But.pre _) 4 ?_;have K0:=zAa P1;have hsW:w.heap.size+2≤W1.heap.size:=by have:=(bl9 Q1);omega
 refine tO 5 ?_;unfold Oper.wp;go_simp;refine⟨But.refl _ _,?_⟩;clear K0;refine tX (But.pre _) 12 ?_;refine tO 6 ?_;refine zAj 71 #[.slice ao zo.length co] (by go_simp) ?_;refine(zAx _ zo _ (by omega) ((hIo.below hbd).mono hbd.size)).mono ?_;rintro e w1 ⟨a1,c1,rfl,hO1,hb1⟩;refine⟨But.of hb1,?_⟩;simp only[Act.put,sA,sB,sC];have p1:=(hb1.block w.heap.size (by omega)).trans P1;have q1:=(hb1.block (w.heap.size+1) (by omega)).trans Q1;have hw1:=hbd.trans (hb1.mono hbd.size);have K1:=zAa p1;have F1:=zAc p1;clear qu;refine tO 13 ?_;unfold Oper.wp;go_simp;refine⟨(But.refl (fun b=>b=w.heap.size) w1).setCell (p:=⟨w.heap.size,4,none⟩) rfl _,?_⟩;have p1b:=zAh p1 4 (.int .u8 np);have K1b:=zAa p1b;have F1b:=zAc p1b;clear K1 F1;refine tX (But.pre _) 14 ?_;refine tO 15 ?_;unfold Oper.wp;go_simp;refine⟨(But.refl (fun b=>b=w.heap.size) _).setCell (p:=⟨w.heap.size,7,none⟩) rfl _,?_⟩;have p1c:=zAh p1b 7 (.slice a1 zo.length c1);have K1c:=zAa p1c;have F1c:=zAc p1c;clear K1b F1b;refine tX (But.pre _) 16 ?_;refine tO 17 ?_;unfold Oper.wp;go_simp;refine⟨(But.refl (fun b=>b=w.heap.size) _).setCell (p:=⟨w.heap.size,8,none⟩) rfl _,?_⟩;clear K1c F1c;refine tD ?_;have K1:=zAa p1;have F1:=zAc p1;have p2:=zKj _ _ _ _ _ _ _ _ _ (.int .u8 np) (.slice a1 zo.length c1) (.slice ad ld cd) p1;go_wp2_with fail
 have hE:But (fun b=>b=w.heap.size) w1 (((w1.setCell ⟨w.heap.size,4,none⟩ (.int .u8 np)).setCell ⟨w.heap.size,7,none⟩ (.slice a1 zo.length c1)).setCell ⟨w.heap.size,8,none⟩ (.slice ad ld cd)):=(((But.refl (fun b=>b=w.heap.size) w1).setCell (p:=⟨w.heap.size,4,none⟩) rfl _).setCell (p:=⟨w.heap.size,7,none⟩) rfl _).setCell (p:=⟨w.heap.size,8,none⟩) rfl _;have hs1:w.heap.size+2≤w1.heap.size:=by have:=hb1.size;omega
 generalize ((w1.setCell ⟨w.heap.size,4,none⟩ (.int .u8 np)).setCell ⟨w.heap.size,7,none⟩ (.slice a1 zo.length c1)).setCell ⟨w.heap.size,8,none⟩ (.slice ad ld cd)=V at*;have hwV:Below w.heap.size w V:=hw1.trans (hE.below (by omega) (fun k h e=>by omega));have qV:=(hE.block (w.heap.size+1) (by omega) (by omega)).trans q1;refine(zOs tos id ttl np src dst keep a1 ad zo.length c1 ld cd _ h1 h2 HF.out).mono ?_;rintro e w2 ⟨rfl,hb2⟩;have q3:=(hb2.block (w.heap.size+1) (by have:=hE.size;omega)).trans qV;have Q3:=zAa q3;have G3:=zAc q3;clear K1 F1;go_wp2_with fail;generalize hV:World.setCell _ ⟨w.heap.size+1,8,none⟩ _=V8;have hV9:V8=zAi w2 (w.heap.size+1) 0 zcc:=hV.symm;have hb8:But (fun b=>b=w.heap.size+1) w2 V8:=by rw[hV9];exact zAf (E:=fun b=>b=w.heap.size+1) (n:=w.heap.size+1) rfl _ _ _ _ (But.refl _ _)
 have p8:=zAe zcc q3 rfl;rw[←hV9]at p8;clear hV hV9 Q3 G3;have P8:=zAa p8;have hw2:=hwV.trans (hb2.mono hwV.size);have hw8:Below w.heap.size w V8:=hw2.trans (hb8.below hw2.size (fun k h e=>by omega));exact bodyPost_ret (v:= .tuple #[.agg zcc.toArray,.int .i64 (flt zo.length ld)]) (by simp[results,Tryz.results61,go_sem,P8]) rfl ⟨rfl,hw8⟩
theorem zMj(tos id ttl proto src dst np:Int)(keep:Bool)(so sd sd':Value)(zo zd:List Int)(w:World)(ub:Nat)(tu:TypeId)(hu:w.heap[ub]? =some (.cells #[sd',.int .u8 np] tu (0,0)))(hBo:Mt.By zo)(hIo:Rd w.heap.size w so zo)(hId:Rd w.heap.size w sd' zd)
  (h1:zo.length≤140737488355328)(h2:zd.length≤140737488355328)(ht:0≤tos∧tos≤255)(hid:0≤id∧id≤65535)(htt:0≤ttl∧ttl≤255)(hpr:0≤np∧np≤255)(hsr:0≤src∧src≤4294967295)(hds:0≤dst∧dst≤4294967295):
  Calls Tryz.prog 61 #[.pointer (some ⟨ub,0,none⟩),.agg #[.int .u8 tos,.int .u16 id,.bool keep,.int .u8 ttl,.int .u8 proto,.int .u32 src,.int .u32 dst,so,sd]] w fun e w'=>Below w.heap.size w w'∧((flt zo.length zd.length≠0∧e= .returned (.tuple #[.agg zcc.toArray,.int .i64 (flt zo.length zd.length)]))∨
   (flt zo.length zd.length=0∧∃ao co,e= .returned (.tuple #[.agg #[.int .u8 tos,.int .u16 id,.bool keep,.int .u8 ttl,.int .u8 np,.int .u32 src,.int .u32 dst,.slice ao zo.length co,sd'],.int .i64 0])∧Ow w.heap.size w' (.slice ao zo.length co) zo)):=by
 by_cases hf:flt zo.length zd.length=0
 ·have hv:zo.length≤40∧zo.length % 4=0∧20+zo.length+zd.length≤65535:=by
   unfold flt at hf;split at hf<;>first|omega|(split at hf<;>omega)
  exact(zMi tos id ttl proto src dst np keep so sd sd' zo zd w ub tu hu hBo hIo hId hv.1 hv.2.1 hv.2.2 ht hid htt hpr hsr hds).mono fun e w' ⟨ao,co,he,hO,hb⟩=>⟨hb,.inr ⟨hf,ao,co,he,hO⟩⟩
 ·obtain ⟨ad,cd,rfl,_,_⟩:=hId.slice
  exact(zQ1 tos id ttl proto src dst np keep so sd zo ad zd.length cd w ub tu hu hIo h1 h2 hf).mono fun e w' ⟨he,hb⟩=>⟨hb,.inl ⟨hf,he⟩⟩
theorem zBb(s d p n:Int):(psd s d p n).length=12:=rfl
theorem zFg(s d p n:Int)(hs:0≤s∧s≤4294967295)(hd:0≤d∧d≤4294967295)(hp:0≤p∧p≤255):Mt.By (psd s d p n):=by
 unfold psd;exact .mk (by omega) (.mk (by omega) (.mk (by omega) (.mk (by omega) (.mk (by omega) (.mk (by omega) (.mk (by omega) (.mk (by omega) (.mk (by omega) (.mk (by omega) (.mk (by omega) (.mk (by omega) .nil)))))))))))
theorem zE7(tos id ttl proto src dst:Int)(keep:Bool)(so sd:Value)(zd:List Int)(w:World)(hI:Rd w.heap.size w sd zd)(hl:12+zd.length≤140737488355328)(hsr:0≤src∧src≤4294967295)(hds:0≤dst∧dst≤4294967295):
  Calls Tryz.prog 64 #[.agg #[.int .u8 tos,.int .u16 id,.bool keep,.int .u8 ttl,.int .u8 proto,.int .u32 src,.int .u32 dst,so,sd]] w fun e w'=>∃a c,e= .returned (.slice a (12+zd.length) c)∧Ow w.heap.size w' (.slice a (12+zd.length) c) (psd src dst proto zd.length++zd)∧Below w.heap.size w w':=by
 obtain⟨i0,hi,hz0,hz1,hz2⟩:=info_parts zBt;obtain⟨ad,cd,rfl,hl1,hm1⟩:=hI.slice;have hb0:Below w.heap.size w (w.alloc (.cells #[.int .u8 tos,.int .u16 id,.bool keep,.int .u8 ttl,.int .u8 proto,.int .u32 src,.int .u32 dst,so,.slice ad zd.length cd] 40)):=bA _ _;have p0:=heap_alloc_new w (.cells #[.int .u8 tos,.int .u16 id,.bool keep,.int .u8 ttl,.int .u8 proto,.int .u32 src,.int .u32 dst,so,.slice ad zd.length cd] 40);have P0:=zAd p0;clear p0;go_enter Tryz.func64,Tryz.ntmps64;go_upto_region 1 with fail;generalize w.alloc (.cells #[.int .u8 tos,.int .u16 id,.bool keep,.int .u8 ttl,.int .u8 proto,.int .u32 src,.int .u32 dst,so,.slice ad zd.length cd] 40)=W0 at*;refine zAl (R:=Later) 14 rfl (by kernel_rfl) ?_;have hd:Later W0 W0.drew:=Later.drew W0;have qp:∀v1,Later W0.drew v1→∀i,v1.cell? ⟨w.heap.size,i,none⟩=#[Value.int .u8 tos,.int .u16 id,.bool keep,.int .u8 ttl,.int .u8 proto,.int .u32 src,.int .u32 dst,so,.slice ad zd.length cd][i]? :=fun v1 h=>zAa (((hd.trans h).block w.heap.size (bl9 P0.out)).trans P0.out);have hbd:=hb0.trans (hd.mono hb0.size);generalize W0.drew=W1 at*;refine tX Later.pre 0 ?_;refine tX Later.pre 1 ?_;refine tX Later.pre 2 ?_;refine tX Later.pre 3 ?_;refine tX Later.pre 4 ?_;refine tX Later.pre 5 ?_;refine tX Later.pre 6 ?_;refine tX Later.pre 7 ?_;refine tX Later.pre 8 ?_;refine tX Later.pre 10 ?_;refine tX Later.pre 11 ?_;refine tO 9 ?_
 refine zAj 124 #[.int .u32 src,.int .u32 dst,.int .u8 proto,.int .i64 zd.length] (by go_simp) ?_;refine(zHm src dst proto zd.length hsr hds W1).mono ?_;rintro e w2 ⟨a2,rfl,hO2,hb2⟩;refine⟨hb2,?_⟩;simp only[Act.put,sA,sB,sC];have hw2:=hbd.trans (hb2.mono hbd.size);obtain⟨v3,w3,hr3,hO3,hb3⟩:=zE2 (P:=Tryz.prog) w2 26 26 W1.heap.size i0 Tryz.underlying26 hi hz0 hz1 hz2 a2 12 _ hO2 (by simp[psd]) w.heap.size _ zd (hI.below hw2) (by rw[zBb];omega) hb2.size;refine tO 12 ?_;obtain⟨a3,c3,rfl,_,_⟩:=hO3.slice;rw[List.length_append,zBb]at hr3 hO3;refine zC9 (.tmp 12) (.tmp 14) 26 rfl _ _ rfl rfl _ w3 hr3 ⟨hb3,?_⟩;simp only[Act.put,sA,sB,sC];clear qp;refine tX Later.pre 13 ?_;refine tD ?_;go_wp2_with fail;go_ret
 exact⟨a3,c3,rfl,hO3.mono hbd.size,hw2.trans (hb3.mono hw2.size)⟩
theorem But.wk {E E':Nat→Prop} {a b:World} (h:But E a b)(hE:∀k,E k→E' k):But E' a b:=⟨h.os,h.tape,h.output,h.size,fun i hi he=>h.block i hi (fun h'=>he (hE i h'))⟩
theorem Ow.aside {base mb:Nat} {W W':World} {v:Value} {zs:List Int} {cur:Array Value} {t:TypeId} (h:Ow base W v zs)(hm:W.heap[mb]? =some (.cells cur t (0,0)))(ht:t≠5)(hb:But (fun b=>b=mb) W W'):Ow base W' v zs:=by
 rcases h with h|⟨g,cap,c,h1,h2,h3,h4,h5,h6,h7⟩
 ·exact .inl h
 ·refine .inr ⟨g,cap,c,h1,h2,h3,h4,h5,(hb.block g (bl9 h6) (fun e=> ?_)).trans h6,h7⟩
  subst e;rw[hm]at h6
  simp at h6
  exact ht h6.2
def pue (proto src dst:Int) (zs:List Int):Int:=if proto≠17 then 12 else if zs.length<8 then 3 else if wat zs 4≠zs.length then 4 else if wat zs 6≠0∧Mt.cks (psd src dst 17 zs.length++zs)≠0 then 5 else 0
abbrev zud:List Value:=[.int .u16 0,.int .u16 0,.bool false,.slice none 0 0]
theorem zHt(zs:List Int)(p:Int)(k:Nat)(hk:p=k)(h:k+2≤zs.length):zAp zs p=wat zs k:=by
 subst hk;unfold zAp;rw[if_pos (by omega),Int.toNat_natCast]
theorem zKk(tos id ttl proto src dst:Int)(keep:Bool)(so sd:Value)(zs:List Int)(w:World)(hB:Mt.By zs)(hI:Rd w.heap.size w sd zs)(hl:12+zs.length≤140737488355328)(hsr:0≤src∧src≤4294967295)(hds:0≤dst∧dst≤4294967295):
  Calls Tryz.prog 275 #[.agg #[.int .u8 tos,.int .u16 id,.bool keep,.int .u8 ttl,.int .u8 proto,.int .u32 src,.int .u32 dst,so,sd]] w fun e w'=>Below w.heap.size w w'∧((pue proto src dst zs≠0∧e= .returned (.tuple #[.agg zud.toArray,.int .i64 (pue proto src dst zs)]))∨
   (pue proto src dst zs=0∧∃ad cd,e= .returned (.tuple #[.agg #[.int .u16 (wat zs 0),.int .u16 (wat zs 2),.bool (wat zs 6==0),.slice ad (zs.length-8) cd],.int .i64 0])∧Ow w.heap.size w' (.slice ad (zs.length-8) cd) (zs.drop 8))):=by
 obtain⟨ad,cd,rfl,hl1,hm1⟩:=hI.slice;have hb0:Below w.heap.size w ((w.alloc (.cells #[.int .u8 tos,.int .u16 id,.bool keep,.int .u8 ttl,.int .u8 proto,.int .u32 src,.int .u32 dst,so,.slice ad zs.length cd] 40)).alloc (.cells zud.toArray 408)):=(bA _ _).alloc (by simp) _;have p0:((w.alloc (.cells #[.int .u8 tos,.int .u16 id,.bool keep,.int .u8 ttl,.int .u8 proto,.int .u32 src,.int .u32 dst,so,.slice ad zs.length cd] 40)).alloc (.cells zud.toArray 408)).heap[w.heap.size]? =some (.cells #[.int .u8 tos,.int .u16 id,.bool keep,.int .u8 ttl,.int .u8 proto,.int .u32 src,.int .u32 dst,so,.slice ad zs.length cd] 40):=(Below.heap_alloc _ _ _ (by simp)).trans (heap_alloc_new w _);have r0:((w.alloc (.cells #[.int .u8 tos,.int .u16 id,.bool keep,.int .u8 ttl,.int .u8 proto,.int .u32 src,.int .u32 dst,so,.slice ad zs.length cd] 40)).alloc (.cells zud.toArray 408)).heap[w.heap.size+1]? =some (.cells zud.toArray 408 (0,0)):=by have:=heap_alloc_new (w.alloc (.cells #[.int .u8 tos,.int .u16 id,.bool keep,.int .u8 ttl,.int .u8 proto,.int .u32 src,.int .u32 dst,so,.slice ad zs.length cd] 40)) (.cells zud.toArray 408);simpa using this
 have hs0:((w.alloc (.cells #[.int .u8 tos,.int .u16 id,.bool keep,.int .u8 ttl,.int .u8 proto,.int .u32 src,.int .u32 dst,so,.slice ad zs.length cd] 40)).alloc (.cells zud.toArray 408)).heap.size=w.heap.size+1+1:=by simp
 have P0:=zAd p0;have R0:=zAd r0;have HS:=zAd hs0;clear p0 r0 hs0;go_enter Tryz.func275,Tryz.ntmps275;go_wp2_with fail;generalize (w.alloc (.cells #[.int .u8 tos,.int .u16 id,.bool keep,.int .u8 ttl,.int .u8 proto,.int .u32 src,.int .u32 dst,so,.slice ad zs.length cd] 40)).alloc (.cells zud.toArray 408)=W0 at*;refine(zDt _ zs hB 6 W0 (hI.below hb0)).mono ?_;rintro e w1 ⟨rfl,n1,hn1⟩;have hb1:Later W0 w1:=by rw[hn1];exact zAk (Later.refl W0) n1
 clear hn1;have p1:=(hb1.block w.heap.size (by have:=HS.out;omega)).trans P0.out;have r1:=(hb1.block (w.heap.size+1) (by have:=HS.out;omega)).trans R0.out;have hw1:Below w.heap.size w w1:=hb0.trans (hb1.mono hb0.size);have hs1:w.heap.size+1+1≤w1.heap.size:=by have:=hb1.size;have:=HS.out;omega
 clear hb0 hb1 P0 R0 HS;have K1:=zAa p1;generalize g6:zAp zs 6=x6;have G6:=zAd g6;clear g6;by_cases c1:proto=17
 ·have t1:(proto !=17)=false:=by simp[c1]
  have C1:=zAd c1;by_cases c2:zs.length<8
  ·have t2:(zs.length:Int)<8:=by omega
   have HF:Hid (pue proto src dst zs=3):=by show _=_;unfold pue;rw[if_neg (by simp[C1.out]),if_pos c2]
   clear c1;have R1:=zAa r1;have F1:=zAc r1;go_wp2_with fail;generalize hV:World.setCell _ ⟨w.heap.size+1,3,none⟩ _=V8;have hV9:V8=zAi w1 (w.heap.size+1) 0 zud:=hV.symm;have hb8:But (fun b=>b=w.heap.size+1) w1 V8:=by rw[hV9];exact zAf (E:=fun b=>b=w.heap.size+1) (n:=w.heap.size+1) rfl _ _ _ _ (But.refl _ _)
   have p8:=zAe zud r1 rfl;rw[←hV9]at p8;clear hV hV9;have P8:=zAa p8;have hw8:Below w.heap.size w V8:=(hw1).trans (hb8.below (hw1).size (fun k h e=>by omega));exact bodyPost_ret (v:= .tuple #[.agg zud.toArray,.int .i64 3]) (by simp[results,Tryz.results275,go_sem,P8]) rfl (⟨hw8,.inl ⟨by rw[HF.out];decide,by rw[HF.out]⟩⟩)
  ·have t2:¬(zs.length:Int)<8:=by omega
   rw[zHt zs 6 6 rfl (by omega)]at G6;clear c1;go_wp2_with fail;refine(zA4 _ zs hB 4 (by omega) w1 (hI.below hw1)).mono ?_;rintro e w2 ⟨rfl,n2,hn2⟩;have hb2:Later w1 w2:=by rw[hn2];exact zAk (Later.refl w1) n2
   clear hn2;have p2:=(hb2.block w.heap.size (by omega)).trans p1;have r2:=(hb2.block (w.heap.size+1) (by omega)).trans r1;have hw2:Below w.heap.size w w2:=hw1.trans (hb2.mono hw1.size);have hs2':w.heap.size+1+1≤w2.heap.size:=by have:=hb2.size;omega
   clear hb2 p1 r1 hw1 hs1 K1;have K2:=zAa p2;have b4:=zCp hB 4;by_cases c3:wat zs 4=zs.length
   ·have t3:(wat zs 4 !=(zs.length:Int))=false:=by simp[c3]
    by_cases c4:x6=0
    ·have t4:(x6==0)=true:=by simp[c4]
     have HF:Hid (pue proto src dst zs=0):=by show _=_;unfold pue;rw[if_neg (by simp[C1.out]),if_neg c2,if_neg (by simp[c3]),if_neg (by rw[G6.out];simp[c4])]
     clear c2 c3 c4;obtain⟨b,off,cap,e0,hlc,hmc,hbb,hcs⟩:=hI.cells (by omega);have hcl:=e0
     simp at hcl
     obtain⟨rfl,rfl⟩:=hcl;clear e0 hcs;have i8:(8:Int)≤zs.length:=by omega
     have i8c:(zs.length:Int)≤cd:=by omega
     go_wp2_with fail;obtain⟨Φ,HΦ⟩:∃Φ:Array Value→World→Prop,Hid (Φ=(fun arr W=>∃ad cd,arr=#[.int .u16 (wat zs 0),.int .u16 (wat zs 2),.bool true,.slice ad (zs.length-8) cd]∧Ow (w.heap.size+1+1) W (.slice ad (zs.length-8) cd) (zs.drop 8))):=⟨_,rfl⟩
     have hΦ:zQl Φ:=by
      rw[HΦ.out];rintro arr A B l ⟨ad,cd,h1,h2⟩;exact⟨ad,cd,h1,h2.later l⟩
     refine zAn (R:=KR (w.heap.size+1) 4 408 Φ) (Keep.pre _ _ _) (fun w=>KR.of hΦ (Later.drew w)) 11 rfl (by kernel_rfl) (fun W1 hW1=> ?_);have hg1:Wr (w.heap.size+1) 4 408 W1:=hW1.2.1 ⟨_,r2,rfl⟩;have hbut:∀v1,KR (w.heap.size+1) 4 408 Φ W1 v1→But (fun b=>b=w.heap.size+1) w2 v1:=fun v1 h=>hW1.1.trans h.1;have hbel:∀v1,KR (w.heap.size+1) 4 408 Φ W1 v1→Below w.heap.size w v1:=fun v1 h=>hw2.trans ((hbut v1 h).below (by omega) (fun k h e=>by omega));have hr:∀v1,KR (w.heap.size+1) 4 408 Φ W1 v1→Rd w.heap.size v1 (.slice (some ⟨b,off,none⟩) zs.length cd) zs:=fun v1 h=>hI.below (hbel v1 h);refine rX (Keep.pre _ _ _) 0 ?_;refine zAq (Keep.pre _ _ _) 1 (.int .u16 (wat zs 0)) rfl (by kernel_rfl) (by kernel_rfl) (by kernel_rfl) (fun _ _ _ h=>h) rfl (fun v1 hv1=>zAo 39 #[.slice (some ⟨b,off,none⟩) zs.length cd,.int .i64 0] (by go_simp) ?_) ?_
     ·exact (zA4 _ zs hB 0 (by omega) v1 (hr v1 hv1)).mono fun e w' ⟨he,q,hw⟩=>⟨he,KR.of hΦ (by rw[hw];exact zAk (Later.refl v1) q)⟩
     simp only[Act.put,sA,sB,sC];refine rX (Keep.pre _ _ _) 2 ?_;refine zAq (Keep.pre _ _ _) 3 (.int .u16 (wat zs 2)) rfl (by kernel_rfl) (by kernel_rfl) (by kernel_rfl) (fun _ _ _ h=>h) rfl (fun v1 hv1=>zAo 39 #[.slice (some ⟨b,off,none⟩) zs.length cd,.int .i64 2] (by go_simp) ?_) ?_
     ·exact (zA4 _ zs hB 2 (by omega) v1 (hr v1 hv1)).mono fun e w' ⟨he,q,hw⟩=>⟨he,KR.of hΦ (by rw[hw];exact zAk (Later.refl v1) q)⟩
     simp only[Act.put,sA,sB,sC];refine rX (Keep.pre _ _ _) 4 ?_;refine rX (Keep.pre _ _ _) 5 ?_;refine rX (Keep.pre _ _ _) 6 ?_;have hs8:∀v1,KR (w.heap.size+1) 4 408 Φ W1 v1→Rd w.heap.size v1 (.slice (if cd=8 then some (⟨b,off,none⟩:Addr)else some ⟨b,off+8,none⟩) (zs.length-8) (cd-8)) (zs.drop 8):=fun v1 h=>(hr v1 h).cutAt 8 (by omega);generalize (if cd=8 then some (⟨b,off,none⟩:Addr)else some ⟨b,off+8,none⟩)=ad8 at*;refine rO 7 (fun W2 hW2=> ?_);refine zAj 71 #[.slice ad8 (zs.length-8) (cd-8)] (by go_simp) ?_;refine(zAx _ (zs.drop 8) W2 (by simp;omega) ((hs8 W2 hW2).mono (hbel W2 hW2).size)).mono ?_;rw[List.length_drop];rintro e W5 ⟨a5,c5,rfl,hO5,hb5⟩;have hW15:=hW2.trans (KR.of hΦ hb5);have hs2:w.heap.size+1+1≤W2.heap.size:=Nat.le_trans hs2' (hbut W2 hW2).size;refine⟨KR.of hΦ hb5,?_⟩;simp only[Act.put,sA,sB,sC];refine rX (Keep.pre _ _ _) 8 ?_;refine rO 9 (fun W6 hW6=> ?_);have hW16:=hW15.trans hW6;have hg6:=hW16.2.1 hg1;have hg6':=hg6;obtain⟨cur,hcur,hsz⟩:=hg6';have k6:∀j,W6.cell? ⟨w.heap.size+1,j,none⟩=cur[j]? :=zAa hcur;have f6:∀j,W6.frozen? ⟨w.heap.size+1,j,none⟩=false:=zAc hcur;unfold Oper.wp;go_simp;generalize hV7:World.setCell _ ⟨w.heap.size+1,3,none⟩ _=V7;have hV8:V7=zAi W6 (w.heap.size+1) 0 [.int .u16 (wat zs 0),.int .u16 (wat zs 2),.bool true,.slice a5 (zs.length-8) c5]:=hV7.symm
     have hSt:=KR.store (Φ:=Φ) [.int .u16 (wat zs 0),.int .u16 (wat zs 2),.bool true,.slice a5 (zs.length-8) c5] hg6 rfl (by rw[HΦ.out];exact⟨a5,c5,rfl,((hO5.but hW6.1 (fun b h e=>by omega)).but (zA1 (rb:=w.heap.size+1) _ _) (fun b h e=>by omega)).mono hs2⟩);rw[←hV8]at hSt;clear hV7 hV8 k6 f6;refine⟨hSt.1,?_⟩;refine rX (Keep.pre _ _ _) 10 ?_;refine rD (fun W8 hW8=> ?_);obtain⟨arr,hh8,hP8⟩:=hW8.2.2 hSt.2;have hw8:=hbel W8 ((hW16.trans hSt.1).trans hW8);clear hSt hr hs8 hbut;rw[HΦ.out]at hP8;obtain⟨ad8',cd8,rfl,hO8⟩:=hP8;have r8:=zAa hh8;go_wp2_with fail;exact bodyPost_ret (v:= .tuple #[.agg #[.int .u16 (wat zs 0),.int .u16 (wat zs 2),.bool true,.slice ad8' (zs.length-8) cd8],.int .i64 0]) (by simp[results,Tryz.results275,go_sem,r8]) rfl ⟨hw8,.inr ⟨HF.out,ad8',cd8,by rw[G6.out,t4],hO8.mono (by omega)⟩⟩
    ·have t4:(x6==0)=false:=by simp[c4]
     have hBs:=(zFg src dst 17 zs.length hsr hds (by omega)).append hB;have hln:(psd src dst 17 zs.length++zs).length=12+zs.length:=by rw[List.length_append,zBb]
     have hBS:=zAd hBs;have HLN:=zAd hln;have C3:=zAd c3;have C4:=zAd c4;have C2:=zAd c2;clear hBs hln c3 c4 c2;go_wp2_with fail;rw[C1.out];refine(zE7 tos id ttl 17 src dst keep _ _ zs w2 ((hI.below hw2).mono hw2.size) hl hsr hds).mono ?_;rintro e w3 ⟨a3,c3,rfl,hO3,hb3⟩;go_wp2_with fail;rw[←HLN.out]at hO3⊢;refine(zEg _ _ hBS.out (by rw[HLN.out];exact hl) w3 hO3.rd).mono ?_;rintro e w4 ⟨rfl,hb4⟩;have r4:=((hb3.trans (hb4.mono hb3.size)).block (w.heap.size+1) (by omega)).trans r2;have hw4:Below w.heap.size w w4:=hw2.trans ((hb3.trans (hb4.mono hb3.size)).mono hw2.size);have hs4:w.heap.size+1+1≤w4.heap.size:=by have:=hb3.size;have:=hb4.size;omega
     clear hO3 hb3 hb4 r2 p2 K2;by_cases c5:Mt.cks (psd src dst 17 zs.length++zs)=0
     ·have t5:(Mt.cks (psd src dst 17 zs.length++zs)==0)=true:=by simp[c5]
      have HF:Hid (pue proto src dst zs=0):=by show _=_;unfold pue;rw[if_neg (by simp[C1.out]),if_neg C2.out,if_neg (by simp[C3.out]),if_neg (by simp[c5])]
      clear c5;obtain⟨b,off,cap,e0,hlc,hmc,hbb,hcs⟩:=hI.cells (by omega);have hcl:=e0
      simp at hcl
      obtain⟨rfl,rfl⟩:=hcl;clear e0 hcs;have i8:(8:Int)≤zs.length:=by omega
      have i8c:(zs.length:Int)≤cd:=by omega
      go_wp2_with fail;obtain⟨Φ,HΦ⟩:∃Φ:Array Value→World→Prop,Hid (Φ=(fun arr W=>∃ad cd,arr=#[.int .u16 (wat zs 0),.int .u16 (wat zs 2),.bool false,.slice ad (zs.length-8) cd]∧Ow (w.heap.size+1+1) W (.slice ad (zs.length-8) cd) (zs.drop 8))):=⟨_,rfl⟩
      have hΦ:zQl Φ:=by
       rw[HΦ.out];rintro arr A B l ⟨ad,cd,h1,h2⟩;exact⟨ad,cd,h1,h2.later l⟩
      refine zAn (R:=KR (w.heap.size+1) 4 408 Φ) (Keep.pre _ _ _) (fun w=>KR.of hΦ (Later.drew w)) 11 rfl (by kernel_rfl) (fun W1 hW1=> ?_);have hg1:Wr (w.heap.size+1) 4 408 W1:=hW1.2.1 ⟨_,r4,rfl⟩;have hbut:∀v1,KR (w.heap.size+1) 4 408 Φ W1 v1→But (fun b=>b=w.heap.size+1) w4 v1:=fun v1 h=>hW1.1.trans h.1;have hbel:∀v1,KR (w.heap.size+1) 4 408 Φ W1 v1→Below w.heap.size w v1:=fun v1 h=>hw4.trans ((hbut v1 h).below (by omega) (fun k h e=>by omega));have hr:∀v1,KR (w.heap.size+1) 4 408 Φ W1 v1→Rd w.heap.size v1 (.slice (some ⟨b,off,none⟩) zs.length cd) zs:=fun v1 h=>hI.below (hbel v1 h);refine rX (Keep.pre _ _ _) 0 ?_;refine zAq (Keep.pre _ _ _) 1 (.int .u16 (wat zs 0)) rfl (by kernel_rfl) (by kernel_rfl) (by kernel_rfl) (fun _ _ _ h=>h) rfl (fun v1 hv1=>zAo 39 #[.slice (some ⟨b,off,none⟩) zs.length cd,.int .i64 0] (by go_simp) ?_) ?_
      ·exact (zA4 _ zs hB 0 (by omega) v1 (hr v1 hv1)).mono fun e w' ⟨he,q,hw⟩=>⟨he,KR.of hΦ (by rw[hw];exact zAk (Later.refl v1) q)⟩
      simp only[Act.put,sA,sB,sC];refine rX (Keep.pre _ _ _) 2 ?_;refine zAq (Keep.pre _ _ _) 3 (.int .u16 (wat zs 2)) rfl (by kernel_rfl) (by kernel_rfl) (by kernel_rfl) (fun _ _ _ h=>h) rfl (fun v1 hv1=>zAo 39 #[.slice (some ⟨b,off,none⟩) zs.length cd,.int .i64 2] (by go_simp) ?_) ?_
      ·exact (zA4 _ zs hB 2 (by omega) v1 (hr v1 hv1)).mono fun e w' ⟨he,q,hw⟩=>⟨he,KR.of hΦ (by rw[hw];exact zAk (Later.refl v1) q)⟩
      simp only[Act.put,sA,sB,sC];refine rX (Keep.pre _ _ _) 4 ?_;refine rX (Keep.pre _ _ _) 5 ?_;refine rX (Keep.pre _ _ _) 6 ?_;have hs8:∀v1,KR (w.heap.size+1) 4 408 Φ W1 v1→Rd w.heap.size v1 (.slice (if cd=8 then some (⟨b,off,none⟩:Addr)else some ⟨b,off+8,none⟩) (zs.length-8) (cd-8)) (zs.drop 8):=fun v1 h=>(hr v1 h).cutAt 8 (by omega);generalize (if cd=8 then some (⟨b,off,none⟩:Addr)else some ⟨b,off+8,none⟩)=ad8 at*;refine rO 7 (fun W2 hW2=> ?_);refine zAj 71 #[.slice ad8 (zs.length-8) (cd-8)] (by go_simp) ?_;refine(zAx _ (zs.drop 8) W2 (by simp;omega) ((hs8 W2 hW2).mono (hbel W2 hW2).size)).mono ?_;rw[List.length_drop];rintro e W5 ⟨a5,c5,rfl,hO5,hb5⟩;have hW15:=hW2.trans (KR.of hΦ hb5);have hs2:w.heap.size+1+1≤W2.heap.size:=Nat.le_trans hs4 (hbut W2 hW2).size;refine⟨KR.of hΦ hb5,?_⟩;simp only[Act.put,sA,sB,sC];refine rX (Keep.pre _ _ _) 8 ?_;refine rO 9 (fun W6 hW6=> ?_);have hW16:=hW15.trans hW6;have hg6:=hW16.2.1 hg1;have hg6':=hg6;obtain⟨cur,hcur,hsz⟩:=hg6';have k6:∀j,W6.cell? ⟨w.heap.size+1,j,none⟩=cur[j]? :=zAa hcur;have f6:∀j,W6.frozen? ⟨w.heap.size+1,j,none⟩=false:=zAc hcur;unfold Oper.wp;go_simp;generalize hV7:World.setCell _ ⟨w.heap.size+1,3,none⟩ _=V7;have hV8:V7=zAi W6 (w.heap.size+1) 0 [.int .u16 (wat zs 0),.int .u16 (wat zs 2),.bool false,.slice a5 (zs.length-8) c5]:=hV7.symm
      have hSt:=KR.store (Φ:=Φ) [.int .u16 (wat zs 0),.int .u16 (wat zs 2),.bool false,.slice a5 (zs.length-8) c5] hg6 rfl (by rw[HΦ.out];exact⟨a5,c5,rfl,((hO5.but hW6.1 (fun b h e=>by omega)).but (zA1 (rb:=w.heap.size+1) _ _) (fun b h e=>by omega)).mono hs2⟩);rw[←hV8]at hSt;clear hV7 hV8 k6 f6;refine⟨hSt.1,?_⟩;refine rX (Keep.pre _ _ _) 10 ?_;refine rD (fun W8 hW8=> ?_);obtain⟨arr,hh8,hP8⟩:=hW8.2.2 hSt.2;have hw8:=hbel W8 ((hW16.trans hSt.1).trans hW8);clear hSt hr hs8 hbut;rw[HΦ.out]at hP8;obtain⟨ad8',cd8,rfl,hO8⟩:=hP8;have r8:=zAa hh8;go_wp2_with fail;exact bodyPost_ret (v:= .tuple #[.agg #[.int .u16 (wat zs 0),.int .u16 (wat zs 2),.bool false,.slice ad8' (zs.length-8) cd8],.int .i64 0]) (by simp[results,Tryz.results275,go_sem,r8]) rfl ⟨hw8,.inr ⟨HF.out,ad8',cd8,by rw[G6.out,t4],hO8.mono (by omega)⟩⟩
     ·have t5:(Mt.cks (psd src dst 17 zs.length++zs)==0)=false:=by simp[c5]
      have HF:Hid (pue proto src dst zs=5):=by show _=_;unfold pue;rw[if_neg (by simp[C1.out]),if_neg C2.out,if_neg (by simp[C3.out]),if_pos ⟨by rw[G6.out];exact C4.out,c5⟩]
      clear c5;have R1:=zAa r4;have F1:=zAc r4;go_wp2_with fail;generalize hV:World.setCell _ ⟨w.heap.size+1,3,none⟩ _=V8;have hV9:V8=zAi w4 (w.heap.size+1) 0 zud:=hV.symm;have hb8:But (fun b=>b=w.heap.size+1) w4 V8:=by rw[hV9];exact zAf (E:=fun b=>b=w.heap.size+1) (n:=w.heap.size+1) rfl _ _ _ _ (But.refl _ _)
      have p8:=zAe zud r4 rfl;rw[←hV9]at p8;clear hV hV9;have P8:=zAa p8;have hw8:Below w.heap.size w V8:=(hw4).trans (hb8.below (hw4).size (fun k h e=>by omega));exact bodyPost_ret (v:= .tuple #[.agg zud.toArray,.int .i64 5]) (by simp[results,Tryz.results275,go_sem,P8]) rfl (⟨hw8,.inl ⟨by rw[HF.out];decide,by rw[HF.out]⟩⟩)
   ·have t3:(wat zs 4 !=(zs.length:Int))=true:=by simp[c3]
    have HF:Hid (pue proto src dst zs=4):=by show _=_;unfold pue;rw[if_neg (by simp[C1.out]),if_neg c2,if_pos c3]
    clear c2 c3;have R1:=zAa r2;have F1:=zAc r2;go_wp2_with fail;generalize hV:World.setCell _ ⟨w.heap.size+1,3,none⟩ _=V8;have hV9:V8=zAi w2 (w.heap.size+1) 0 zud:=hV.symm;have hb8:But (fun b=>b=w.heap.size+1) w2 V8:=by rw[hV9];exact zAf (E:=fun b=>b=w.heap.size+1) (n:=w.heap.size+1) rfl _ _ _ _ (But.refl _ _)
    have p8:=zAe zud r2 rfl;rw[←hV9]at p8;clear hV hV9;have P8:=zAa p8;have hw8:Below w.heap.size w V8:=(hw2).trans (hb8.below (hw2).size (fun k h e=>by omega));exact bodyPost_ret (v:= .tuple #[.agg zud.toArray,.int .i64 4]) (by simp[results,Tryz.results275,go_sem,P8]) rfl (⟨hw8,.inl ⟨by rw[HF.out];decide,by rw[HF.out]⟩⟩)
 ·have t1:(proto !=17)=true:=by simp[c1]
  have HF:Hid (pue proto src dst zs=12):=by show _=_;unfold pue;rw[if_pos c1]
  clear c1;have R1:=zAa r1;have F1:=zAc r1;go_wp2_with fail;generalize hV:World.setCell _ ⟨w.heap.size+1,3,none⟩ _=V8;have hV9:V8=zAi w1 (w.heap.size+1) 0 zud:=hV.symm;have hb8:But (fun b=>b=w.heap.size+1) w1 V8:=by rw[hV9];exact zAf (E:=fun b=>b=w.heap.size+1) (n:=w.heap.size+1) rfl _ _ _ _ (But.refl _ _)
  have p8:=zAe zud r1 rfl;rw[←hV9]at p8;clear hV hV9;have P8:=zAa p8;have hw8:Below w.heap.size w V8:=(hw1).trans (hb8.below (hw1).size (fun k h e=>by omega));exact bodyPost_ret (v:= .tuple #[.agg zud.toArray,.int .i64 12]) (by simp[results,Tryz.results275,go_sem,P8]) rfl (⟨hw8,.inl ⟨by rw[HF.out];decide,by rw[HF.out]⟩⟩)
end Go.Proofs.YteaeilghamjjkaaGreatDoor
