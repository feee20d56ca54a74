import Derived.Deep.DeepCutAuto
import Derived.Deep.CutBlock
import Derived.Test.YteaeilghamjjkaaGreatDoorX26
import Derived.MapKept
namespace Go.Proofs.YteaeilghamjjkaaGreatDoor
set_option maxHeartbeats 4000000
open Go.RowKit Go.Shelf
set_option maxRecDepth 100000
set_option linter.unusedVariables false
set_option linter.unusedSimpArgs false
def HSt (tl:List Value) (t:TypeId) (ub:Nat) (N:Nat→Prop) (ys:List Int) (W:World):Prop:=
 ∃v,W.heap[ub]? =some (.cells (v::tl).toArray t (0,0))∧W.ownsRow (ub+1) 5 1 v ys.length (ys.map (Value.int .u8))∧∀b,v.ownBlock=some b→¬N b
theorem HSt.lt {tl:List Value} {t:TypeId} {ub:Nat} {N:Nat→Prop} {ys:List Int} {W:World} (h:HSt tl t ub N ys W):ub<W.heap.size:=by
 obtain⟨v,h1,_⟩:=h;exact(eS h1)
theorem HSt.alloc {tl:List Value} {t:TypeId} {ub:Nat} {N:Nat→Prop} {ys:List Int} {W:World} (h:HSt tl t ub N ys W)(o:Obj):HSt tl t ub (fun b=>N b∨b=W.heap.size) ys (W.alloc o):=by
 obtain⟨v,h1,h2,h3⟩:=h;exact⟨v,(Below.heap_alloc W o ub (eS h1)).trans h1,h2.alloc o,fun b hb hN=>hN.elim (h3 b hb) (fun e=>by have:=(h2.lt b hb).2;omega)⟩
theorem HSt.weaken {tl:List Value} {t:TypeId} {ub:Nat} {N N':Nat→Prop} {ys:List Int} {W:World} (h:HSt tl t ub N ys W)(hN:∀b,N' b→N b):HSt tl t ub N' ys W:=by
 obtain⟨v,h1,h2,h3⟩:=h;exact⟨v,h1,h2,fun b hb hn=>h3 b hb (hN b hn)⟩
theorem run_app3 {P:Program} (w:World)(t ty e:TypeId)(base:Nat)(i:TypeInfo)(ht:P.underlying t=some (.slice e))(hi:P.info? e=some i)(hz:i.zero=some (.int .u8 0))(hsize:i.size=1)(hby:i.bytes=1)
  (v:Value)(ys:List Int)(hown:w.ownsRow base e 1 v ys.length (ys.map (Value.int .u8)))
  (n₀:Nat)(sx:Value)(zs:List Int)(hI:Rd n₀ w sx zs)(hbd:ys.length+zs.length≤140737488355328)(hbase:base≤w.heap.size):
  ∃v' w',(Builtin.append_ #[t,t] ty #[v,sx]).run P w= .ok v' w'∧w'.ownsRow base e 1 v' (ys++zs).length ((ys++zs).map (Value.int .u8))∧w.grownBy w' v.ownBlock∧∀b,v'.ownBlock=some b→v.ownBlock=some b∨w.heap.size≤b:=by
 obtain⟨v',w',hr,h2,h3⟩:=zF3 (P:=P) w t ty e base i ht hi hz hsize hby v ys hown n₀ sx zs hI hbd hbase;refine⟨v',w',hr,h2,h3,?_⟩;rcases hown.2 with⟨rfl,hnil⟩|⟨g,cap,cur,rfl,hg,hh,hl,hm,hs,hc⟩
 ·have hy:ys=[]:=by simpa using hnil
  subst hy;obtain⟨v2,w2,hr2,h22,_⟩:=zF3 (P:=P) w t ty e w.heap.size i ht hi hz hsize hby (.slice none 0 0) [] (World.ownsRow_nil _ _ _ _) n₀ sx zs hI hbd (Nat.le_refl _);obtain⟨rfl,rfl⟩:v'=v2∧w'=w2:=by rw[hr]at hr2;simpa using hr2
  intro b hb
  exact .inr (h22.lt b hb).1
 ·rcases hI with⟨ao,cp,rfl,rfl,hm2,hn⟩|⟨b,off,cp,rfl,hne,hl2,hm2,hb2,hc2⟩
  ·have hv:v'= .slice (some ⟨g,0,none⟩) ys.length cap:=by
    cases ao with
    |none=>
     obtain rfl:=hn rfl;have:=run_append_owned_none w base t ty e i 1 ht hi _ _ _ hown;rw[hr]at this
     simp at this
     exact this.1
    |some ad=>
     have:=run_append_room_cells (P:=P) w t ty e i ht hi g 0 ys.length cap ad 0 cp [] (by simp) (fun j u hj=>by simp at hj) (fun u hu=>by simp at hu) (by omega) (fun j hj=>by simp at hj) (fun j hj=>by simp at hj);rw[hr]at this
     simp at this
     exact this.1
   subst hv;intro b hb
   exact .inl hb
  ·have hnews:∀j u,(zs.map (Value.int .u8))[j]? =some u→w.cell? ((⟨b,off,none⟩:Addr).add j)=some u:=fun j u hj=>by
    have hj':j<zs.length:=by have:=(List.getElem?_eq_some_iff.1 hj).1;simpa using this
    rw[show (⟨b,off,none⟩:Addr).add j=⟨b,off+j,none⟩from by unfold Addr.add;split<;>simp_all,hc2 j hj',←hj];simp[hj']
   by_cases hroom:ys.length+zs.length≤cap
   ·have:=run_append_room_cells (P:=P) w t ty e i ht hi g 0 ys.length cap ⟨b,off,none⟩ zs.length cp (zs.map (Value.int .u8)) (by rw[hsize];simp) hnews (fun u hu=>by obtain⟨z,_,rfl⟩:=List.mem_map.1 hu;rfl) hroom
     (fun j hj=>by rw[zAa hh,hsize];simp at hj;simp;omega) (fun j hj=>by rw[zAc hh])
    rw[hr]at this
    simp at this
    obtain⟨rfl,_⟩:=this;intro b' hb'
    exact .inl hb'
   ·obtain ⟨v2,w2,hr2,h22,_⟩:=run_append_arg_grows (P:=P) w t ty e i (.int .u8 0) 1 1 ht hi hz hsize hby rfl (by decide) ⟨g,0,none⟩ ys.length cap (ys.map (Value.int .u8)) (by simp)
     (fun j u hj=>by
      have hj':j<ys.length:=by have:=(List.getElem?_eq_some_iff.1 hj).1;simpa using this
      rw[show (⟨g,0,none⟩:Addr).add j=⟨g,j,none⟩from by unfold Addr.add;split<;>simp_all,zAa hh];have h5:=congrArg (·[j]?) hc;simp only[Nat.mul_one]at h5;rw[List.getElem?_take_of_lt (by omega)]at h5;rw[←hj,←h5];simp)
     ⟨b,off,none⟩ zs.length cp (zs.map (Value.int .u8)) (by simp) hnews (by omega) (by unfold maxLen;omega) (by omega)
    obtain⟨rfl,rfl⟩:v'=v2∧w'=w2:=by rw[hr]at hr2;simpa using hr2
    intro b' hb'
    exact .inr (h22.lt b' hb').1
theorem zMh {P:Program} {ops:Array Oper} {rest:List Oper} {o:Oper} {a:Act} {Q:Exit→Act→World→Prop} (w:World)(hgd:o.guard=none)(s x:Operand)(t:TypeId)
  (ho:o.op= .call { callee:= .builtin .append,args:=#[s,x],argTypes:=#[t,t] })
  (base:Nat)(e:TypeId)(i:TypeInfo)(ht:P.underlying t=some (.slice e))(hi:P.info? e=some i)(hz:i.zero=some (.int .u8 0))(hsize:i.size=1)(hby:i.bytes=1)
  (v:Value)(ys:List Int)(hs:a.eval s=v)(hown:w.ownsRow base e 1 v ys.length (ys.map (Value.int .u8)))
  (n₀:Nat)(sx:Value)(zs:List Int)(hx:a.eval x=sx)(hI:Rd n₀ w sx zs)(hbd:ys.length+zs.length≤140737488355328)(hbase:base≤w.heap.size)
  (h:∀v' w',w'.ownsRow base e 1 v' (ys++zs).length ((ys++zs).map (Value.int .u8))→w.grownBy w' v.ownBlock→(∀b,v'.ownBlock=some b→v.ownBlock=some b∨w.heap.size≤b)→wpList P ops Q rest (a.put o.dst v') w'):wpList P ops Q (o::rest) a w:=by
 obtain⟨v',w',hr,h2,h3,h4⟩:=run_app3 (P:=P) w t o.type e base i ht hi hz hsize hby v ys hown n₀ sx zs hI hbd hbase;exact wpList_plain hgd fun K hK=>zC9 s x t ho v sx hs hx v' w' hr (hK _ _ (h v' w' h2 h3 h4))
theorem zDe(tl:List Value)(t:TypeId)(ub:Nat)(N:Nat→Prop)(ys:List Int)(sx:Value)(zs:List Int)(n₀:Nat)(w:World)(h:HSt tl t ub N ys w)(hN:∀b,N b→b<w.heap.size∧b≠ub)(hI:Rd n₀ w sx zs)(hl:ys.length+zs.length≤140737488355328):
  Calls Tryz.prog 60 #[.pointer (some ⟨ub,0,none⟩),sx] w fun e w'=>e= .returned (.tuple #[])∧HSt tl t ub N (ys++zs) w'∧But (fun b=>ub≤b∧¬N b) w w':=by
 obtain⟨i0,hi,hz0,hz1,hz2⟩:=info_parts zBt;obtain⟨v,hu,hown,hnb⟩:=h;have C0:=zAa hu 0
 simp at C0
 have hub:ub<w.heap.size:=(eS hu);obtain⟨ax,cx,rfl,_,_⟩:=hI.slice;obtain⟨av,cv,rfl,_,_⟩:=(Ow.of_row hown).slice;go_enter Tryz.func60,Tryz.ntmps60;go_wp2_with (at_builtin;refine zMh _ rfl (.tmp 8) (.tmp 9) 26 rfl (ub+1) 5 i0 Tryz.underlying26 hi hz0 hz1 hz2 _ ys rfl hown n₀ _ zs rfl hI hl hub ?_;intro v1 w1 hown1 hg1 hv1;have hu1:=(hg1.block ub hub (fun e=>by have:=(hown.lt ub e.symm).1;omega)).trans hu;have C1:=zAa hu1 0;have F1:=zAc hu1 0;simp at C1;obtain⟨a1,c1,rfl,_,_⟩:=(Ow.of_row hown1).slice)
 have hu2:(w1.setCell ⟨ub,0,none⟩ (.slice a1 (ys++zs).length c1)).heap[ub]? =some (.cells (.slice a1 (ys++zs).length c1::tl).toArray t (0,0)):=by
  have:=zAh hu1 0 (.slice a1 (ys++zs).length c1);simpa using this
 have hvN:∀b,(Value.slice a1 (ys++zs).length c1).ownBlock=some b→¬N b:=by
  intro b hb hn
  rcases hv1 b hb with h|h
  ·exact hnb b h hn
  ·have:=(hN b hn).1;omega
 have hb1:But (fun b=>ub≤b∧¬N b) w (w1.setCell ⟨ub,0,none⟩ (.slice a1 (ys++zs).length c1)):=by
  have h0:But (fun b=>ub≤b∧¬N b) w w1:=⟨hg1.os,hg1.tape,hg1.output,hg1.size,fun k hk hE=>hg1.block k hk (fun e=>hE ⟨by have:=(hown.lt k e.symm).1;omega,hnb k e.symm⟩)⟩;exact h0.setCell (p:=⟨ub,0,none⟩) ⟨Nat.le_refl _,fun hn=>(hN ub hn).2 rfl⟩ _
 have hown2:(w1.setCell ⟨ub,0,none⟩ (.slice a1 (ys++zs).length c1)).ownsRow (ub+1) 5 1 (.slice a1 (ys++zs).length c1) (ys++zs).length ((ys++zs).map (Value.int .u8)):=by
  obtain⟨q1,q2⟩:=hown1;refine⟨q1,q2.imp id ?_⟩;rintro⟨g,cap,cur,e,hg,hh,r⟩;exact⟨g,cap,cur,e,hg,(Below.heap_setCell w1 ⟨ub,0,none⟩ _ g (by simp;omega)).trans hh,r⟩
 go_end0
 rw[←List.length_append];exact⟨rfl,⟨_,hu2,hown2,hvN⟩,hb1⟩
def b2 (n:Int):List Int:=[n/256,n % 256]
def b4 (n:Int):List Int:=[n/65536/256,n/65536 % 256,n % 65536/256,n % 65536 % 256]
theorem zKi {α:Type} (f:Int→List α)(ns:List Int)(k:Nat)(h:k<ns.length):(ns.take (k+1)).flatMap f=(ns.take k).flatMap f++f (ns[k]?.getD 0):=by
 rw[List.take_succ_eq_append_getElem h,List.flatMap_append];simp[h]
theorem b2_len(ns:List Int):(ns.flatMap b2).length=2*ns.length:=by
 induction ns with
 |nil=>rfl
 |cons a r ih=>simp[List.flatMap_cons,b2]at ih⊢;omega
theorem b4_len(ns:List Int):(ns.flatMap b4).length=4*ns.length:=by
 induction ns with
 |nil=>rfl
 |cons a r ih=>simp[List.flatMap_cons,b4]at ih⊢;omega
theorem zE6(tl:List Value)(t tn:TypeId)(ub nb cap:Nat)(N:Nat→Prop)(ys ns:List Int)(w:World)(h:HSt tl t ub N ys w)(hN:∀b,N b→b<w.heap.size∧b≠ub)(hn:N nb)
  (hnb:w.heap[nb]? =some (.cells (ns.map (Value.int .u16)).toArray tn (0,0)))(hbd:∀n∈ns,0≤n∧n≤65535)(hl:ys.length+2*ns.length≤140737488355328)(hcap:ns.length≤cap):
  Calls Tryz.prog 58 #[.pointer (some ⟨ub,0,none⟩),.slice (some ⟨nb,0,none⟩) ns.length cap] w fun e w'=>e= .returned (.tuple #[])∧HSt tl t ub N (ys++ns.flatMap b2) w'∧But (fun b=>ub≤b∧¬N b) w w':=by
 have hnl:=(eS hnb);go_enter Tryz.func58,Tryz.ntmps58;go_wp2
 go_loopw [8] (fun i wr=>∃k:Nat,k≤ns.length∧i= .int .i64 (k:Int)∧HSt tl t ub N (ys++(ns.take k).flatMap b2) wr∧But (fun b=>ub≤b∧¬N b) w wr)
  (fun i _=>ns.length-(intOf i).toNat)
 case atStart=>exact⟨0,by omega,rfl,by simpa using h,But.refl _ _⟩
 case round=>
  obtain⟨k,hk,rfl,hH,hB⟩:=hrel;by_cases hlt:k<ns.length
  ·have hc:wr.cell? ⟨nb,k,none⟩=some (.int .u16 (ns[k]?.getD 0)):=by
    rw[zAa ((hB.block nb hnl (fun e=>e.2 hn)).trans hnb)];simp[hlt]
   have hz:0≤ns[k]?.getD 0∧ns[k]?.getD 0≤65535:=by
    have:=hbd ns[k] (List.getElem_mem hlt);simpa[hlt]using this
   have HF:=zAd (zKi b2 ns k hlt);have hlen:((ys++(ns.take k).flatMap b2)).length+2≤140737488355328:=by rw[List.length_append,b2_len,List.length_take];omega
   generalize ns[k]?.getD 0=z at*;have hlt':(k:Int)<ns.length:=by omega
   have hA:Later wr (wr.alloc (.cells #[.int .u8 (z/256),.int .u8 (z % 256)] 5)):=bA _ _;have hHA:=(hH.alloc (.cells #[.int .u8 (z/256),.int .u8 (z % 256)] 5)).weaken (N':=N) (fun b hb=> .inl hb);have hR:=Rd.new2 (z/256) (z % 256) 5 wr;go_wp2_with fail;generalize wr.alloc (.cells #[.int .u8 (z/256),.int .u8 (z % 256)] 5)=w1 at*;refine(zDe tl t ub N _ _ [z/256,z % 256] _ w1 hHA (fun b hb=>⟨Nat.lt_of_lt_of_le (hN b hb).1 (Nat.le_trans hB.size hA.size),(hN b hb).2⟩) hR hlen).mono ?_;rintro e w2 ⟨rfl,hH2,hB2⟩;go_wp2_with fail;go_roundw
   case rel=>exact⟨k+1,by omega,by go_num,by rw[HF.out,←List.append_assoc];exact hH2,(hB.trans (But.of hA)).trans hB2⟩
   case measure=>simp[intOf];omega
  ·obtain rfl:k=ns.length:=by omega
   rw[List.take_length]at hH;go_wp2
   go_end0
   exact⟨rfl,hH,hB⟩
theorem zQ0(tl:List Value)(t tn:TypeId)(ub nb cap:Nat)(N:Nat→Prop)(ys ns:List Int)(w:World)(h:HSt tl t ub N ys w)(hN:∀b,N b→b<w.heap.size∧b≠ub)(hn:N nb)
  (hnb:w.heap[nb]? =some (.cells (ns.map (Value.int .u32)).toArray tn (0,0)))(hbd:∀n∈ns,0≤n∧n≤4294967295)(hl:ys.length+4*ns.length≤140737488355328)(hcap:ns.length≤cap):
  Calls Tryz.prog 59 #[.pointer (some ⟨ub,0,none⟩),.slice (some ⟨nb,0,none⟩) ns.length cap] w fun e w'=>e= .returned (.tuple #[])∧HSt tl t ub N (ys++ns.flatMap b4) w'∧But (fun b=>ub≤b∧¬N b) w w':=by
 have hnl:=(eS hnb);go_enter Tryz.func59,Tryz.ntmps59;go_wp2
 go_loopw [8] (fun i wr=>∃k:Nat,k≤ns.length∧i= .int .i64 (k:Int)∧HSt tl t ub N (ys++(ns.take k).flatMap b4) wr∧But (fun b=>ub≤b∧¬N b) w wr)
  (fun i _=>ns.length-(intOf i).toNat)
 case atStart=>exact⟨0,by omega,rfl,by simpa using h,But.refl _ _⟩
 case round=>
  obtain⟨k,hk,rfl,hH,hB⟩:=hrel;by_cases hlt:k<ns.length
  ·have hc:wr.cell? ⟨nb,k,none⟩=some (.int .u32 (ns[k]?.getD 0)):=by
    rw[zAa ((hB.block nb hnl (fun e=>e.2 hn)).trans hnb)];simp[hlt]
   have hz:0≤ns[k]?.getD 0∧ns[k]?.getD 0≤4294967295:=by
    have:=hbd ns[k] (List.getElem_mem hlt);simpa[hlt]using this
   have HF:=zAd (zKi b4 ns k hlt);have hlen:((ys++(ns.take k).flatMap b4)).length+2* [ns[k]?.getD 0/65536,ns[k]?.getD 0 % 65536].length≤140737488355328:=by rw[List.length_append,b4_len,List.length_take];simp;omega
   generalize ns[k]?.getD 0=z at*;have hlt':(k:Int)<ns.length:=by omega
   have hA:Later wr (wr.alloc (.cells #[.int .u16 (z/65536),.int .u16 (z % 65536)] 22)):=bA _ _;have hHA:=hH.alloc (.cells #[.int .u16 (z/65536),.int .u16 (z % 65536)] 22);have hkA:=heap_alloc_new wr (.cells #[.int .u16 (z/65536),.int .u16 (z % 65536)] 22);have hub:=hH.lt;go_wp2_with fail;rw[IntKind.wrap_u16];have hsz:(wr.alloc (.cells #[.int .u16 (z/65536),.int .u16 (z % 65536)] 22)).heap.size=wr.heap.size+1:=by simp
   have HSZ:=zAd hsz;clear hsz;generalize wr.alloc (.cells #[.int .u16 (z/65536),.int .u16 (z % 65536)] 22)=w1 at*;refine(zE6 tl t 22 ub wr.heap.size 2 (fun b=>N b∨b=wr.heap.size) _ [z/65536,z % 65536] w1 hHA (fun b hb=>hb.elim (fun hb=>⟨Nat.lt_of_lt_of_le (hN b hb).1 (Nat.le_trans hB.size hA.size),(hN b hb).2⟩) (fun e=>by subst e;exact⟨by have:=HSZ.out;omega,by omega⟩)) (.inr rfl) hkA (fun n hn=>by simp at hn;rcases hn with rfl|rfl<;>omega) hlen (by simp)).mono ?_;rintro e w2 ⟨rfl,hH2,hB2⟩;go_wp2_with fail;go_roundw
   case rel=>exact⟨k+1,by omega,by go_num,by rw[HF.out,←List.append_assoc];exact hH2.weaken (fun b hb=> .inl hb),(hB.trans (But.of hA)).trans ⟨hB2.os,hB2.tape,hB2.output,hB2.size,fun b hb hE=>hB2.block b hb (fun h=>hE ⟨h.1,fun hn=>h.2 (.inl hn)⟩)⟩⟩
   case measure=>simp[intOf];omega
  ·obtain rfl:k=ns.length:=by omega
   rw[List.take_length]at hH;go_wp2
   go_end0
   exact⟨rfl,hH,hB⟩
theorem eql_nil(w:World):(binOp .eql 26 (.slice none 0 0) (.slice none 0 0)).run Tryz.prog w= .ok (.bool true) w:=by kernel_rfl
theorem eql_some(w:World)(ad:Addr)(n c:Nat):(binOp .eql 26 (.slice (some ad) n c) (.slice none 0 0)).run Tryz.prog w= .ok (.bool false) w:=by kernel_rfl
theorem zAx(sv:Value)(zs:List Int)(w:World)(hl:zs.length≤140737488355328)(hI:Rd w.heap.size w sv zs):
  Calls Tryz.prog 71 #[sv] w fun e w'=>∃a cap,e= .returned (.slice a zs.length cap)∧Ow w.heap.size w' (.slice a zs.length cap) zs∧Below w.heap.size w w':=by
 obtain⟨i0,hi,hz0,hz1,hz2⟩:=info_parts zBt;have hb0:Below w.heap.size w (w.alloc (.cells #[] 5)):=(Below.refl _ w).alloc (Nat.le_refl _) _;have hR1:=hI.below hb0;obtain⟨a,cap,rfl,hl1,hm1⟩:=hI.slice;cases a with
 | none=>
  obtain⟨rfl,rfl⟩:zs=[]∧cap=0:=by
   rcases hI with⟨a,cap',e,hz,_,hn⟩|⟨_,_,_,e,_⟩
   ·have e1:=e
    simp at e1
    obtain⟨rfl,_,rfl⟩:=e1;exact⟨hz,hn rfl⟩
   ·simp at e
  have hq:=eql_nil w;go_enter Tryz.func71,Tryz.ntmps71;go_wp2
  go_ret
  exact⟨none,0,rfl,.inl ⟨rfl,rfl⟩,Below.refl _ _⟩
 |some ad=>
  have hq:=eql_some w ad zs.length cap;go_enter Tryz.func71,Tryz.ntmps71;go_wp2_with (at_builtin;refine zE1 _ rfl (.tmp 5) (.tmp 6) 26 rfl w.heap.size 5 i0 Tryz.underlying26 hi hz0 hz1 hz2 _ [] rfl (zJ9 w _) w.heap.size _ zs rfl hR1 (by simp;omega) (by simp) ?_;intro v0 w0 hown0 hg0;have hbw0:=zEh hb0 (zJ9 w _) hg0 (Nat.le_refl _) hb0.size;clear hg0;have hO0:=Ow.of_row hown0;clear hown0;simp only[List.nil_append]at hO0;obtain⟨a0,cap0,rfl,hp0,hm0⟩:=hO0.slice)
  go_ret
  exact⟨a0,cap0,rfl,hO0,hbw0⟩
theorem zKj {W:World} {n:Nat} {t:TypeId} (v0 v1 v2 v3 v4 v5 v6 v7 v8 x4 x7 x8:Value)(h:W.heap[n]? =some (.cells #[v0,v1,v2,v3,v4,v5,v6,v7,v8] t (0,0))):
  (((W.setCell ⟨n,4,none⟩ x4).setCell ⟨n,7,none⟩ x7).setCell ⟨n,8,none⟩ x8).heap[n]? =some (.cells #[v0,v1,v2,v3,x4,v5,v6,x7,x8] t (0,0)):=zAh (zAh (zAh h 4 x4) 7 x7) 8 x8
abbrev zcc:List Value:=[.int .u8 0,.int .u16 0,.bool false,.int .u8 0,.int .u8 0,.int .u32 0,.int .u32 0,.slice none 0 0,.slice none 0 0]
theorem zMi(tos id ttl proto src dst np:Int)(keep:Bool)(so sd sd':Value)(zo zd:List Int)(w:World)(ub:Nat)(tu:TypeId)(hu:w.heap[ub]? =some (.cells #[sd',.int .u8 np] tu (0,0)))(hBo:Mt.By zo)(hIo:Rd w.heap.size w so zo)(hId:Rd w.heap.size w sd' zd)
  (hlo:zo.length≤40)(hlm:zo.length % 4=0)(hall:20+zo.length+zd.length≤65535)(ht:0≤tos∧tos≤255)(hid:0≤id∧id≤65535)(htt:0≤ttl∧ttl≤255)(hpr:0≤np∧np≤255)(hsr:0≤src∧src≤4294967295)(hds:0≤dst∧dst≤4294967295):
  Calls Tryz.prog 61 #[.pointer (some ⟨ub,0,none⟩),.agg #[.int .u8 tos,.int .u16 id,.bool keep,.int .u8 ttl,.int .u8 proto,.int .u32 src,.int .u32 dst,so,sd]] w fun e w'=>∃ao co,e= .returned (.tuple #[.agg #[.int .u8 tos,.int .u16 id,.bool keep,.int .u8 ttl,.int .u8 np,.int .u32 src,.int .u32 dst,.slice ao zo.length co,sd'],.int .i64 0])∧Ow w.heap.size w' (.slice ao zo.length co) zo∧Below w.heap.size w w':=by
 obtain⟨ao,co,rfl,hl1,hm1⟩:=hIo.slice;obtain⟨ad,cd,rfl,hl2,hm2⟩:=hId.slice;have hb0:Below w.heap.size w ((w.alloc (.cells #[.int .u8 tos,.int .u16 id,.bool keep,.int .u8 ttl,.int .u8 proto,.int .u32 src,.int .u32 dst,.slice ao zo.length co,sd] 40)).alloc (.cells zcc.toArray 40)):=(bA _ _).alloc (by simp) _;have p0:((w.alloc (.cells #[.int .u8 tos,.int .u16 id,.bool keep,.int .u8 ttl,.int .u8 proto,.int .u32 src,.int .u32 dst,.slice ao zo.length co,sd] 40)).alloc (.cells zcc.toArray 40)).heap[w.heap.size]? =some (.cells #[.int .u8 tos,.int .u16 id,.bool keep,.int .u8 ttl,.int .u8 proto,.int .u32 src,.int .u32 dst,.slice ao zo.length co,sd] 40):=(Below.heap_alloc _ _ _ (by simp)).trans (heap_alloc_new w _);have q0:((w.alloc (.cells #[.int .u8 tos,.int .u16 id,.bool keep,.int .u8 ttl,.int .u8 proto,.int .u32 src,.int .u32 dst,.slice ao zo.length co,sd] 40)).alloc (.cells zcc.toArray 40)).heap[w.heap.size+1]? =some (.cells zcc.toArray 40 (0,0)):=by have:=heap_alloc_new (w.alloc (.cells #[.int .u8 tos,.int .u16 id,.bool keep,.int .u8 ttl,.int .u8 proto,.int .u32 src,.int .u32 dst,.slice ao zo.length co,sd] 40)) (.cells zcc.toArray 40);simpa using this
 have P0:=zAd p0;have Q0:=zAd q0;clear p0 q0;have hub:ub<w.heap.size:=(eS hu);have hu0:=(hb0.block ub hub).trans hu;go_enter Tryz.func61,Tryz.ntmps61;go_upto_region 1 with fail;generalize (w.alloc (.cells #[.int .u8 tos,.int .u16 id,.bool keep,.int .u8 ttl,.int .u8 proto,.int .u32 src,.int .u32 dst,.slice ao zo.length co,sd] 40)).alloc (.cells zcc.toArray 40)=W0 at*;refine zAl (R:=But (fun b=>b=w.heap.size)) 18 rfl (by kernel_rfl) ?_;have hd:Later W0 W0.drew:=Later.drew W0;have qu:∀v1,But (fun b=>b=w.heap.size) W0.drew v1→∀i,v1.cell? ⟨ub,i,none⟩=#[Value.slice ad zd.length cd,.int .u8 np][i]? :=fun v1 h=>zAa ((((But.of hd).trans h).block ub (eS hu0) (by omega)).trans hu0);have P1:=(hd.block w.heap.size (eS P0.out)).trans P0.out;have Q1:=(hd.block (w.heap.size+1) (eS Q0.out)).trans Q0.out;have hbd:=hb0.trans (hd.mono hb0.size);clear P0 Q0 hu0;generalize W0.drew=W1 at*;refine tX (But.pre _) 0 ?_;refine tX (But.pre _) 1 ?_;refine tX (But.pre _) 2 ?_;refine tX (But.pre _) 3 ?_;refine tX (But.pre _) 7 ?_;refine tX (But.pre _) 8 ?_;refine tX (But.pre _) 9 ?_;refine tX (But.pre _) 10 ?_;refine tX (But.pre _) 11 ?_;refine tX (But.pre _) 4 ?_;have K0:=zAa P1;have hsW:w.heap.size+2≤W1.heap.size:=by have:=(eS Q1);omega
 refine tO 5 ?_;unfold Oper.wp;go_simp;refine⟨But.refl _ _,?_⟩;clear K0;refine tX (But.pre _) 12 ?_;refine tO 6 ?_;refine zAj 71 #[.slice ao zo.length co] (by go_simp) ?_;refine(zAx _ zo _ (by omega) ((hIo.below hbd).mono hbd.size)).mono ?_;rintro e w1 ⟨a1,c1,rfl,hO1,hb1⟩;refine⟨But.of hb1,?_⟩;simp only[Act.put,sA,sB,sC];have p1:=(hb1.block w.heap.size (by omega)).trans P1;have q1:=(hb1.block (w.heap.size+1) (by omega)).trans Q1;have hw1:=hbd.trans (hb1.mono hbd.size);have K1:=zAa p1;have F1:=zAc p1;clear qu;refine tO 13 ?_;unfold Oper.wp;go_simp;refine⟨(But.refl (fun b=>b=w.heap.size) w1).setCell (p:=⟨w.heap.size,4,none⟩) rfl _,?_⟩;have p1b:=zAh p1 4 (.int .u8 np);have K1b:=zAa p1b;have F1b:=zAc p1b;clear K1 F1;refine tX (But.pre _) 14 ?_;refine tO 15 ?_;unfold Oper.wp;go_simp;refine⟨(But.refl (fun b=>b=w.heap.size) _).setCell (p:=⟨w.heap.size,7,none⟩) rfl _,?_⟩;have p1c:=zAh p1b 7 (.slice a1 zo.length c1);have K1c:=zAa p1c;have F1c:=zAc p1c;clear K1b F1b;refine tX (But.pre _) 16 ?_;refine tO 17 ?_;unfold Oper.wp;go_simp;refine⟨(But.refl (fun b=>b=w.heap.size) _).setCell (p:=⟨w.heap.size,8,none⟩) rfl _,?_⟩;clear K1c F1c;refine tD ?_;have K1:=zAa p1;have F1:=zAc p1;have p2:=zKj _ _ _ _ _ _ _ _ _ (.int .u8 np) (.slice a1 zo.length c1) (.slice ad zd.length cd) p1;go_wp2_with fail
 have hE:But (fun b=>b=w.heap.size) w1 (((w1.setCell ⟨w.heap.size,4,none⟩ (.int .u8 np)).setCell ⟨w.heap.size,7,none⟩ (.slice a1 zo.length c1)).setCell ⟨w.heap.size,8,none⟩ (.slice ad zd.length cd)):=(((But.refl (fun b=>b=w.heap.size) w1).setCell (p:=⟨w.heap.size,4,none⟩) rfl _).setCell (p:=⟨w.heap.size,7,none⟩) rfl _).setCell (p:=⟨w.heap.size,8,none⟩) rfl _;have hs1:w.heap.size+2≤w1.heap.size:=by have:=hb1.size;omega
 generalize ((w1.setCell ⟨w.heap.size,4,none⟩ (.int .u8 np)).setCell ⟨w.heap.size,7,none⟩ (.slice a1 zo.length c1)).setCell ⟨w.heap.size,8,none⟩ (.slice ad zd.length cd)=V at*;have hOV:=hO1.but hE (fun b h e=>by omega);have hwV:Below w.heap.size w V:=hw1.trans (hE.below (by omega) (fun k h e=>by omega));have qV:=(hE.block (w.heap.size+1) (by omega) (by omega)).trans q1;refine(zEj tos id ttl np src dst keep _ _ zo zd _ hBo hOV.rd ((hId.below hwV).mono hwV.size) hlo hlm hall ht hid htt hpr hsr hds).mono ?_;rintro e w2 ⟨v2,rfl,hO2,hb2⟩;have p3:=(hb2.block w.heap.size (by have:=hE.size;omega)).trans p2;have q3:=(hb2.block (w.heap.size+1) (by have:=hE.size;omega)).trans qV;have K3:=zAa p3;have Q3:=zAa q3;have G3:=zAc q3;clear K1 F1;go_wp2_with fail;generalize hV:World.setCell _ ⟨w.heap.size+1,8,none⟩ _=V8;have hV9:V8=zAi w2 (w.heap.size+1) 0 [.int .u8 tos,.int .u16 id,.bool keep,.int .u8 ttl,.int .u8 np,.int .u32 src,.int .u32 dst,.slice a1 zo.length c1,.slice ad zd.length cd]:=hV.symm;have hb8:But (fun b=>b=w.heap.size+1) w2 V8:=by rw[hV9];exact zAf (E:=fun b=>b=w.heap.size+1) (n:=w.heap.size+1) rfl _ _ _ _ (But.refl _ _)
 have p8:=zAe [.int .u8 tos,.int .u16 id,.bool keep,.int .u8 ttl,.int .u8 np,.int .u32 src,.int .u32 dst,.slice a1 zo.length c1,.slice ad zd.length cd] q3 rfl;rw[←hV9]at p8;clear hV hV9 Q3 G3 K3;have P8:=zAa p8;have hw2:=hwV.trans (hb2.mono hwV.size);have hw8:Below w.heap.size w V8:=hw2.trans (hb8.below hw2.size (fun k h e=>by omega));refine bodyPost_ret (v:= .tuple #[.agg #[.int .u8 tos,.int .u16 id,.bool keep,.int .u8 ttl,.int .u8 np,.int .u32 src,.int .u32 dst,.slice a1 zo.length c1,.slice ad zd.length cd],.int .i64 0]) (by simp[results,Tryz.results61,go_sem,P8]) rfl ⟨a1,c1,rfl,?_,hw8⟩;exact((hOV.below hb2 (Nat.le_refl _)).but hb8 (fun b h e=>by omega)).mono (by omega)
theorem zQ1(tos id ttl proto src dst np:Int)(keep:Bool)(so sd:Value)(zo:List Int)(ad:Option Addr)(ld cd:Nat)(w:World)(ub:Nat)(tu:TypeId)(hu:w.heap[ub]? =some (.cells #[.slice ad ld cd,.int .u8 np] tu (0,0)))(hIo:Rd w.heap.size w so zo)(h1:zo.length≤140737488355328)(h2:ld≤140737488355328)(hf:flt zo.length ld≠0):
  Calls Tryz.prog 61 #[.pointer (some ⟨ub,0,none⟩),.agg #[.int .u8 tos,.int .u16 id,.bool keep,.int .u8 ttl,.int .u8 proto,.int .u32 src,.int .u32 dst,so,sd]] w fun e w'=>e= .returned (.tuple #[.agg zcc.toArray,.int .i64 (flt zo.length ld)])∧Below w.heap.size w w':=by
 obtain⟨ao,co,rfl,hl1,hm1⟩:=hIo.slice;have hb0:Below w.heap.size w ((w.alloc (.cells #[.int .u8 tos,.int .u16 id,.bool keep,.int .u8 ttl,.int .u8 proto,.int .u32 src,.int .u32 dst,.slice ao zo.length co,sd] 40)).alloc (.cells zcc.toArray 40)):=(bA _ _).alloc (by simp) _;have p0:((w.alloc (.cells #[.int .u8 tos,.int .u16 id,.bool keep,.int .u8 ttl,.int .u8 proto,.int .u32 src,.int .u32 dst,.slice ao zo.length co,sd] 40)).alloc (.cells zcc.toArray 40)).heap[w.heap.size]? =some (.cells #[.int .u8 tos,.int .u16 id,.bool keep,.int .u8 ttl,.int .u8 proto,.int .u32 src,.int .u32 dst,.slice ao zo.length co,sd] 40):=(Below.heap_alloc _ _ _ (by simp)).trans (heap_alloc_new w _);have q0:((w.alloc (.cells #[.int .u8 tos,.int .u16 id,.bool keep,.int .u8 ttl,.int .u8 proto,.int .u32 src,.int .u32 dst,.slice ao zo.length co,sd] 40)).alloc (.cells zcc.toArray 40)).heap[w.heap.size+1]? =some (.cells zcc.toArray 40 (0,0)):=by have:=heap_alloc_new (w.alloc (.cells #[.int .u8 tos,.int .u16 id,.bool keep,.int .u8 ttl,.int .u8 proto,.int .u32 src,.int .u32 dst,.slice ao zo.length co,sd] 40)) (.cells zcc.toArray 40);simpa using this
 have P0:=zAd p0;have Q0:=zAd q0;clear p0 q0;have hf':(flt zo.length ld !=0)=true:=by simp[hf]
 have HF:=zAd hf;clear hf;have hub:ub<w.heap.size:=(eS hu);have hu0:=(hb0.block ub hub).trans hu;go_enter Tryz.func61,Tryz.ntmps61;go_upto_region 1 with fail;generalize (w.alloc (.cells #[.int .u8 tos,.int .u16 id,.bool keep,.int .u8 ttl,.int .u8 proto,.int .u32 src,.int .u32 dst,.slice ao zo.length co,sd] 40)).alloc (.cells zcc.toArray 40)=W0 at*;refine zAl (R:=But (fun b=>b=w.heap.size)) 18 rfl (by kernel_rfl) ?_;have hd:Later W0 W0.drew:=Later.drew W0;have qu:∀v1,But (fun b=>b=w.heap.size) W0.drew v1→∀i,v1.cell? ⟨ub,i,none⟩=#[Value.slice ad ld cd,.int .u8 np][i]? :=fun v1 h=>zAa ((((But.of hd).trans h).block ub (eS hu0) (by omega)).trans hu0);have P1:=(hd.block w.heap.size (eS P0.out)).trans P0.out;have Q1:=(hd.block (w.heap.size+1) (eS Q0.out)).trans Q0.out;have hbd:=hb0.trans (hd.mono hb0.size);clear P0 Q0 hu0;generalize W0.drew=W1 at*;refine tX (But.pre _) 0 ?_;refine tX (But.pre _) 1 ?_;refine tX (But.pre _) 2 ?_;refine tX (But.pre _) 3 ?_;refine tX (But.pre _) 7 ?_;refine tX (But.pre _) 8 ?_;refine tX (But.pre _) 9 ?_;refine tX (But.pre _) 10 ?_;refine tX (But.pre _) 11 ?_;refine tX (But.pre _) 4 ?_;have K0:=zAa P1;have hsW:w.heap.size+2≤W1.heap.size:=by have:=(eS Q1);omega
 refine tO 5 ?_;unfold Oper.wp;go_simp;refine⟨But.refl _ _,?_⟩;clear K0;refine tX (But.pre _) 12 ?_;refine tO 6 ?_;refine zAj 71 #[.slice ao zo.length co] (by go_simp) ?_;refine(zAx _ zo _ (by omega) ((hIo.below hbd).mono hbd.size)).mono ?_;rintro e w1 ⟨a1,c1,rfl,hO1,hb1⟩;refine⟨But.of hb1,?_⟩;simp only[Act.put,sA,sB,sC];have p1:=(hb1.block w.heap.size (by omega)).trans P1;have q1:=(hb1.block (w.heap.size+1) (by omega)).trans Q1;have hw1:=hbd.trans (hb1.mono hbd.size);have K1:=zAa p1;have F1:=zAc p1;clear qu;refine tO 13 ?_;unfold Oper.wp;go_simp;refine⟨(But.refl (fun b=>b=w.heap.size) w1).setCell (p:=⟨w.heap.size,4,none⟩) rfl _,?_⟩;have p1b:=zAh p1 4 (.int .u8 np);have K1b:=zAa p1b;have F1b:=zAc p1b;clear K1 F1;refine tX (But.pre _) 14 ?_;refine tO 15 ?_;unfold Oper.wp;go_simp;refine⟨(But.refl (fun b=>b=w.heap.size) _).setCell (p:=⟨w.heap.size,7,none⟩) rfl _,?_⟩;have p1c:=zAh p1b 7 (.slice a1 zo.length c1);have K1c:=zAa p1c;have F1c:=zAc p1c;clear K1b F1b;refine tX (But.pre _) 16 ?_;refine tO 17 ?_;unfold Oper.wp;go_simp;refine⟨(But.refl (fun b=>b=w.heap.size) _).setCell (p:=⟨w.heap.size,8,none⟩) rfl _,?_⟩;clear K1c F1c;refine tD ?_;have K1:=zAa p1;have F1:=zAc p1;have p2:=zKj _ _ _ _ _ _ _ _ _ (.int .u8 np) (.slice a1 zo.length c1) (.slice ad ld cd) p1;go_wp2_with fail
 have hE:But (fun b=>b=w.heap.size) w1 (((w1.setCell ⟨w.heap.size,4,none⟩ (.int .u8 np)).setCell ⟨w.heap.size,7,none⟩ (.slice a1 zo.length c1)).setCell ⟨w.heap.size,8,none⟩ (.slice ad ld cd)):=(((But.refl (fun b=>b=w.heap.size) w1).setCell (p:=⟨w.heap.size,4,none⟩) rfl _).setCell (p:=⟨w.heap.size,7,none⟩) rfl _).setCell (p:=⟨w.heap.size,8,none⟩) rfl _;have hs1:w.heap.size+2≤w1.heap.size:=by have:=hb1.size;omega
 generalize ((w1.setCell ⟨w.heap.size,4,none⟩ (.int .u8 np)).setCell ⟨w.heap.size,7,none⟩ (.slice a1 zo.length c1)).setCell ⟨w.heap.size,8,none⟩ (.slice ad ld cd)=V at*;have hwV:Below w.heap.size w V:=hw1.trans (hE.below (by omega) (fun k h e=>by omega));have qV:=(hE.block (w.heap.size+1) (by omega) (by omega)).trans q1;refine(zOs tos id ttl np src dst keep a1 ad zo.length c1 ld cd _ h1 h2 HF.out).mono ?_;rintro e w2 ⟨rfl,hb2⟩;have q3:=(hb2.block (w.heap.size+1) (by have:=hE.size;omega)).trans qV;have Q3:=zAa q3;have G3:=zAc q3;clear K1 F1;go_wp2_with fail;generalize hV:World.setCell _ ⟨w.heap.size+1,8,none⟩ _=V8;have hV9:V8=zAi w2 (w.heap.size+1) 0 zcc:=hV.symm;have hb8:But (fun b=>b=w.heap.size+1) w2 V8:=by rw[hV9];exact zAf (E:=fun b=>b=w.heap.size+1) (n:=w.heap.size+1) rfl _ _ _ _ (But.refl _ _)
 have p8:=zAe zcc q3 rfl;rw[←hV9]at p8;clear hV hV9 Q3 G3;have P8:=zAa p8;have hw2:=hwV.trans (hb2.mono hwV.size);have hw8:Below w.heap.size w V8:=hw2.trans (hb8.below hw2.size (fun k h e=>by omega));exact bodyPost_ret (v:= .tuple #[.agg zcc.toArray,.int .i64 (flt zo.length ld)]) (by simp[results,Tryz.results61,go_sem,P8]) rfl ⟨rfl,hw8⟩
theorem zMj(tos id ttl proto src dst np:Int)(keep:Bool)(so sd sd':Value)(zo zd:List Int)(w:World)(ub:Nat)(tu:TypeId)(hu:w.heap[ub]? =some (.cells #[sd',.int .u8 np] tu (0,0)))(hBo:Mt.By zo)(hIo:Rd w.heap.size w so zo)(hId:Rd w.heap.size w sd' zd)
  (h1:zo.length≤140737488355328)(h2:zd.length≤140737488355328)(ht:0≤tos∧tos≤255)(hid:0≤id∧id≤65535)(htt:0≤ttl∧ttl≤255)(hpr:0≤np∧np≤255)(hsr:0≤src∧src≤4294967295)(hds:0≤dst∧dst≤4294967295):
  Calls Tryz.prog 61 #[.pointer (some ⟨ub,0,none⟩),.agg #[.int .u8 tos,.int .u16 id,.bool keep,.int .u8 ttl,.int .u8 proto,.int .u32 src,.int .u32 dst,so,sd]] w fun e w'=>Below w.heap.size w w'∧((flt zo.length zd.length≠0∧e= .returned (.tuple #[.agg zcc.toArray,.int .i64 (flt zo.length zd.length)]))∨
   (flt zo.length zd.length=0∧∃ao co,e= .returned (.tuple #[.agg #[.int .u8 tos,.int .u16 id,.bool keep,.int .u8 ttl,.int .u8 np,.int .u32 src,.int .u32 dst,.slice ao zo.length co,sd'],.int .i64 0])∧Ow w.heap.size w' (.slice ao zo.length co) zo)):=by
 by_cases hf:flt zo.length zd.length=0
 ·have hv:zo.length≤40∧zo.length % 4=0∧20+zo.length+zd.length≤65535:=by
   unfold flt at hf;split at hf<;>first|omega|(split at hf<;>omega)
  exact(zMi tos id ttl proto src dst np keep so sd sd' zo zd w ub tu hu hBo hIo hId hv.1 hv.2.1 hv.2.2 ht hid htt hpr hsr hds).mono fun e w' ⟨ao,co,he,hO,hb⟩=>⟨hb,.inr ⟨hf,ao,co,he,hO⟩⟩
 ·obtain ⟨ad,cd,rfl,_,_⟩:=hId.slice
  exact(zQ1 tos id ttl proto src dst np keep so sd zo ad zd.length cd w ub tu hu hIo h1 h2 hf).mono fun e w' ⟨he,hb⟩=>⟨hb,.inl ⟨hf,he⟩⟩
theorem zBb(s d p n:Int):(psd s d p n).length=12:=rfl
theorem zFg(s d p n:Int)(hs:0≤s∧s≤4294967295)(hd:0≤d∧d≤4294967295)(hp:0≤p∧p≤255):Mt.By (psd s d p n):=by
 unfold psd;exact .mk (by omega) (.mk (by omega) (.mk (by omega) (.mk (by omega) (.mk (by omega) (.mk (by omega) (.mk (by omega) (.mk (by omega) (.mk (by omega) (.mk (by omega) (.mk (by omega) (.mk (by omega) .nil)))))))))))
theorem zE7(tos id ttl proto src dst:Int)(keep:Bool)(so sd:Value)(zd:List Int)(w:World)(hI:Rd w.heap.size w sd zd)(hl:12+zd.length≤140737488355328)(hsr:0≤src∧src≤4294967295)(hds:0≤dst∧dst≤4294967295):
  Calls Tryz.prog 64 #[.agg #[.int .u8 tos,.int .u16 id,.bool keep,.int .u8 ttl,.int .u8 proto,.int .u32 src,.int .u32 dst,so,sd]] w fun e w'=>∃a c,e= .returned (.slice a (12+zd.length) c)∧Ow w.heap.size w' (.slice a (12+zd.length) c) (psd src dst proto zd.length++zd)∧Below w.heap.size w w':=by
 obtain⟨i0,hi,hz0,hz1,hz2⟩:=info_parts zBt;obtain⟨ad,cd,rfl,hl1,hm1⟩:=hI.slice;have hb0:Below w.heap.size w (w.alloc (.cells #[.int .u8 tos,.int .u16 id,.bool keep,.int .u8 ttl,.int .u8 proto,.int .u32 src,.int .u32 dst,so,.slice ad zd.length cd] 40)):=bA _ _;have p0:=heap_alloc_new w (.cells #[.int .u8 tos,.int .u16 id,.bool keep,.int .u8 ttl,.int .u8 proto,.int .u32 src,.int .u32 dst,so,.slice ad zd.length cd] 40);have P0:=zAd p0;clear p0;go_enter Tryz.func64,Tryz.ntmps64;go_upto_region 1 with fail;generalize w.alloc (.cells #[.int .u8 tos,.int .u16 id,.bool keep,.int .u8 ttl,.int .u8 proto,.int .u32 src,.int .u32 dst,so,.slice ad zd.length cd] 40)=W0 at*;refine zAl (R:=Later) 14 rfl (by kernel_rfl) ?_;have hd:Later W0 W0.drew:=Later.drew W0;have qp:∀v1,Later W0.drew v1→∀i,v1.cell? ⟨w.heap.size,i,none⟩=#[Value.int .u8 tos,.int .u16 id,.bool keep,.int .u8 ttl,.int .u8 proto,.int .u32 src,.int .u32 dst,so,.slice ad zd.length cd][i]? :=fun v1 h=>zAa (((hd.trans h).block w.heap.size (eS P0.out)).trans P0.out);have hbd:=hb0.trans (hd.mono hb0.size);generalize W0.drew=W1 at*;refine tX Later.pre 0 ?_;refine tX Later.pre 1 ?_;refine tX Later.pre 2 ?_;refine tX Later.pre 3 ?_;refine tX Later.pre 4 ?_;refine tX Later.pre 5 ?_;refine tX Later.pre 6 ?_;refine tX Later.pre 7 ?_;refine tX Later.pre 8 ?_;refine tX Later.pre 10 ?_;refine tX Later.pre 11 ?_;refine tO 9 ?_;refine zAj 124 #[.int .u32 src,.int .u32 dst,.int .u8 proto,.int .i64 zd.length] (by go_simp) ?_
 refine(zHm src dst proto zd.length hsr hds W1).mono ?_;rintro e w2 ⟨a2,rfl,hO2,hb2⟩;refine⟨hb2,?_⟩;simp only[Act.put,sA,sB,sC];have hw2:=hbd.trans (hb2.mono hbd.size);obtain⟨v3,w3,hr3,hO3,hb3⟩:=zE2 (P:=Tryz.prog) w2 26 26 W1.heap.size i0 Tryz.underlying26 hi hz0 hz1 hz2 a2 12 _ hO2 (by simp[psd]) w.heap.size _ zd (hI.below hw2) (by rw[zBb];omega) hb2.size;refine tO 12 ?_;obtain⟨a3,c3,rfl,_,_⟩:=hO3.slice;rw[List.length_append,zBb]at hr3 hO3;refine zC9 (.tmp 12) (.tmp 14) 26 rfl _ _ rfl rfl _ w3 hr3 ⟨hb3,?_⟩;simp only[Act.put,sA,sB,sC];clear qp;refine tX Later.pre 13 ?_;refine tD ?_;go_wp2_with fail;go_ret
 exact⟨a3,c3,rfl,hO3.mono hbd.size,hw2.trans (hb3.mono hw2.size)⟩
theorem But.wk {E E':Nat→Prop} {a b:World} (h:But E a b)(hE:∀k,E k→E' k):But E' a b:=⟨h.os,h.tape,h.output,h.size,fun i hi he=>h.block i hi (fun h'=>he (hE i h'))⟩
theorem Ow.aside {base mb:Nat} {W W':World} {v:Value} {zs:List Int} {cur:Array Value} {t:TypeId} (h:Ow base W v zs)(hm:W.heap[mb]? =some (.cells cur t (0,0)))(ht:t≠5)(hb:But (fun b=>b=mb) W W'):Ow base W' v zs:=by
 rcases h with h|⟨g,cap,c,h1,h2,h3,h4,h5,h6,h7⟩
 ·exact .inl h
 ·refine .inr ⟨g,cap,c,h1,h2,h3,h4,h5,(hb.block g (eS h6) (fun e=> ?_)).trans h6,h7⟩
  subst e;rw[hm]at h6
  simp at h6
  exact ht h6.2
def pue (proto src dst:Int) (zs:List Int):Int:=if proto≠17 then 12 else if zs.length<8 then 3 else if wat zs 4≠zs.length then 4 else if wat zs 6≠0∧Mt.cks (psd src dst 17 zs.length++zs)≠0 then 5 else 0
theorem zCj {P:Program} {q:IntKind} {t kt et:TypeId} (ht:P.underlying t=some (.map kt et))(hk:P.underlying kt=some (.int q)) {w:World} {b:Nat} {es:Array MapEntry} {c:Nat} (hb:w.heap[b]? =some (.map es c))(z:Int)(v:Value)(hf:Instr.findNow (.int q) (.int q z) es.toList 0=some none):
  ∃w',(Instr.mapUpdate t (.map (some b)) (.int q z) v).run P w= .ok () w'∧w'.heap[b]? =some (.map (es.push ⟨.int q z,v,c⟩) (c+1))∧∀n,n≤b→Below n w w':=by
 have hc:(Instr.checkKey false 10000 kt (.int q z)).run P w= .ok () w:=MapKept.run_checkKey (k:= .int q z) hk (by simp[MapKept.IsKey]) false 9999;have hlt:=(eS hb);refine⟨{ w with heap:=w.heap.setIfInBounds b (.map (es.push ⟨.int q z,v,c⟩) (c+1)) },?_,?_,fun n hn=>⟨rfl,rfl,rfl,by simp,fun i hi=> ?_⟩⟩
 ·simp[Instr.mapUpdate,run_underlying ht,MapKept.run_getObj_map hb,hc,MapKept.run_findKey hk hf,MapKept.run_setObj_map _ hb,Result.andThen]
 ·simp[hlt]
 ·rw[Array.getElem?_setIfInBounds_ne (by omega)]
theorem zDf {P:Program} {q:IntKind} {t kt et:TypeId} (ht:P.underlying t=some (.map kt et))(hk:P.underlying kt=some (.int q)) {w:World} {b:Nat} {es:Array MapEntry} {c:Nat} (hb:w.heap[b]? =some (.map es c))(z:Int)(v:Value)(ok:Bool)
  (hf:((∃j,Instr.findNow (.int q) (.int q z) es.toList 0=some (some (j,v)))∧ok=true∨(Instr.findNow (.int q) (.int q z) es.toList 0=some none∧(zeroValue et).run P w= .ok v w∧ok=false))):(Instr.lookup t (.map (some b)) (.int q z) true).run P w= .ok (.tuple #[v,.bool ok]) w:=by
 have hc:(Instr.checkKey es.isEmpty 10000 kt (.int q z)).run P w= .ok () w:=MapKept.run_checkKey (k:= .int q z) hk (by simp[MapKept.IsKey]) _ 9999;rcases hf with⟨⟨j,hf⟩,rfl⟩|⟨hf,hz,rfl⟩
 ·simp[Instr.lookup,run_underlying ht,MapKept.run_getObj_map hb,hc,MapKept.run_findKey hk hf,Result.andThen]
 ·simp[Instr.lookup,run_underlying ht,MapKept.run_getObj_map hb,hc,MapKept.run_findKey hk hf,hz,Result.andThen]
def rdE:Array MapEntry:=#[⟨.int .u8 6,.agg #[.func (.func 224) #[] #[],.func (.func 225) #[] #[]],0⟩,⟨.int .u8 17,.agg #[.func (.func 226) #[] #[],.func (.func 225) #[] #[]],1⟩,⟨.int .u8 1,.agg #[.func (.func 227) #[] #[],.func (.func 228) #[] #[]],2⟩,⟨.int .u8 47,.agg #[.func (.func 229) #[] #[],.func (.func 230) #[] #[]],3⟩]
theorem zC4(w:World):Calls Tryz.prog 167 #[] w fun e w'=>∃b,e= .returned (.map (some b))∧Below w.heap.size w w'∧w'.heap[b]? =some (.map rdE 4):=by
 have hmm:= @run_makeMap Tryz.prog;have hb0:Below w.heap.size w (w.alloc (.map #[] 0)):=bA _ _;have hM0:=heap_alloc_new w (.map #[] 0);obtain⟨w1,r1,m1,l1⟩:=zCj (P:=Tryz.prog) Tryz.underlying314 Tryz.underlying5 hM0 6 (.agg #[.func (.func 224) #[] #[],.func (.func 225) #[] #[]]) (by kernel_rfl);obtain⟨w2,r2,m2,l2⟩:=zCj (P:=Tryz.prog) Tryz.underlying314 Tryz.underlying5 m1 17 (.agg #[.func (.func 226) #[] #[],.func (.func 225) #[] #[]]) (by kernel_rfl);obtain⟨w3,r3,m3,l3⟩:=zCj (P:=Tryz.prog) Tryz.underlying314 Tryz.underlying5 m2 1 (.agg #[.func (.func 227) #[] #[],.func (.func 228) #[] #[]]) (by kernel_rfl);obtain⟨w4,r4,m4,l4⟩:=zCj (P:=Tryz.prog) Tryz.underlying314 Tryz.underlying5 m3 47 (.agg #[.func (.func 229) #[] #[],.func (.func 230) #[] #[]]) (by kernel_rfl);have hb4:Below w.heap.size w w4:=(((hb0.trans (l1 _ (Nat.le_refl _))).trans (l2 _ (Nat.le_refl _))).trans (l3 _ (Nat.le_refl _))).trans (l4 _ (Nat.le_refl _));clear m1 m2 m3 l1 l2 l3 l4 hM0 hb0;have M4:=zAd m4;clear m4;go_enter Tryz.func167,Tryz.ntmps167;go_wp2_with fail;go_ret
 exact⟨_,rfl,hb4,M4.out⟩
theorem look_tcp {w:World} {b:Nat} (hb:w.heap[b]? =some (.map rdE 4)):(Instr.lookup 314 (.map (some b)) (.int .u8 6) true).run Tryz.prog w= .ok (.tuple #[.agg #[.func (.func 224) #[] #[],.func (.func 225) #[] #[]],.bool true]) w:=
 zDf Tryz.underlying314 Tryz.underlying5 hb 6 _ true (.inl ⟨⟨0,by kernel_rfl⟩,rfl⟩)
theorem told_any(tos id ttl proto src dst a b e0:Int)(keep:Bool)(so sd:Value)(w:World):Calls Tryz.prog 168 #[.agg #[.int .u8 tos,.int .u16 id,.bool keep,.int .u8 ttl,.int .u8 proto,.int .u32 src,.int .u32 dst,so,sd],.agg #[.int .u16 a,.int .u16 b],.int .i64 e0] w fun e w'=>Below w.heap.size w w'∧((e0≠0∧e= .returned (.tuple #[.agg #[.int .u8 0,.int .u32 0,.int .u32 0,.int .u16 0,.int .u16 0],.int .i64 e0]))∨(e0=0∧e= .returned (.tuple #[.agg #[.int .u8 proto,.int .u32 src,.int .u32 dst,.int .u16 a,.int .u16 b],.int .i64 0]))):=by
 by_cases h:e0=0
 ·subst h
  go_enter Tryz.func168,Tryz.ntmps168;go_wp2_with fail;exact bodyPost_ret (v:= .tuple #[.agg #[.int .u8 proto,.int .u32 src,.int .u32 dst,.int .u16 a,.int .u16 b],.int .i64 0]) (by simp[results,Tryz.results168,go_sem]) rfl ⟨((bA _ _).alloc (by simp) _).alloc (by simp;omega) _,.inr ⟨trivial,rfl⟩⟩
 ·have h1:(e0 !=0)=true:=by simp[h]
  have H:=zAd h;clear h;go_enter Tryz.func168,Tryz.ntmps168;go_wp2_with fail;exact bodyPost_ret (v:= .tuple #[.agg #[.int .u8 0,.int .u32 0,.int .u32 0,.int .u16 0,.int .u16 0],.int .i64 e0]) (by simp[results,Tryz.results168,go_sem]) rfl ⟨((bA _ _).alloc (by simp) _).alloc (by simp;omega) _,.inl ⟨H.out,rfl⟩⟩
def otv (e0 proto src dst a b:Int):Value:=if e0=0 then .agg #[.int .u8 proto,.int .u32 src,.int .u32 dst,.int .u16 a,.int .u16 b]else .agg #[.int .u8 0,.int .u32 0,.int .u32 0,.int .u16 0,.int .u16 0]
theorem zDg(P:Program)(w:World)(a:Addr)(m:Mode)(f:Fn)(xs ys:Array Value):(store a (.func f xs ys) m).run P w=stored P w a (.func f xs ys) m:=run_store P w a _ m rfl
end Go.Proofs.YteaeilghamjjkaaGreatDoor
