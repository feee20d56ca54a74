import Derived.Test.YteaeilghamjjkaaGreatDoorX31
import Derived.RegionTactic
import Derived.BigRegion
import Derived.Deep.RegionLaw
import Derived.ArgAppend
import Derived.Deep.Quiet
import Derived.Below
import Derived.WalkKit
import Derived.Shelf.Abstract
import Derived.KernelRfl
import Derived.Defers
import Derived.Recover
import Derived.Laws.Pointers
namespace Go.Proofs.YteaeilghamjjkaaGreatDoor
set_option maxHeartbeats 4000000
open Go.RowKit Go.Shelf
set_option maxRecDepth 100000
theorem sA {α:Type} {l:List α} {i:Nat} {a:α} :l.toArray.setIfInBounds i a=(l.set i a).toArray:=by simp
theorem sB {α:Type} {x:α} {xs:List α} {a:α} :(x::xs).set 0 a=a::xs:=rfl
theorem sC {α:Type} {x:α} {xs:List α} {i:Nat} {a:α} :(x::xs).set (i+1) a=x::xs.set i a:=rfl
theorem Rd.drew {n₀:Nat} {w:World} {sv:Value} {zs:List Int} (q:Nat)(h:Rd n₀ w sv zs):Rd n₀ (w.drewN q) sv zs:=h.below (zAk (Below.refl _ _) q)
theorem Ow.drew {base:Nat} {w:World} {sv:Value} {zs:List Int} (q:Nat)(h:Ow base w sv zs):Ow base (w.drewN q) sv zs:=h.below (zAk (Below.refl w.heap.size _) q) (Nat.le_refl _)
theorem Rd.cells {n₀:Nat} {w:World} {sv:Value} {zs:List Int} (h:Rd n₀ w sv zs)(hne:0<zs.length):∃b off cap,sv= .slice (some ⟨b,off,none⟩) zs.length cap∧zs.length≤cap∧cap≤9223372036854775807∧b<n₀∧∀j,j<zs.length→w.cell? ⟨b,off+j,none⟩=some (.int .u8 (zs[j]?.getD 0)):=by
 rcases h with⟨a,cap,e,hz,_⟩|⟨b,off,cap,e,_,hl,hm,hb,hc⟩
 ·subst hz;simp at hne
 ·exact ⟨b,off,cap,e,hl,hm,hb,hc⟩
theorem zA4 {n₀:Nat} (sv:Value)(zs:List Int)(hB:Mt.By zs)(p:Nat)(h:p+1<zs.length)(w:World)(hI:Rd n₀ w sv zs):
  Calls Tryz.prog 39 #[sv,.int .i64 p] w fun e w'=>e= .returned (.int .u16 (wat zs p))∧∃n,w'=w.drewN n:=by
 obtain⟨b,off,cap,rfl,hl,hm,_,hc⟩:=hI.cells (by omega);exact zJ8 b off zs.length cap _ _ p w (by omega) h (hB.at p) (hB.at (p+1)) (hc p (by omega)) (hc (p+1) h)
theorem zSj(x y:Int)(hx:0≤x∧x≤65535)(hy:0≤y∧y≤65535):bits .or .u32 (x*65536) y=x*65536+y:=by
 rw[u32_or _ _ (by omega) (by omega) (by omega) (by omega)];have:=nat_join 16 (x*65536).toNat y.toNat (by omega) (by omega);omega
def zAs (zs:List Int) (p:Nat):Int:=wat zs p*65536+wat zs (p+2)
theorem zCh {n₀:Nat} (sv:Value)(zs:List Int)(hB:Mt.By zs)(p:Nat)(h:p+3<zs.length)(w:World)(hI:Rd n₀ w sv zs):
  Calls Tryz.prog 70 #[sv,.int .i64 p] w fun e w'=>e= .returned (.int .u32 (zAs zs p))∧∃n,w'=w.drewN n:=by
 obtain⟨a,cap,rfl,hl,hm⟩:=hI.slice;have HW:Hid (zAs zs p=wat zs p*65536+wat zs (p+2)):=rfl;have b0:=zCp hB p;have b1:=zCp hB (p+2);go_enter Tryz.func70,Tryz.ntmps70;go_wp2_with fail;refine(zEe _ _ _ _ _ _ (by omega) (by omega) (by omega) (by omega)).mono ?_;rintro e w1 ⟨rfl,rfl⟩;go_wp2_with fail;refine(zA4 _ zs hB p (by omega) _ hI).mono ?_;rintro e w2 ⟨rfl,q,rfl⟩;go_wp2_with fail;rw[show ((p:Int)+2)=((p+2:Nat):Int)from by omega];refine(zA4 _ zs hB (p+2) (by omega) _ (hI.drew q)).mono ?_;rintro e w2 ⟨rfl,q2,rfl⟩;generalize wat zs p=x at*;generalize wat zs (p+2)=y at*;go_wp2
 rw[zSj x y b0 b1];go_ret
 exact⟨by rw[HW.out];rfl,_,rfl⟩
theorem zIq(zs:List Int)(k:Nat)(v:Int)(h:k+1<zs.length)(_hv:0≤v):wat (Mt.put2 zs k v) k=v:=by
 obtain⟨e0,e1⟩:=Mt.put2_at zs k v h;unfold wat;rw[e0,e1];omega
theorem zBo(zs:List Int)(k j:Nat)(v:Int)(h1:j+1<k∨k+1<j):wat (Mt.put2 zs k v) j=wat zs j:=by
 unfold wat;rw[Mt.put2_other _ _ _ _ (by omega) (by omega),Mt.put2_other _ _ _ _ (by omega) (by omega)]
theorem zF2(tos id ttl proto src dst:Int)(keep:Bool)(ao ad:Option Addr)(lo co ld cd:Nat)(w:World)(h1:lo≤140737488355328)(h2:ld≤140737488355328):
  Calls Tryz.prog 125 #[.agg #[.int .u8 tos,.int .u16 id,.bool keep,.int .u8 ttl,.int .u8 proto,.int .u32 src,.int .u32 dst,.slice ao lo co,.slice ad ld cd]] w fun e w'=>e= .returned (.agg #[.int .i64 (20+lo),.int .i64 (20+lo+ld)])∧Below w.heap.size w w':=by
 go_enter Tryz.func125,Tryz.ntmps125;go_wp2
 exact bodyPost_ret (v:= .agg #[.int .i64 (20+lo),.int .i64 (20+lo+ld)]) (by simp[results,Tryz.results125,go_sem]) rfl ⟨rfl,(bA _ _).alloc (by simp) _⟩
theorem zSk(a b:Int)(w:World):(Instr.field 256 (.agg #[.int .i64 a,.int .i64 b]) 1).run Tryz.prog w= .ok (.int .i64 b) w:=by kernel_rfl
def flt (lo ld:Nat):Int:=if 40<lo∨lo % 4≠0 then 4 else if 65535<20+lo+ld then 8 else 0
theorem zKb(tos id ttl proto src dst:Int)(keep:Bool)(ao ad:Option Addr)(lo co ld cd:Nat)(w:World)(h1:lo≤140737488355328)(h2:ld≤140737488355328):
  Calls Tryz.prog 65 #[.agg #[.int .u8 tos,.int .u16 id,.bool keep,.int .u8 ttl,.int .u8 proto,.int .u32 src,.int .u32 dst,.slice ao lo co,.slice ad ld cd]] w fun e w'=>e= .returned (.int .i64 (flt lo ld))∧Below w.heap.size w w':=by
 have hbox:Below w.heap.size w (w.alloc (.cells #[.int .u8 tos,.int .u16 id,.bool keep,.int .u8 ttl,.int .u8 proto,.int .u32 src,.int .u32 dst,.slice ao lo co,.slice ad ld cd] 40)):=bA _ _;by_cases c1:40<lo
 ·have t1:(40:Int)<lo:=by omega
  have HF:Hid (flt lo ld=4):=by show _=_;unfold flt;rw[if_pos (.inl c1)]
  go_enter Tryz.func65,Tryz.ntmps65;go_wp2
  go_ret
  exact⟨by rw[HF.out];rfl,hbox⟩
 ·have t1:¬(40:Int)<lo:=by omega
  by_cases c2:lo % 4=0
  ·have t2:((lo:Int) % 4 !=0)=false:=by simp;omega
   by_cases c3:65535<20+lo+ld
   ·have t3:(65535:Int)<20+lo+ld:=by omega
    have HF:Hid (flt lo ld=8):=by show _=_;unfold flt;rw[if_neg (by omega),if_pos c3]
    go_enter Tryz.func65,Tryz.ntmps65;go_wp2_with fail;refine(zF2 tos id ttl proto src dst keep ao ad lo co ld cd _ h1 h2).mono ?_;rintro e w1 ⟨rfl,hb1⟩;have hfl:=zSk (20+lo) (20+lo+ld) w1;clear c1 c2 c3 h1 h2;go_wp2
    go_ret
    exact⟨by rw[HF.out];rfl,hbox.trans (hb1.mono (by simp))⟩
   ·have t3:¬(65535:Int)<20+lo+ld:=by omega
    have HF:Hid (flt lo ld=0):=by show _=_;unfold flt;rw[if_neg (by omega),if_neg c3]
    go_enter Tryz.func65,Tryz.ntmps65;go_wp2_with fail;refine(zF2 tos id ttl proto src dst keep ao ad lo co ld cd _ h1 h2).mono ?_;rintro e w1 ⟨rfl,hb1⟩;have hfl:=zSk (20+lo) (20+lo+ld) w1;clear c1 c2 c3 h1 h2;go_wp2
    go_ret
    exact⟨by rw[HF.out];rfl,hbox.trans (hb1.mono (by simp))⟩
  ·have t2:((lo:Int) % 4 !=0)=true:=by simp;omega
   have HF:Hid (flt lo ld=4):=by show _=_;unfold flt;rw[if_pos (.inr c2)]
   go_enter Tryz.func65,Tryz.ntmps65;go_wp2
   go_ret
   exact⟨by rw[HF.out];rfl,hbox⟩
theorem zF3 {P:Program} (w:World)(t ty e:TypeId)(base:Nat)(i:TypeInfo)(ht:P.underlying t=some (.slice e))(hi:P.info? e=some i)(hz:i.zero=some (.int .u8 0))(hsize:i.size=1)(hby:i.bytes=1)
  (v:Value)(ys:List Int)(hown:w.ownsRow base e 1 v ys.length (ys.map (Value.int .u8)))
  (n₀:Nat)(sx:Value)(zs:List Int)(hI:Rd n₀ w sx zs)(hbd:ys.length+zs.length≤140737488355328)(hbase:base≤w.heap.size):
  ∃v' w',(Builtin.append_ #[t,t] ty #[v,sx]).run P w= .ok v' w'∧w'.ownsRow base e 1 v' (ys++zs).length ((ys++zs).map (Value.int .u8))∧w.grownBy w' v.ownBlock:=by
 rcases hI with⟨ao,cap,rfl,rfl,hm,hn⟩|⟨b,off,cap,rfl,hne,hl,hm,hb,hc⟩
 ·cases ao with
  |none=>
   obtain rfl:=hn rfl;exact⟨v,w,run_append_owned_none w base t ty e i 1 ht hi v _ _ hown,by simpa using hown,⟨rfl,rfl,rfl,Nat.le_refl _,fun _ _ _=>rfl⟩⟩
  |some ad=>
   obtain⟨v',w',hr,h2,h3,_⟩:=run_append_own (P:=P) w base t ty e i (.int .u8 0) 1 1 ht hi hz hsize hby rfl (by decide) v _ _ hown ad 0 cap [] rfl (fun j u hj=>by simp at hj) (fun u hu=>by simp at hu) (by unfold maxLen;omega) (by omega) hbase;exact⟨v',w',hr,by simpa using h2,h3⟩
 ·obtain ⟨v',w',hr,h2,h3,_⟩:=run_append_own (P:=P) w base t ty e i (.int .u8 0) 1 1 ht hi hz hsize hby rfl (by decide) v _ _ hown ⟨b,off,none⟩ zs.length cap (zs.map (Value.int .u8)) (by simp)
   (fun j u hj=>by
    have hj':j<zs.length:=by have:=(List.getElem?_eq_some_iff.1 hj).1;simpa using this
    rw[show (⟨b,off,none⟩:Addr).add j=⟨b,off+j,none⟩from by unfold Addr.add;split<;>simp_all,hc j hj',←hj];simp[hj'])
   (fun u hu=>by obtain⟨z,_,rfl⟩:=List.mem_map.1 hu;rfl) (by unfold maxLen;omega) (by omega) hbase
  exact⟨v',w',hr,by simpa using h2,h3⟩
theorem zOr {P:Program} {ops:Array Oper} {o:Oper} {a:Act} {w:World} {K:Act→World→Prop} {Q:Exit→Act→World→Prop} {E:Prop}
  (hg:o.guard=none)(s x:Operand)(t:TypeId)(hop:o.op=Op.call { callee:=Callee.builtin Builtin.append,args:=#[s,x],argTypes:=#[t,t] })
  (v sx:Value)(hs:a.eval s=v)(hx:a.eval x=sx)(v':Value)(w':World)(hrun:(Builtin.append_ #[t,t] o.type #[v,sx]).run P w= .ok v' w')(hK:K (a.put o.dst v') w'):
  if Region.wanted o (yielded ops a.tmps)=true then Oper.wp P o a w K Q else E:=by
 have hw:Region.wanted o (yielded ops a.tmps)=true:=by simp[Region.wanted,hg]
 rw[if_pos hw];unfold Oper.wp;simp[execOp,hop,resolve,invoke,builtin,hs,hx,hrun,Result.andThen]
 exact hK
theorem or64(x:Int)(h0:0≤x)(h1:x≤15):bits .or .i64 64 x=64+x:=by
 have:x=0∨x=1∨x=2∨x=3∨x=4∨x=5∨x=6∨x=7∨x=8∨x=9∨x=10∨x=11∨x=12∨x=13∨x=14∨x=15:=by omega
 rcases this with rfl|rfl|rfl|rfl|rfl|rfl|rfl|rfl|rfl|rfl|rfl|rfl|rfl|rfl|rfl|rfl<;>decide+kernel
theorem sets4 {base:Nat} {w4:World} {g n cap:Nat} {l0:List Int} (hO:Ow base w4 (.slice (some ⟨g,0,none⟩) n cap) l0)(hl:9<l0.length)(x0 x1 x8 x9:Int):
  Ow base ((((w4.setCell ⟨g,0,none⟩ (.int .u8 x0)).setCell ⟨g,1,none⟩ (.int .u8 x1)).setCell ⟨g,8,none⟩ (.int .u8 x8)).setCell ⟨g,9,none⟩ (.int .u8 x9)).drew (.slice (some ⟨g,0,none⟩) n cap) ((((l0.set 0 x0).set 1 x1).set 8 x8).set 9 x9)∧
  Below base w4 ((((w4.setCell ⟨g,0,none⟩ (.int .u8 x0)).setCell ⟨g,1,none⟩ (.int .u8 x1)).setCell ⟨g,8,none⟩ (.int .u8 x8)).setCell ⟨g,9,none⟩ (.int .u8 x9)).drew:=by
 obtain⟨g0,e0,_,hb,_,h0⟩:=hO.at (by omega);cases e0
 obtain⟨g1,e1,_,_,_,h1⟩:=(h0 0 x0 (by omega)).at (by simp;omega);cases e1
 obtain⟨g2,e2,_,_,_,h2⟩:=(h1 1 x1 (by simp;omega)).at (by simp;omega);cases e2
 obtain⟨g3,e3,_,_,_,h3⟩:=(h2 8 x8 (by simp;omega)).at (by simp;omega);cases e3
 have h4:=h3 9 x9 (by simp;omega);exact⟨h4.drew 1,zAk (((((Below.refl base w4).setCell (p:=⟨g,0,none⟩) hb _).setCell (p:=⟨g,1,none⟩) hb _).setCell (p:=⟨g,8,none⟩) hb _).setCell (p:=⟨g,9,none⟩) hb _) 1⟩
def hd1 (tos id:Int) (keep:Bool) (ttl proto src dst:Int) (l0:List Int) (x0 all:Int):List Int:=
 zBq (zBq (if keep then zBl (zBl (zBl ((((l0.set 0 x0).set 1 tos).set 8 ttl).set 9 proto) 2 all) 4 id) 6 16384 else zBl (zBl ((((l0.set 0 x0).set 1 tos).set 8 ttl).set 9 proto) 2 all) 4 id) 12 src) 16 dst
def hd0 (tos id:Int) (keep:Bool) (ttl proto src dst:Int) (zo:List Int) (all:Int):List Int:=
 hd1 tos id keep ttl proto src dst (List.replicate 20 (0:Int)++zo) (64+(20+(zo.length:Int))/4) all
def hdr (tos id:Int) (keep:Bool) (ttl proto src dst:Int) (zo:List Int) (all:Int):List Int:=
 zBl (hd0 tos id keep ttl proto src dst zo all) 10 (Mt.cks (hd0 tos id keep ttl proto src dst zo all))
theorem zHi(tos id:Int)(keep:Bool)(ttl proto src dst:Int)(zo:List Int)(all:Int):(hd0 tos id keep ttl proto src dst zo all).length=20+zo.length:=by
 unfold hd0 hd1;simp only[zBi];split<;>simp only[zBu,List.length_set,List.length_append,List.length_replicate]
theorem By_hd0(tos id:Int)(keep:Bool)(ttl proto src dst:Int)(zo:List Int)(all:Int)(hO:Mt.By zo)(hl:zo.length≤40)(ht:0≤tos∧tos≤255)(hid:0≤id∧id≤65535)(htt:0≤ttl∧ttl≤255)(hpr:0≤proto∧proto≤255)(hsr:0≤src∧src≤4294967295)(hds:0≤dst∧dst≤4294967295)(hal:0≤all∧all≤65535):
  Mt.By (hd0 tos id keep ttl proto src dst zo all):=by
 have hz:Mt.By (List.replicate 20 (0:Int)):=fun z hz=>by rw[(List.mem_replicate.1 hz).2];omega
 have h1:=(((((hz.append hO).set 0 (v:=64+(20+(zo.length:Int))/4) (by omega)).set 1 ht).set 8 htt).set 9 hpr);have h2:=zF1 (zF1 h1 2 hal) 4 hid;unfold hd0 hd1;refine zKa (zKa ?_ 12 hsr) 16 hds;cases keep
 ·exact h2
 ·exact zF1 h2 6 (by omega)
theorem make20(w:World):(Instr.makeSlice 26 (.int .i64 20) (.int .i64 20)).run Tryz.prog w= .ok (.slice (some ⟨w.heap.size,0,none⟩) 20 20) (w.alloc (.cells #[.int .u8 0,.int .u8 0,.int .u8 0,.int .u8 0,.int .u8 0,.int .u8 0,.int .u8 0,.int .u8 0,.int .u8 0,.int .u8 0,.int .u8 0,.int .u8 0,.int .u8 0,.int .u8 0,.int .u8 0,.int .u8 0,.int .u8 0,.int .u8 0,.int .u8 0,.int .u8 0] 5)):=by kernel_rfl
theorem own20(w:World):(w.alloc (.cells #[.int .u8 0,.int .u8 0,.int .u8 0,.int .u8 0,.int .u8 0,.int .u8 0,.int .u8 0,.int .u8 0,.int .u8 0,.int .u8 0,.int .u8 0,.int .u8 0,.int .u8 0,.int .u8 0,.int .u8 0,.int .u8 0,.int .u8 0,.int .u8 0,.int .u8 0,.int .u8 0] 5)).ownsRow w.heap.size 5 1 (.slice (some ⟨w.heap.size,0,none⟩) 20 20) (List.replicate 20 (0:Int)).length ((List.replicate 20 (0:Int)).map (Value.int .u8)):=
 ⟨by simp,.inr ⟨w.heap.size,20,_,rfl,Nat.le_refl _,heap_alloc_new w _,Nat.le_refl _,by unfold maxLen;omega,rfl,rfl⟩⟩
theorem zQi(tos id ttl proto src dst:Int)(keep:Bool)(so:Value)(zo:List Int)(ad:Option Addr)(ld cd:Nat)(w:World)(hO:Mt.By zo)(hI:Rd w.heap.size w so zo)
  (hlo:zo.length≤40)(hlm:zo.length % 4=0)(hall:20+zo.length+ld≤65535)(ht:0≤tos∧tos≤255)(hid:0≤id∧id≤65535)(htt:0≤ttl∧ttl≤255)(hpr:0≤proto∧proto≤255)(hsr:0≤src∧src≤4294967295)(hds:0≤dst∧dst≤4294967295):
  Calls Tryz.prog 66 #[.agg #[.int .u8 tos,.int .u16 id,.bool keep,.int .u8 ttl,.int .u8 proto,.int .u32 src,.int .u32 dst,so,.slice ad ld cd]] w fun e w'=>∃a,e= .returned (.slice a (20+zo.length) (20+zo.length))∧Ow w.heap.size w' (.slice a (20+zo.length) (20+zo.length)) (hdr tos id keep ttl proto src dst zo (20+zo.length+ld))∧Below w.heap.size w w':=by
 obtain⟨i0,hi,hz0,hz1,hz2⟩:=info_parts zBt;obtain⟨ao,co,rfl,hl1,hm1⟩:=hI.slice;have hbox:Below w.heap.size w (w.alloc (.cells #[.int .u8 tos,.int .u16 id,.bool keep,.int .u8 ttl,.int .u8 proto,.int .u32 src,.int .u32 dst,.slice ao zo.length co,.slice ad ld cd] 40)):=bA _ _;have hcell:=zDp w #[.int .u8 tos,.int .u16 id,.bool keep,.int .u8 ttl,.int .u8 proto,.int .u32 src,.int .u32 dst,.slice ao zo.length co,.slice ad ld cd] 40;go_enter Tryz.func66,Tryz.ntmps66;go_wp2_with fail;refine(zF2 tos id ttl proto src dst keep ao ad zo.length co ld cd _ (by omega) (by omega)).mono ?_;rintro e w1 ⟨rfl,hb1⟩;have hbc:∀j,w1.cell? ⟨w.heap.size,j,none⟩=#[Value.int .u8 tos,.int .u16 id,.bool keep,.int .u8 ttl,.int .u8 proto,.int .u32 src,.int .u32 dst,.slice ao zo.length co,.slice ad ld cd][j]? :=fun j=>(hb1.cell (p:=⟨w.heap.size,j,none⟩) (by simp)).trans (hcell j);have hw1:=hbox.trans (hb1.mono (by simp));have hs1:=hb1.size;have hI1:=hI.below hw1;clear hcell hb1 hbox;have hk20:=make20;have hb2:Below w.heap.size w (w1.alloc (.cells #[.int .i64 (20+zo.length),.int .i64 (20+zo.length+ld)] 256)):=hw1.alloc hw1.size _;have hs2:∀j,(w1.alloc (.cells #[.int .i64 (20+zo.length),.int .i64 (20+zo.length+ld)] 256)).cell? ⟨w1.heap.size,j,none⟩=#[Value.int .i64 (20+zo.length),.int .i64 (20+zo.length+ld)][j]? :=zDp w1 _ _
 have hbc2:∀j,(w1.alloc (.cells #[.int .i64 (20+zo.length),.int .i64 (20+zo.length+ld)] 256)).cell? ⟨w.heap.size,j,none⟩=#[Value.int .u8 tos,.int .u16 id,.bool keep,.int .u8 ttl,.int .u8 proto,.int .u32 src,.int .u32 dst,.slice ao zo.length co,.slice ad ld cd][j]? :=fun j=>(((Below.refl w1.heap.size w1).alloc (Nat.le_refl _) _).cell (p:=⟨w.heap.size,j,none⟩) (by simp at hs1;simp;omega)).trans (hbc j);have hsz2:w.heap.size<w1.heap.size:=by simp at hs1;omega
 have hsz3:w1.heap.size<(w1.alloc (.cells #[.int .i64 (20+zo.length),.int .i64 (20+zo.length+ld)] 256)).heap.size:=by simp
 clear hbc hs1 hI1;go_wp2_with fail;generalize (w1.alloc (.cells #[.int .i64 (20+zo.length),.int .i64 (20+zo.length+ld)] 256))=W2 at*;have hI2:=hI.below hb2;have hb3:=hb2.alloc hb2.size (.cells #[.int .u8 0,.int .u8 0,.int .u8 0,.int .u8 0,.int .u8 0,.int .u8 0,.int .u8 0,.int .u8 0,.int .u8 0,.int .u8 0,.int .u8 0,.int .u8 0,.int .u8 0,.int .u8 0,.int .u8 0,.int .u8 0,.int .u8 0,.int .u8 0,.int .u8 0,.int .u8 0] 5);have hbox2:w.heap.size≤W2.heap.size:=hb2.size;obtain⟨v4,w4,hrun,hown4,hg4⟩:=zF3 (P:=Tryz.prog) (W2.alloc (.cells #[.int .u8 0,.int .u8 0,.int .u8 0,.int .u8 0,.int .u8 0,.int .u8 0,.int .u8 0,.int .u8 0,.int .u8 0,.int .u8 0,.int .u8 0,.int .u8 0,.int .u8 0,.int .u8 0,.int .u8 0,.int .u8 0,.int .u8 0,.int .u8 0,.int .u8 0,.int .u8 0] 5)).drew 26 26 5 W2.heap.size i0 Tryz.underlying26 hi hz0 hz1 hz2 _ (List.replicate 20 0) (own20 W2) w.heap.size _ zo ((hI.below hb3).drew 1) (by simp;omega) (by simp[World.drew]);have c7:=hbc2 7
 simp at c7
 have c7':(W2.alloc (.cells #[.int .u8 0,.int .u8 0,.int .u8 0,.int .u8 0,.int .u8 0,.int .u8 0,.int .u8 0,.int .u8 0,.int .u8 0,.int .u8 0,.int .u8 0,.int .u8 0,.int .u8 0,.int .u8 0,.int .u8 0,.int .u8 0,.int .u8 0,.int .u8 0,.int .u8 0,.int .u8 0] 5)).cell? ⟨w.heap.size,7,none⟩=some (.slice ao zo.length co):=(((Below.refl W2.heap.size W2).alloc (Nat.le_refl _) _).cell (p:=⟨w.heap.size,7,none⟩) (Nat.lt_trans hsz2 hsz3)).trans c7;have hO4:=Ow.of_row hown4;have hb4:Below W2.heap.size W2 w4:=zEh (zAk ((Below.refl _ W2).alloc (Nat.le_refl _) _) 1) (own20 W2) hg4 (Nat.le_refl _) (by simp);have hll:(List.replicate 20 (0:Int)++zo).length=20+zo.length:=by rw[List.length_append,List.length_replicate]
 have hcb:=Mt.cks_bd (hd0 tos id keep ttl proto src dst zo (20+zo.length+ld));have hBd:=By_hd0 tos id keep ttl proto src dst zo (20+zo.length+ld) hO hlo ht hid htt hpr hsr hds (by omega);have hld:=zHi tos id keep ttl proto src dst zo (20+zo.length+ld);have HR:Hid (hdr tos id keep ttl proto src dst zo (20+zo.length+ld)=zBl (hd0 tos id keep ttl proto src dst zo (20+zo.length+ld)) 10 (Mt.cks (hd0 tos id keep ttl proto src dst zo (20+zo.length+ld)))):=rfl;have HD:Hid (hd0 tos id keep ttl proto src dst zo (20+zo.length+ld)=hd1 tos id keep ttl proto src dst (List.replicate 20 (0:Int)++zo) (64+(20+(zo.length:Int))/4) (20+zo.length+ld)):=rfl;generalize hd0 tos id keep ttl proto src dst zo (20+zo.length+ld)=dd at*;generalize List.replicate 20 (0:Int)++zo=l0 at*;obtain⟨a4,cap4,rfl,hl4,hm4⟩:=hO4.slice;obtain⟨g,hgg,_,hgW,hcf4,hset4⟩:=hO4.at (by omega);cases hgg
 obtain⟨hO5,hb5⟩:=sets4 hO4 (by omega) (64+(20+(zo.length:Int))/4) tos ttl proto;have hs3:∀j,w4.cell? ⟨w1.heap.size,j,none⟩=#[Value.int .i64 (20+zo.length),.int .i64 (20+zo.length+ld)][j]? :=fun j=>(hb4.cell (p:=⟨w1.heap.size,j,none⟩) hsz3).trans (hs2 j);have hbc3:∀j,w4.cell? ⟨w.heap.size,j,none⟩=#[Value.int .u8 tos,.int .u16 id,.bool keep,.int .u8 ttl,.int .u8 proto,.int .u32 src,.int .u32 dst,.slice ao zo.length co,.slice ad ld cd][j]? :=fun j=>(hb4.cell (p:=⟨w.heap.size,j,none⟩) (Nat.lt_trans hsz2 hsz3)).trans (hbc2 j);obtain⟨x0,f0⟩:=hcf4 0 (by omega);obtain⟨x1,f1⟩:=hcf4 1 (by omega);obtain⟨x8,f8⟩:=hcf4 8 (by omega);obtain⟨x9,f9⟩:=hcf4 9 (by omega);have b0:=hbc3 0;have b3:=hbc3 3;have b4:=hbc3 4;have s0:=hs3 0
 simp at b0 b3 b4 s0
 have hlen0:(1:Int)<l0.length:=by omega
 have hlen9:(9:Int)<l0.length:=by omega
 have hor:bits .or .i64 64 ((20+(zo.length:Int))/4)=64+(20+(zo.length:Int))/4:=or64 _ (by omega) (by omega);generalize l0[0]?.getD 0=y0 at x0;generalize l0[1]?.getD 0=y1 at x1;generalize l0[8]?.getD 0=y8 at x8;generalize l0[9]?.getD 0=y9 at x9;have HC:=zAd hcf4;have HS:=zAd hset4;have H1:=zAd hs3;have H2:=zAd hbc3;clear hcf4 hset4 hs3 hbc3 hbc2 hs2 hown4;go_region_law (refine zOr rfl (.tmp 7) (.tmp 9) 26 rfl _ _ rfl rfl _ w4 hrun ?_)
 all_goals clear hrun c7 c7' hg4 hk20
 all_goals go_wp2_with fail
 all_goals go_region
 all_goals
  rw[hll]at hO5;have H1':=zAd (fun j=>(hb5.cell (p:=⟨w1.heap.size,j,none⟩) hsz3).trans (zBd H1 j));have H2':=zAd (fun j=>(hb5.cell (p:=⟨w.heap.size,j,none⟩) (Nat.lt_trans hsz2 hsz3)).trans (zBd H2 j));have hz5:=hb5.size;have hbW5:Below w.heap.size w ((((w4.setCell ⟨g,0,none⟩ (.int .u8 (64+(20+(zo.length:Int))/4))).setCell ⟨g,1,none⟩ (.int .u8 tos)).setCell ⟨g,8,none⟩ (.int .u8 ttl)).setCell ⟨g,9,none⟩ (.int .u8 proto)).drew:=(hb2.trans (hb4.mono hb2.size)).trans (hb5.mono hb2.size);generalize ((((w4.setCell ⟨g,0,none⟩ (.int .u8 (64+(20+(zo.length:Int))/4))).setCell ⟨g,1,none⟩ (.int .u8 tos)).setCell ⟨g,8,none⟩ (.int .u8 ttl)).setCell ⟨g,9,none⟩ (.int .u8 proto)).drew=W5 at*;have hz4:=hb4.size;have hq5:w1.heap.size<W5.heap.size:=by omega
  have hq5':w.heap.size<W5.heap.size:=by omega
  have hl5:((((l0.set 0 (64+(20+(zo.length:Int))/4)).set 1 tos).set 8 ttl).set 9 proto).length=20+zo.length:=by simp only[List.length_set];exact hll
  unfold hd1 at HD;generalize (((l0.set 0 (64+(20+(zo.length:Int))/4)).set 1 tos).set 8 ttl).set 9 proto=l5 at*;have s1:=zBd H1' 1;have b1:=zBd H2' 1
  simp at s1 b1
  have hO5':=hO5.mono hbox2;clear x0 f0 x1 f1 x8 f8 x9 f9 b0 b3 b4 s0 H1 H2 HC HS hO4 hb5 hor hb4 hb3 hI2 hlen0 hlen9 hll hb2;go_wp2_with fail;refine(zB6 _ l5 _ (20+zo.length+ld) _ (by omega) hO5.rd (by omega)).mono ?_;rintro e w6 ⟨a6,rfl,hO6,hb6⟩;rw[hl5]at hO6;have H1':=zAd (fun j=>(hb6.cell (p:=⟨w1.heap.size,j,none⟩) hq5).trans (zBd H1' j));have H2':=zAd (fun j=>(hb6.cell (p:=⟨w.heap.size,j,none⟩) hq5').trans (zBd H2' j));have hbW6:=hbW5.trans (hb6.mono hbW5.size);have hq6:=Nat.lt_of_lt_of_le hq5 hb6.size;have hq6':=Nat.lt_of_lt_of_le hq5' hb6.size;have hO6':=hO6.mono hbW5.size;have hl6:=(zBu l5 2 (20+zo.length+ld)).trans hl5;generalize zBl l5 2 (20+zo.length+ld)=l6 at*;clear hb6 hO5 hO5' hbW5;have b1:=zBd H2' 1
  simp at b1
  go_wp2_with fail;refine(zB6 _ l6 _ id _ (by omega) hO6.rd hid).mono ?_;rintro e w7 ⟨a7,rfl,hO7,hb7⟩;rw[hl6]at hO7;have H1':=zAd (fun j=>(hb7.cell (p:=⟨w1.heap.size,j,none⟩) hq6).trans (zBd H1' j));have H2':=zAd (fun j=>(hb7.cell (p:=⟨w.heap.size,j,none⟩) hq6').trans (zBd H2' j));have hbW7:=hbW6.trans (hb7.mono hbW6.size);have hq7:=Nat.lt_of_lt_of_le hq6 hb7.size;have hq7':=Nat.lt_of_lt_of_le hq6' hb7.size;have hO7':=hO7.mono hbW6.size;have hl7:=(zBu l6 4 id).trans hl6;generalize zBl l6 4 id=l7 at*;clear hb7 hO6 hO6' hbW6;have b2:=zBd H2' 2
  simp at b2
  have b5:=zBd H2' 5
  simp at b5
  cases keep
  ·rw[if_neg (by simp)]at HD
   go_wp2_with fail;refine(zCq _ l7 _ src _ (by omega) hO7.rd hsr).mono ?_;rintro e w8 ⟨a8,rfl,hO8,hb8⟩;rw[hl7]at hO8;have H1':=zAd (fun j=>(hb8.cell (p:=⟨w1.heap.size,j,none⟩) hq7).trans (zBd H1' j));have H2':=zAd (fun j=>(hb8.cell (p:=⟨w.heap.size,j,none⟩) hq7').trans (zBd H2' j));have hbW8:=hbW7.trans (hb8.mono hbW7.size);have hq8:=Nat.lt_of_lt_of_le hq7 hb8.size;have hq8':=Nat.lt_of_lt_of_le hq7' hb8.size;have hO8':=hO8.mono hbW7.size;have hl8:=(zBi l7 12 src).trans hl7;generalize zBq l7 12 src=l8 at*;clear hb8 hO7 hO7' hbW7;have b6:=zBd H2' 6
   simp at b6
   go_wp2_with fail;refine(zCq _ l8 _ dst _ (by omega) hO8.rd hds).mono ?_;rintro e w9 ⟨a9,rfl,hO9,hb9⟩;rw[hl8]at hO9;have H1':=zAd (fun j=>(hb9.cell (p:=⟨w1.heap.size,j,none⟩) hq8).trans (zBd H1' j));have H2':=zAd (fun j=>(hb9.cell (p:=⟨w.heap.size,j,none⟩) hq8').trans (zBd H2' j));have hbW9:=hbW8.trans (hb9.mono hbW8.size);have hq9:=Nat.lt_of_lt_of_le hq8 hb9.size;have hq9':=Nat.lt_of_lt_of_le hq8' hb9.size;have hO9':=hO9.mono hbW8.size;have hl9:=(zBi l8 16 dst).trans hl8;generalize zBq l8 16 dst=l9 at*;clear hb9 hO8 hO8' hbW8;go_wp2_with fail;rw[←HD.out]at hO9 hl9;refine(zD4 _ dd hBd (by omega) _ hO9.rd).mono ?_;rintro e w10 ⟨rfl,hb10⟩;have hO10:=hO9.below hb10 (Nat.le_refl _);have hbW10:=hbW9.trans (hb10.mono hbW9.size);clear HD;go_wp2_with fail;refine(zB6 _ dd _ (Mt.cks dd) _ (by omega) hO10.rd hcb).mono ?_;rintro e w11 ⟨a11,rfl,hO11,hb11⟩;rw[hld]at hO11;go_wp2
   go_ret
   exact⟨_,rfl,by rw[HR.out];exact hO11.mono hbW10.size,hbW10.trans (hb11.mono hbW10.size)⟩
  ·rw[if_pos rfl]at HD
   go_wp2_with fail;refine(zB6 _ l7 _ 16384 _ (by omega) hO7.rd (by omega)).mono ?_;rintro e w75 ⟨a75,rfl,hO75,hb75⟩;rw[hl7]at hO75;have H1':=zAd (fun j=>(hb75.cell (p:=⟨w1.heap.size,j,none⟩) hq7).trans (zBd H1' j));have H2':=zAd (fun j=>(hb75.cell (p:=⟨w.heap.size,j,none⟩) hq7').trans (zBd H2' j));have hbW75:=hbW7.trans (hb75.mono hbW7.size);have hq75:=Nat.lt_of_lt_of_le hq7 hb75.size;have hq75':=Nat.lt_of_lt_of_le hq7' hb75.size;have hO75':=hO75.mono hbW7.size;have hl75:=(zBu l7 6 16384).trans hl7;generalize zBl l7 6 16384=l75 at*;clear hb75 hO7 hO7' hbW7;have b5:=zBd H2' 5
   simp at b5
   go_wp2_with fail;refine(zCq _ l75 _ src _ (by omega) hO75.rd hsr).mono ?_;rintro e w8 ⟨a8,rfl,hO8,hb8⟩;rw[hl75]at hO8;have H1':=zAd (fun j=>(hb8.cell (p:=⟨w1.heap.size,j,none⟩) hq75).trans (zBd H1' j));have H2':=zAd (fun j=>(hb8.cell (p:=⟨w.heap.size,j,none⟩) hq75').trans (zBd H2' j));have hbW8:=hbW75.trans (hb8.mono hbW75.size);have hq8:=Nat.lt_of_lt_of_le hq75 hb8.size;have hq8':=Nat.lt_of_lt_of_le hq75' hb8.size;have hO8':=hO8.mono hbW75.size;have hl8:=(zBi l75 12 src).trans hl75;generalize zBq l75 12 src=l8 at*;clear hb8 hO75 hO75' hbW75;have b6:=zBd H2' 6
   simp at b6
   go_wp2_with fail;refine(zCq _ l8 _ dst _ (by omega) hO8.rd hds).mono ?_;rintro e w9 ⟨a9,rfl,hO9,hb9⟩;rw[hl8]at hO9;have H1':=zAd (fun j=>(hb9.cell (p:=⟨w1.heap.size,j,none⟩) hq8).trans (zBd H1' j));have H2':=zAd (fun j=>(hb9.cell (p:=⟨w.heap.size,j,none⟩) hq8').trans (zBd H2' j));have hbW9:=hbW8.trans (hb9.mono hbW8.size);have hq9:=Nat.lt_of_lt_of_le hq8 hb9.size;have hq9':=Nat.lt_of_lt_of_le hq8' hb9.size;have hO9':=hO9.mono hbW8.size;have hl9:=(zBi l8 16 dst).trans hl8;generalize zBq l8 16 dst=l9 at*;clear hb9 hO8 hO8' hbW8;go_wp2_with fail;rw[←HD.out]at hO9 hl9;refine(zD4 _ dd hBd (by omega) _ hO9.rd).mono ?_;rintro e w10 ⟨rfl,hb10⟩;have hO10:=hO9.below hb10 (Nat.le_refl _);have hbW10:=hbW9.trans (hb10.mono hbW9.size);clear HD;go_wp2_with fail;refine(zB6 _ dd _ (Mt.cks dd) _ (by omega) hO10.rd hcb).mono ?_;rintro e w11 ⟨a11,rfl,hO11,hb11⟩;rw[hld]at hO11;go_wp2
   go_ret
   exact⟨_,rfl,by rw[HR.out];exact hO11.mono hbW10.size,hbW10.trans (hb11.mono hbW10.size)⟩
theorem app_nil {P:Program} (w:World)(t ty e:TypeId)(i:TypeInfo)(ht:P.underlying t=some (.slice e))(hi:P.info? e=some i)(g n:Nat):(Builtin.append_ #[t,t] ty #[.slice (some ⟨g,0,none⟩) n n,.slice none 0 0]).run P w= .ok (.slice (some ⟨g,0,none⟩) n n) w:=by
 simp[Builtin.append_,run_underlying ht,sizeOf,typeInfo,hi,Builtin.lenOf,Builtin.firstCells,storeCells]
theorem zE2 {P:Program} (w:World)(t ty:TypeId)(base:Nat)(i:TypeInfo)(ht:P.underlying t=some (.slice 5))(hi:P.info? 5=some i)(hz:i.zero=some (.int .u8 0))(hsize:i.size=1)(hby:i.bytes=1)
  (a:Option Addr)(n:Nat)(ys:List Int)(hO:Ow base w (.slice a n n) ys)(hne:0<ys.length)
  (n₀:Nat)(sx:Value)(zs:List Int)(hI:Rd n₀ w sx zs)(hbd:ys.length+zs.length≤140737488355328)(hbase:base≤w.heap.size):
  ∃v' w',(Builtin.append_ #[t,t] ty #[.slice a n n,sx]).run P w= .ok v' w'∧Ow base w' v' (ys++zs)∧Below w.heap.size w w':=by
 obtain⟨g,rfl,rfl,hg,hcf,_⟩:=hO.at hne;rcases hI with⟨ao,cap,rfl,rfl,hm,hn⟩|⟨b,off,cap,rfl,hze,hl,hm,hb,hc⟩
 ·refine ⟨.slice (some ⟨g,0,none⟩) ys.length ys.length,w,?_,by rw[List.append_nil];exact hO,Below.refl _ _⟩
  cases ao with
  |none=>
   obtain rfl:=hn rfl;exact app_nil w t ty 5 i ht hi g _
  |some ad=>
   have:=run_append_room_cells (P:=P) w t ty 5 i ht hi g 0 ys.length ys.length ad 0 cap [] (by simp) (fun j u hj=>by simp at hj) (fun u hu=>by simp at hu) (by omega) (fun j hj=>by simp at hj) (fun j hj=>by simp at hj);exact this
 ·have hz0:0<zs.length:=by cases zs with|nil=>exact absurd rfl hze|cons _ _=>simp
  obtain⟨v',w',hr,h2,h3⟩:=run_append_arg_grows (P:=P) w t ty 5 i (.int .u8 0) 1 1 ht hi hz hsize hby rfl (by decide) ⟨g,0,none⟩ ys.length ys.length (ys.map (Value.int .u8)) (by simp)
   (fun j u hj=>by
    have hj':j<ys.length:=by have:=(List.getElem?_eq_some_iff.1 hj).1;simpa using this
    rw[show (⟨g,0,none⟩:Addr).add j=⟨g,j,none⟩from by unfold Addr.add;split<;>simp_all,(hcf j hj').1,←hj];simp[hj'])
   ⟨b,off,none⟩ zs.length cap (zs.map (Value.int .u8)) (by simp)
   (fun j u hj=>by
    have hj':j<zs.length:=by have:=(List.getElem?_eq_some_iff.1 hj).1;simpa using this
    rw[show (⟨b,off,none⟩:Addr).add j=⟨b,off+j,none⟩from by unfold Addr.add;split<;>simp_all,hc j hj',←hj];simp[hj'])
   (by omega) (by unfold maxLen;omega) (by omega)
  rw[←List.map_append]at h2;exact⟨v',w',hr,(Ow.of_row h2).mono hbase,(Below.refl _ w).grown h3 (Nat.le_refl _) (fun _ e=>by cases e)⟩
theorem zEj(tos id ttl proto src dst:Int)(keep:Bool)(so sd:Value)(zo zd:List Int)(w:World)(hBo:Mt.By zo)(hIo:Rd w.heap.size w so zo)(hId:Rd w.heap.size w sd zd)
  (hlo:zo.length≤40)(hlm:zo.length % 4=0)(hall:20+zo.length+zd.length≤65535)(ht:0≤tos∧tos≤255)(hid:0≤id∧id≤65535)(htt:0≤ttl∧ttl≤255)(hpr:0≤proto∧proto≤255)(hsr:0≤src∧src≤4294967295)(hds:0≤dst∧dst≤4294967295):
  Calls Tryz.prog 24 #[.agg #[.int .u8 tos,.int .u16 id,.bool keep,.int .u8 ttl,.int .u8 proto,.int .u32 src,.int .u32 dst,so,sd]] w fun e w'=>∃v,e= .returned (.tuple #[v,.int .i64 0])∧Ow w.heap.size w' v (hdr tos id keep ttl proto src dst zo (20+zo.length+zd.length)++zd)∧Below w.heap.size w w':=by
 obtain⟨i0,hi,hz0,hz1,hz2⟩:=info_parts zBt;obtain⟨ao,co,rfl,hl1,hm1⟩:=hIo.slice;obtain⟨ad,cd,rfl,hl2,hm2⟩:=hId.slice;have hbox:Below w.heap.size w (w.alloc (.cells #[.int .u8 tos,.int .u16 id,.bool keep,.int .u8 ttl,.int .u8 proto,.int .u32 src,.int .u32 dst,.slice ao zo.length co,.slice ad zd.length cd] 40)):=bA _ _;have hcell:=zDp w #[.int .u8 tos,.int .u16 id,.bool keep,.int .u8 ttl,.int .u8 proto,.int .u32 src,.int .u32 dst,.slice ao zo.length co,.slice ad zd.length cd] 40;have HF:Hid (flt zo.length zd.length=0):=by show _=_;unfold flt;rw[if_neg (by omega),if_neg (by omega)]
 have hlh:(hdr tos id keep ttl proto src dst zo (20+zo.length+zd.length)).length=20+zo.length:=by unfold hdr;rw[zBu,zHi]
 go_enter Tryz.func24,Tryz.ntmps24;go_wp2_with fail;refine(zKb tos id ttl proto src dst keep ao ad zo.length co zd.length cd _ (by omega) (by omega)).mono ?_;rintro e w1 ⟨rfl,hb1⟩;rw[HF.out];have hbc:∀j,w1.cell? ⟨w.heap.size,j,none⟩=#[Value.int .u8 tos,.int .u16 id,.bool keep,.int .u8 ttl,.int .u8 proto,.int .u32 src,.int .u32 dst,.slice ao zo.length co,.slice ad zd.length cd][j]? :=fun j=>(hb1.cell (p:=⟨w.heap.size,j,none⟩) (by simp)).trans (hcell j);have hw1:=hbox.trans (hb1.mono (by simp));have hs1:w.heap.size<w1.heap.size:=by have:=hb1.size;simp at this;omega
 have hIo1:=(hIo.below hw1).mono hw1.size;have hId1:=(hId.below hw1).mono hw1.size;have b0:=hbc 0;have b1:=hbc 1;have b2:=hbc 2;have b3:=hbc 3;have b4:=hbc 4;have b5:=hbc 5;have b6:=hbc 6;have b7:=hbc 7;have b8:=hbc 8
 simp at b0 b1 b2 b3 b4 b5 b6 b7 b8
 clear hcell hbc hbox hb1 HF;go_wp2_with fail
 go_region_law (first
  |(refine zOr rfl (.tmp 11) (.tmp 13) 26 rfl _ _ rfl rfl v5 w5 hrun ?_)
  |(go_simp;go_at_call 66;refine(zQi tos id ttl proto src dst keep _ zo ad zd.length cd w1.drew hBo (hIo1.drew 1) hlo hlm hall ht hid htt hpr hsr hds).mono ?_;rintro e w4 ⟨a4,rfl,hO4,hb4⟩;have c8:w4.cell? ⟨w.heap.size,8,none⟩=some (.slice ad zd.length cd):=(hb4.cell (p:=⟨w.heap.size,8,none⟩) hs1).trans b8;obtain⟨v5,w5,hrun,hO5,hb5⟩:=zE2 (P:=Tryz.prog) w4 26 26 w1.heap.size i0 Tryz.underlying26 hi hz0 hz1 hz2 a4 (20+zo.length) _ hO4 (by omega) w1.heap.size _ zd ((hId1.drew 1).below hb4) (by omega) hb4.size;dsimp only))
 all_goals go_wp2
 all_goals go_ret2
 all_goals
  have hbW:=(zAk hw1 1).trans (hb4.mono hw1.size);exact⟨_,rfl,hO5.mono hw1.size,hbW.trans (hb5.mono hbW.size)⟩
theorem zOs(tos id ttl proto src dst:Int)(keep:Bool)(ao ad:Option Addr)(lo co ld cd:Nat)(w:World)(h1:lo≤140737488355328)(h2:ld≤140737488355328)(hf:flt lo ld≠0):
  Calls Tryz.prog 24 #[.agg #[.int .u8 tos,.int .u16 id,.bool keep,.int .u8 ttl,.int .u8 proto,.int .u32 src,.int .u32 dst,.slice ao lo co,.slice ad ld cd]] w fun e w'=>e= .returned (.tuple #[.slice none 0 0,.int .i64 (flt lo ld)])∧Below w.heap.size w w':=by
 have hbox:Below w.heap.size w (w.alloc (.cells #[.int .u8 tos,.int .u16 id,.bool keep,.int .u8 ttl,.int .u8 proto,.int .u32 src,.int .u32 dst,.slice ao lo co,.slice ad ld cd] 40)):=bA _ _;have hf':(flt lo ld !=0)=true:=by simp[hf]
 go_enter Tryz.func24,Tryz.ntmps24;go_wp2_with fail;refine(zKb tos id ttl proto src dst keep ao ad lo co ld cd _ h1 h2).mono ?_;rintro e w1 ⟨rfl,hb1⟩;clear hf;go_wp2
 go_ret2
 exact⟨rfl,hbox.trans (hb1.mono (by simp))⟩
set_option linter.unusedVariables false
section
variable {P:Program} {ops:Array Oper} {Q:Exit→Act→World→Prop} {md:Region.Mode} {R:World→World→Prop}
def zF4 (P:Program) (R:World→World→Prop) (w:World) (v:Value):Result Next→Prop
 | .ok (.value u) w'=>R w w'∧u=v
 | .ok .skip w'=>R w w'∧v=undef
 | .ok (.enter f args) w'=>w'=w∧Calls P f args w (fun e w''=>e= .returned v∧R w w'')
 |_=>False
def GivesR (P:Program) (ops:Array Oper) (R:World→World→Prop) (o:Oper) (v:Value) (a:Act) (w:World):Prop:=
 (Region.wanted o (yielded ops a.tmps)=true∧∀w',R w w'→zF4 P R w' v ((execOp a.eval o).run P w'))∨
 (Region.wanted o (yielded ops a.tmps)=false∧v=undef)
theorem GivesR.of_same {o:Oper} {v:Value} {a a':Act} {w:World} (hy:GivesR P ops R o v a w)(he:execOp a'.eval o=execOp a.eval o)
  (hw:Region.wanted o (yielded ops a'.tmps)=Region.wanted o (yielded ops a.tmps)):GivesR P ops R o v a' w:=by
 unfold GivesR at*;rw[he,hw];exact hy
theorem GivesR.up {o:Oper} {v:Value} {a:Act} {w w':World} (ht:∀a b c,R a b→R b c→R a c)(hy:GivesR P ops R o v a w)(h:R w w'):GivesR P ops R o v a w':=
 hy.imp (fun⟨h1,h2⟩=>⟨h1,fun w'' h'=>h2 w'' (ht _ _ _ h h')⟩) id
theorem GivesR.wpOp {i:Nat} {o:Oper} {v:Value} {a:Act} {w:World} (hr:∀a,R a a)(hi:ops[i]? =some o)(hy:GivesR P ops R o v a w)
  {K:Act→World→Prop} {w':World} (hS:R w w')(h:∀w'',R w' w''→K (a.put o.dst v) w''):Go.wpOp P ops Q i K a w':=by
 unfold Go.wpOp;simp only[hi];rcases hy with⟨hw,hv⟩|⟨hw,rfl⟩
 ·simp only[hw,if_true]
  refine .inl ?_;have h3:=hv w' hS;unfold Oper.wp;generalize (execOp a.eval o).run P w'=r at*;cases r with
  |ok n w''=>
   cases n<;>simp only[zF4]at h3<;>simp only[Oper.upon]
   case value u=>obtain⟨e1,rfl⟩:=h3;exact h _ e1
   case skip=>obtain⟨e1,rfl⟩:=h3;exact h _ e1
   case enter f args=>obtain⟨rfl,hc⟩:=h3;exact hc.mono fun e w3 ⟨he,hw3⟩=>by subst he;exact h _ hw3
  |halt x w''=>simp only[zF4]at h3
 ·simp only[hw,Bool.false_eq_true,if_false];exact h _ (hr _)
def zA2 (P:Program) (md:Region.Mode) (ops:Array Oper) (Q:Exit→Act→World→Prop) (R:World→World→Prop):Nat→Array Bool→Act→World→Prop
 |0,listed,a,w=>Region.ready md ops listed=[]∧∀w',R w w'→Q .normal a w'
 |fuel+1,listed,a,w=>
  (Region.ready md ops listed=[]→∀w',R w w'→Q .normal a w')∧
  ∀i∈Region.ready md ops listed,∀w',R w w'→wpOp P ops Q i (fun a' w''=>R w' w''∧zA2 P md ops Q R fuel (listed.setIfInBounds i true) a' w'') a w'
theorem zKc(ht:∀a b c,R a b→R b c→R a c) {w w':World} (h:R w w'):∀(fuel:Nat) (listed:Array Bool) (a:Act),zA2 P md ops Q R fuel listed a w→zA2 P md ops Q R fuel listed a w'
 |0,_,_,H=>⟨H.1,fun w'' h'=>H.2 w'' (ht _ _ _ h h')⟩
 |_+1,_,_,H=>⟨fun h0 w'' h'=>H.1 h0 w'' (ht _ _ _ h h'),fun i hi w'' h'=>H.2 i hi w'' (ht _ _ _ h h')⟩
theorem zHj(hr:∀a,R a a):∀(fuel:Nat) (listed:Array Bool) (a:Act) (w:World),zA2 P md ops Q R fuel listed a w→wpAny P md ops Q fuel listed a w
 |0,_,_,_,h=>⟨h.1,h.2 _ (hr _)⟩
 |fuel+1,_,_,_,h=>⟨fun h0=>h.1 h0 _ (hr _),fun i hi=>wpOp_mono (fun a' w' h'=>zHj hr fuel _ a' w' h'.2) (h.2 i hi _ (hr _))⟩
theorem zSl {j:Nat} {oi oj:Oper} {v:Value} (hj:ops[j]? =some oj)(hap:oi.apart ops oj=true)
  (hsi:∀cs b,oi.op≠ .select cs b)(hsj:∀cs b,oj.op≠ .select cs b)
  (hQ:∀c a w,Q (.panic c) (a.put oi.dst v) w→Q (.panic c) a w) {K:Act→World→Prop} {a:Act} {w w₀:World}
  (hy:GivesR P ops R oi v a w₀)(h:wpOp P ops Q j K (a.put oi.dst v) w):
  wpOp P ops Q j (fun a' w'=>GivesR P ops R oi v a' w₀∧K (a'.put oi.dst v) w') a w:=by
 obtain⟨h1,h2,h3⟩:=Oper.apart_spec hap
 have keep:∀(a:Act),GivesR P ops R oi v a w₀→∀u,GivesR P ops R oi v (a.put oj.dst u) w₀:=fun a hy u=>
  hy.of_same (execOp_put oi hsi a oj.dst u h3) (wanted_put oi a oj.dst u h3)
 have keepD:∀d,GivesR P ops R oi v { a with defers:=d::a.defers } w₀:=fun d=>hy.of_same rfl rfl;unfold wpOp at*;simp only[hj]at*;rw[wanted_put oj a oi.dst v h1]at h;split
 ·rename_i hw
  simp only[hw,if_true]at h;rcases h with h|⟨hasks,hlets⟩
  case inr=>exact .inr ⟨by unfold Oper.asks at*;rw[execOp_put oj hsj a oi.dst v h1]at hasks;exact hasks,hlets⟩
  refine .inl ?_;unfold Oper.wp at*;rw[execOp_put oj hsj a oi.dst v h1]at h;generalize (execOp a.eval oj).run P w=r at*;cases r with
  | ok n w'=>
   cases n<;>simp only[Oper.upon]at h⊢
   case value u=>exact⟨keep a hy u,by rw[←Act.put_comm a v u h2];exact h⟩
   case skip=>exact⟨keep a hy _,by rw[←Act.put_comm a v undef h2];exact h⟩
   case defer d=>
    refine⟨keep _ (keepD d) _,?_⟩;rw[←Act.put_comm _ v undef h2,←Act.put_defers];exact h
   case enter f args=>
    refine Calls.mono h fun e w'' he=> ?_;cases e with
    |returned u=>exact⟨keep a hy u,by rw[←Act.put_comm a v u h2];exact he⟩
    |panicked c=>exact hQ _ _ _ he
    |outgrown=>exact he
   case row row args=>exact Rows.mono h fun u w'' he=>⟨keep a hy u,by rw[←Act.put_comm a v u h2];exact he⟩
  |halt x w'=>
   cases x<;>simp only[Oper.upon]at h⊢
   case panic u=>exact hQ _ _ _ h
 ·rename_i hw
  simp only[hw]at h;exact⟨keep a hy _,by rw[←Act.put_comm a v undef h2];exact h⟩
theorem zCi(hre:∀a,R a a)(ht:∀a b c,R a b→R b c→R a c) {i:Nat} {oi:Oper} {v:Value} (hi:ops[i]? =some oi)(hsel:∀(j:Nat) (o:Oper) cs b,ops[j]? =some o→o.op≠ .select cs b)
  (hQ:∀c a w,Q (.panic c) (a.put oi.dst v) w→Q (.panic c) a w):
  ∀(fuel:Nat) (listed:Array Bool) (a:Act) (w:World),
   (∀j oj,ops[j]? =some oj→j≠i→listed.getD j true=false→(∀e∈oj.after,Region.binds md e=true→e.on≠i)→oi.apart ops oj=true)→
   i∈Region.ready md ops listed→GivesR P ops R oi v a w→
   zA2 P md ops Q R fuel (listed.setIfInBounds i true) (a.put oi.dst v) w→zA2 P md ops Q R (fuel+1) listed a w:=by
 intro fuel
 induction fuel with
 | zero=>
  intro listed a w _ hr hy H
  refine⟨fun h=>(by rw[h]at hr;cases hr),fun j hj w' hw'=> ?_⟩;by_cases hji:j=i
  ·subst hji;exact hy.wpOp hre hi hw' (fun w'' h''=>⟨h'',zKc ht (ht _ _ _ hw' h'') _ _ _ H⟩)
  ·have:=ready_mono hj hji
   rw[H.1]at this;cases this
 | succ fuel ih=>
  intro listed a w hfree hr hy H
  refine⟨fun h=>(by rw[h]at hr;cases hr),fun j hj w' hw'=> ?_⟩;by_cases hji:j=i
  ·subst hji;exact hy.wpOp hre hi hw' (fun w'' h''=>⟨h'',zKc ht (ht _ _ _ hw' h'') _ _ _ H⟩)
  ·have h1:=H.2 j (ready_mono hj hji) w' hw'
   obtain⟨hjun,oj,hoj,hall⟩:=mem_ready.1 hj
   have hnot:∀e∈oj.after,Region.binds md e=true→e.on≠i:=fun e he hb heq=>by
    have h1:=hall e he hb;have h0:=(mem_ready.1 hr).1;rw[heq]at h1;rcases Nat.lt_or_ge i listed.size with h'|h'
    ·simp[h']at h0 h1;rw[h0]at h1;cases h1
    ·simp[Array.getElem?_eq_none h']at h1
   have h2:=zSl hoj (hfree j oj hoj hji hjun hnot) (fun cs b=>hsel i oi cs b hi) (fun cs b=>hsel j oj cs b hoj) hQ hy h1
   have hfree':∀k ok,ops[k]? =some ok→k≠i→(listed.setIfInBounds j true).getD k true=false→
     (∀e∈ok.after,Region.binds md e=true→e.on≠i)→oi.apart ops ok=true:=fun k ok hk hki hun hno=>by
    refine hfree k ok hk hki ?_ hno;by_cases hjk:j=k
    ·subst hjk;exact hjun
    ·rw[getD_set_ne true hjk]at hun;exact hun
   refine wpOp_mono (fun a' w'' h3=>⟨h3.2.1,ih (listed.setIfInBounds j true) a' w'' hfree' (ready_mono hr (Ne.symm hji)) (h3.1.up ht (ht _ _ _ hw' h3.2.1)) ?_⟩) h2;rw[Array.setIfInBounds_comm _ _ hji];exact h3.2.2
end
def Later (w w':World):Prop:=Below w.heap.size w w'
theorem Later.refl(w:World):Later w w:=Below.refl _ _
theorem Later.trans {a b c:World} (h:Later a b)(k:Later b c):Later a c:=Below.trans h (k.mono h.size)
theorem Later.cell {a b:World} (h:Later a b) {p:Addr} {v:Value} (hc:a.cell? p=some v):b.cell? p=some v:=(Below.cell h (World.block_lt_of_cell? a p hc)).trans hc
theorem Later.below {n:Nat} {a b c:World} (h:Below n a b)(hn:n≤a.heap.size)(k:Later b c):Below n a c:=h.trans (k.mono (Nat.le_trans hn h.size))
def Pre (R:World→World→Prop):Prop:=(∀a,R a a)∧∀a b c,R a b→R b c→R a c
theorem Later.pre:Pre Later:=⟨Later.refl,fun _ _ _=>Later.trans⟩
theorem Later.drew(w:World):Later w w.drew:=⟨rfl,rfl,rfl,Nat.le_refl _,fun _ _=>rfl⟩
structure But (E:Nat→Prop) (w w':World):Prop where
 os:w'.os=w.os
 tape:w'.tape=w.tape
 output:w'.output=w.output
 size:w.heap.size≤w'.heap.size
 block:∀k,k<w.heap.size→¬E k→w'.heap[k]? =w.heap[k]?
theorem But.pre(E:Nat→Prop):Pre (But E):=⟨fun _=>⟨rfl,rfl,rfl,Nat.le_refl _,fun _ _ _=>rfl⟩,fun _ _ _ h k=>⟨k.os.trans h.os,k.tape.trans h.tape,k.output.trans h.output,Nat.le_trans h.size k.size,fun i hi he=>(k.block i (Nat.lt_of_lt_of_le hi h.size) he).trans (h.block i hi he)⟩⟩
theorem But.refl(E:Nat→Prop)(w:World):But E w w:=(But.pre E).1 w
theorem But.trans {E:Nat→Prop} {a b c:World} (h:But E a b)(k:But E b c):But E a c:=(But.pre E).2 _ _ _ h k
theorem But.of {E:Nat→Prop} {a b:World} (h:Later a b):But E a b:=⟨h.os,h.tape,h.output,h.size,fun i hi _=>h.block i hi⟩
theorem But.below {E:Nat→Prop} {n:Nat} {a b:World} (h:But E a b)(hn:n≤a.heap.size)(hE:∀k,k<n→¬E k):Below n a b:=⟨h.os,h.tape,h.output,h.size,fun i hi=>h.block i (Nat.lt_of_lt_of_le hi hn) (hE i hi)⟩
theorem But.setCell {E:Nat→Prop} {a b:World} (h:But E a b) {p:Addr} (hp:E p.block)(u:Value):But E a (b.setCell p u):=
 ⟨h.os,h.tape,h.output,by simpa[World.setCell]using h.size,fun i hi he=>(Below.heap_setCell b p u i (fun e=>he (e▸hp))).trans (h.block i hi he)⟩
theorem But.cell {E:Nat→Prop} {a b:World} (h:But E a b) {p:Addr} {v:Value} (hc:a.cell? p=some v)(hE:¬E p.block):b.cell? p=some v:=(World.cell?_of_block (w:=a) (h.block p.block (World.block_lt_of_cell? a p hc) hE)).trans hc
def Keep (E:Nat→Prop) (G F:World→Prop) (w w':World):Prop:=But E w w'∧(G w→G w')∧(F w→F w')
theorem Keep.pre(E:Nat→Prop)(G F:World→Prop):Pre (Keep E G F):=⟨fun a=>⟨But.refl E a,id,id⟩,fun _ _ _ h k=>⟨h.1.trans k.1,fun g=>k.2.1 (h.2.1 g),fun g=>k.2.2 (h.2.2 g)⟩⟩
theorem Keep.trans {E:Nat→Prop} {G F:World→Prop} {a b c:World} (h:Keep E G F a b)(k:Keep E G F b c):Keep E G F a c:=(Keep.pre E G F).2 _ _ _ h k
theorem Keep.of {E:Nat→Prop} {G F:World→Prop} {w w':World} (hg:∀w w',Later w w'→G w→G w')(hf:∀w w',Later w w'→F w→F w')(l:Later w w'):Keep E G F w w':=⟨But.of l,hg _ _ l,hf _ _ l⟩
def Wr (n k:Nat) (t:TypeId) (w:World):Prop:=∃cur,w.heap[n]? =some (.cells cur t (0,0))∧cur.size=k
theorem Wr.later {n k:Nat} {t:TypeId} {w w':World} (h:Wr n k t w)(l:Later w w'):Wr n k t w':=by
 obtain⟨cur,h1,h2⟩:=h;exact⟨cur,(l.block n (eS h1)).trans h1,h2⟩
theorem zAh {W:World} {n:Nat} {cur:Array Value} {t:TypeId} (h:W.heap[n]? =some (.cells cur t (0,0)))(j:Nat)(v:Value):(W.setCell ⟨n,j,none⟩ v).heap[n]? =some (.cells (cur.setIfInBounds j v) t (0,0)):=by
 show(W.heap.modify n _)[n]? =_
 rw[Array.getElem?_modify,if_pos rfl,h];rfl
def zAi (W:World) (n:Nat):Nat→List Value→World
 |_,[]=>W
 |j,v::r=>zAi (W.setCell ⟨n,j,none⟩ v) n (j+1) r
theorem zAf {E:Nat→Prop} {n:Nat} (hE:E n):∀(vs:List Value) (j:Nat) (W V:World),But E V W→But E V (zAi W n j vs)
 | [],_,_,_,h=>h
 |v::r,j,W,V,h=>zAf hE r (j+1) _ V (h.setCell (p:=⟨n,j,none⟩) hE v)
theorem zF5 {n:Nat} {t:TypeId} :∀(vs pre post:List Value) (W:World),W.heap[n]? =some (.cells (pre++post).toArray t (0,0))→post.length=vs.length→(zAi W n pre.length vs).heap[n]? =some (.cells (pre++vs).toArray t (0,0))
 | [],pre,post,W,h,hl=>by
  have:post=[]:=List.length_eq_zero_iff.1 hl;subst this;exact h
 |v::r,pre,[],W,h,hl=>by simp at hl
 | v::r,pre,p::post,W,h,hl=>by
  have h1:=zAh h pre.length v
  have e:((pre++p::post).toArray.setIfInBounds pre.length v)=((pre++[v])++post).toArray:=by
   simp
  rw[e]at h1;have:=zF5 r (pre++[v]) post _ h1 (by simpa using hl);simpa[zAi]using this
theorem zAe {n:Nat} {t:TypeId} {W:World} {cur:Array Value} (vs:List Value)(h:W.heap[n]? =some (.cells cur t (0,0)))(hl:cur.size=vs.length):(zAi W n 0 vs).heap[n]? =some (.cells vs.toArray t (0,0)):=by
 have:=zF5 vs [] cur.toList W (by simpa using h) (by simpa using hl);simpa using this
theorem zC9 {P:Program} {o:Oper} {a:Act} {w:World} {K:Act→World→Prop} {Q:Exit→Act→World→Prop} (s x:Operand)(t:TypeId)(hop:o.op=Op.call { callee:=Callee.builtin Builtin.append,args:=#[s,x],argTypes:=#[t,t] })
  (v sx:Value)(hs:a.eval s=v)(hx:a.eval x=sx)(v':Value)(w':World)(hrun:(Builtin.append_ #[t,t] o.type #[v,sx]).run P w= .ok v' w')(hK:K (a.put o.dst v') w'):o.wp P a w K Q:=by
 unfold Oper.wp;simp[execOp,hop,resolve,invoke,builtin,hs,hx,hrun,Result.andThen]
 exact hK
theorem zAj {P:Program} {o:Oper} {a:Act} {w:World} {K:Act→World→Prop} {Q:Exit→Act→World→Prop} (f:FuncId)(args:Array Value)(h:(execOp a.eval o).run P w= .ok (.enter f args) w)
  (hc:Calls P f args w fun| .returned v,w''=>K (a.put o.dst v) w''| .panicked c,w''=>Q (.panic c) a w''| .outgrown,_=>LetsOut Q):o.wp P a w K Q:=by
 unfold Oper.wp;rw[h];exact hc
theorem zC2 {P:Program} {o:Oper} {a:Act} {w w':World} {K:Act→World→Prop} {Q:Exit→Act→World→Prop} (v:Value)(h:(execOp a.eval o).run P w= .ok (.value v) w')
  (hk:K (a.put o.dst v) w'):o.wp P a w K Q:=by
 unfold Oper.wp;rw[h];exact hk
def zBp:List Oper→Nat→Option Oper
 | [],_=>none
 |o::_,0=>some o
 |_::r,n+1=>zBp r n
theorem zA6:∀(l:List Oper) (i:Nat),zBp l i=l[i]?
 | [],_=>rfl
 |_::_,0=>rfl
 |_::r,n+1=>by rw[zBp,zA6 r n];rfl
section
variable {P:Program} {l:List Oper} {Q:Exit→Act→World→Prop} {fuel:Nat} {listed:Array Bool} {a:Act} {w:World} {R:World→World→Prop}
theorem zAq(hp:Pre R)(i:Nat) {oi:Oper} (v:Value)(hi:zBp l i=some oi)
  (hs:Region.noSelect l.toArray=true)(hf:Region.free .any l.toArray listed i=true)(hr:(Region.ready .any l.toArray listed).contains i=true)
  (hQ:∀c a w,Q (.panic c) (a.put oi.dst v) w→Q (.panic c) a w)(hg:oi.guard=none)
  (hy:∀w',R w w'→zF4 P R w' v ((execOp a.eval oi).run P w'))
  (h:zA2 P .any l.toArray Q R fuel (listed.setIfInBounds i true) (a.put oi.dst v) w):zA2 P .any l.toArray Q R (fuel+1) listed a w:=by
 have hi':l.toArray[i]? =some oi:=by rw[←hi,zA6];simp
 exact zCi hp.1 hp.2 hi' (Region.noSelect_spec hs) hQ fuel listed a w (Region.free_spec hi' hf) (by simpa using hr) (.inl ⟨by simp[Region.wanted,hg],hy⟩) h
theorem zIr(hp:Pre R) {v:Value} {r:Result Next} {w':World} (h:r= .ok (.value v) w'):zF4 P R w' v r:=by rw[h];exact⟨hp.1 _,rfl⟩
theorem zAo {v:Value} {r:Result Next} {w':World} (f:FuncId)(args:Array Value)(h:r= .ok (.enter f args) w')(hc:Calls P f args w' fun e w''=>e= .returned v∧R w' w''):zF4 P R w' v r:=by rw[h];exact⟨rfl,hc⟩
theorem zOt(hp:Pre R)(i:Nat) {oi:Oper} (hi:zBp l i=some oi)
  (hs:Region.noSelect l.toArray=true)(hf:Region.free .any l.toArray listed i=true)(hr:(Region.ready .any l.toArray listed).contains i=true)
  (hQ:∀v c a w,Q (.panic c) (a.put oi.dst v) w→Q (.panic c) a w)(hg:oi.guard=none)
  (h:∃v,(∀w',R w w'→(execOp a.eval oi).run P w'= .ok (.value v) w')∧zA2 P .any l.toArray Q R fuel (listed.setIfInBounds i true) (a.put oi.dst v) w):zA2 P .any l.toArray Q R (fuel+1) listed a w:=
 let⟨v,h1,h2⟩:=h
 zAq hp i v hi hs hf hr (hQ v) hg (fun w' hw'=>zIr hp (h1 w' hw')) h2
theorem rV(hp:Pre R)(i:Nat) {oi:Oper} (hi:zBp l i=some oi)(hg:oi.guard=none)
  (h:∃v,(∀w',R w w'→(execOp a.eval oi).run P w'= .ok (.value v) w')∧zA2 P .any l.toArray Q R fuel (listed.setIfInBounds i true) (a.put oi.dst v) w)
  (hs:Region.noSelect l.toArray=true:=by kernel_rfl)(hf:Region.free .any l.toArray listed i=true:=by kernel_rfl)(hr:(Region.ready .any l.toArray listed).contains i=true:=by kernel_rfl)
  (hQ:∀v c a w,Q (.panic c) (a.put oi.dst v) w→Q (.panic c) a w:=by intro _ _ _ _ h;exact h):zA2 P .any l.toArray Q R (fuel+1) listed a w:=zOt hp i hi hs hf hr hQ hg h
theorem zAn(hp:Pre R)(hd:∀w:World,R w w.drew) {id:Nat} (n:Nat)(hn:l.length=n)(hm:P.follows .mixedOrders=true)
  (h:∀w₁,R w w₁→zA2 P .any l.toArray Q R n (Array.replicate n false) a w₁):(Code.region id l.toArray true).wp P Q a w:=by
 subst hn;refine wp_region_any hm (zHj hp.1 _ _ _ _ ?_);have:=h { w with drawn:=w.drawn+1 } (hd w);simpa using this
theorem zDb(hr:Region.ready .any l.toArray listed=[])(h:∀w',R w w'→Q .normal a w'):zA2 P .any l.toArray Q R fuel listed a w:=by
 cases fuel with
 |zero=>exact⟨hr,h⟩
 |succ n=>exact⟨fun _=>h,by rw[hr];simp⟩
theorem anyR_one(i:Nat) {oi:Oper} (hi:zBp l i=some oi)(hr:Region.ready .any l.toArray listed=[i])(gi:oi.guard=none)
  (h1:∀w',R w w'→oi.wp P a w' (fun a' w''=>R w' w''∧zA2 P .any l.toArray Q R fuel (listed.setIfInBounds i true) a' w'') Q):
  zA2 P .any l.toArray Q R (fuel+1) listed a w:=by
 have hi':l.toArray[i]? =some oi:=by rw[←hi,zA6];simp
 refine⟨fun h0=>(by rw[hr]at h0;cases h0),fun k hk w' hw'=> ?_⟩;rw[hr]at hk;unfold wpOp;obtain rfl:k=i:=by simpa using hk
 rw[hi'];simp only[Region.wanted,gi];exact .inl (h1 w' hw')
theorem rX(hp:Pre R)(i:Nat) {oi:Oper} {v:Value} {p:Prop} (h:p)(hi:zBp l i=some oi:=by exact rfl)(hg:oi.guard=none:=by exact rfl)(h1:∀w',R w w'→(execOp a.eval oi).run P w'= .ok (.value v) w':=by intro v h;go_simp;rfl)(hn:zA2 P .any l.toArray Q R fuel (listed.setIfInBounds i true) (a.put oi.dst v) w=p:=by conv=>lhs;simp only[Act.put,sA,sB,sC])(hs:Region.noSelect l.toArray=true:=by kernel_rfl)(hf:Region.free .any l.toArray listed i=true:=by kernel_rfl)(hr:(Region.ready .any l.toArray listed).contains i=true:=by kernel_rfl)(hQ:∀v c a w,Q (.panic c) (a.put oi.dst v) w→Q (.panic c) a w:=by intro _ _ _ _ h;first|exact h|cases h.1):zA2 P .any l.toArray Q R (fuel+1) listed a w:=zOt hp i hi hs hf hr hQ hg ⟨v,h1,Eq.mpr hn h⟩
theorem rO(i:Nat) {oi:Oper} (h1:∀w',R w w'→oi.wp P a w' (fun a' w''=>R w' w''∧zA2 P .any l.toArray Q R fuel (listed.setIfInBounds i true) a' w'') Q)(hi:zBp l i=some oi:=by exact rfl)(hr:Region.ready .any l.toArray listed=[i]:=by kernel_rfl)(gi:oi.guard=none:=by exact rfl):zA2 P .any l.toArray Q R (fuel+1) listed a w:=anyR_one i hi hr gi h1
theorem rD(h:∀w',R w w'→Q .normal a w')(hr:Region.ready .any l.toArray listed=[]:=by kernel_rfl):zA2 P .any l.toArray Q R fuel listed a w:=zDb hr h
end
set_option linter.unusedSimpArgs false
abbrev rfs (c:Int):Value:= .iface 260 (.agg #[.int .i64 c])
abbrev rfp (c:Int):List PanicEntry:=[{ v:=rfs c,recovered:=false }]
theorem zA7(c:Int)(w:World):
  Calls Tryz.prog 129 #[.bool false,.int .i64 c] w fun e w'=>e= .returned (.tuple #[])∧w=w':=by
 go_enter Tryz.func129,Tryz.ntmps129;go_wp2
 go_end0
 exact⟨rfl,rfl⟩
theorem zA9(c:Int)(w:World):
  Calls Tryz.prog 129 #[.bool true,.int .i64 c] w fun e w'=>e= .panicked (rfp c)∧w=w':=by
 go_enter Tryz.func129,Tryz.ntmps129;go_wp2
 exact⟨rfl,rfl,rfl⟩
def hl4 (zs:List Int):Int:=zs[0]?.getD 0 % 16*4
def msr (zs:List Int):Int:=
 if zs.length<20 then 3 else if zs[0]?.getD 0/16≠4 then 6 else if hl4 zs<20 then 4 else if(zs.length:Int)<hl4 zs then 3 else if wat zs 2<hl4 zs then 4 else 0
theorem and15(x:Int)(h:0≤x∧x≤255):bits .and .u8 x 15=x % 16:=by
 rw[u8_and x 15 h.1 (by omega) (by omega) (by omega)];have:x.toNat &&& (15:Int).toNat=x.toNat % 16:=Nat.and_two_pow_sub_one_eq_mod x.toNat 4;omega
theorem hl4_bd {zs:List Int} (h:Mt.By zs):0≤hl4 zs∧hl4 zs≤60:=by have:=h.at 0;unfold hl4;omega
theorem zL3(n₀ rb:Nat)(x y:Int)(sv:Value)(zs:List Int)(w:World)(hB:Mt.By zs)(hl:zs.length≤225000000000000)(hI:Rd n₀ w sv zs)(hn:n₀≤rb)
  (c0:w.cell? ⟨rb,0,none⟩=some (.int .i64 x))(c1:w.cell? ⟨rb,1,none⟩=some (.int .i64 y))(c2:w.cell? ⟨rb,2,none⟩=some sv)(f0:w.frozen? ⟨rb,0,none⟩=false)(f1:w.frozen? ⟨rb,1,none⟩=false):
  Calls Tryz.prog 128 #[.pointer (some ⟨rb,0,none⟩)] w fun e w'=>Below rb w w'∧
   ((msr zs≠0∧e= .panicked (rfp (msr zs)))∨(msr zs=0∧e= .returned (.tuple #[])∧w'.cell? ⟨rb,0,none⟩=some (.int .i64 (hl4 zs))∧w'.cell? ⟨rb,1,none⟩=some (.int .i64 (wat zs 2))∧w'.cell? ⟨rb,2,none⟩=some sv∧w'.frozen? ⟨rb,1,none⟩=false)):=by
 obtain⟨a,cap,rfl,hl1,hm1⟩:=hI.slice;have hrb:rb≤w.heap.size:=Nat.le_of_lt (World.block_lt_of_cell? w ⟨rb,0,none⟩ c0);have HM:Hid (msr zs=if zs.length<20 then 3 else if zs[0]?.getD 0/16≠4 then 6 else if hl4 zs<20 then 4 else if(zs.length:Int)<hl4 zs then 3 else if wat zs 2<hl4 zs then 4 else 0):=rfl;generalize msr zs=m at*;go_enter Tryz.func128,Tryz.ntmps128;go_wp2_with fail;by_cases h1:zs.length<20
 ·rw[show decide ((zs.length:Int)<20)=true from by simp;omega]
  refine(zA9 3 _).mono ?_;rintro e w' ⟨rfl,rfl⟩;have:=HM.out;rw[if_pos h1]at this;subst this;exact⟨rfl,Below.refl _ _,.inl ⟨by omega,rfl⟩⟩
 rw[show decide ((zs.length:Int)<20)=false from by simp;omega];refine(zA7 3 _).mono ?_;rintro e w' ⟨rfl,rfl⟩;obtain⟨b,off,cap',e',_,_,hb,hc⟩:=hI.cells (by omega);cases e'
 have d0:=hc 0 (by omega);have b0:=hB.at 0;have hlz:(0:Int)<zs.length:=by omega
 rw[Nat.add_zero]at d0;go_wp2_with fail;by_cases h2:zs[0]?.getD 0/16≠4
 ·rw[show (zs[0]?.getD 0/16 !=4)=true from by simpa using h2]
  refine(zA9 6 _).mono ?_;rintro e w' ⟨rfl,rfl⟩;have:=HM.out;rw[if_neg h1,if_pos h2]at this;subst this;exact⟨rfl,Below.refl _ _,.inl ⟨by omega,rfl⟩⟩
 rw[show (zs[0]?.getD 0/16 !=4)=false from by simpa using h2];refine(zA7 6 _).mono ?_;rintro e w' ⟨rfl,rfl⟩;have hand:bits .and .u8 (zs[0]?.getD 0) 15=zs[0]?.getD 0 % 16:=and15 _ b0;have HH:Hid (hl4 zs=zs[0]?.getD 0 % 16*4):=rfl;have hh:=hl4_bd hB;have hk1:Below rb w (w.setCell ⟨rb,0,none⟩ (.int .i64 (zs[0]?.getD 0 % 16*4))):=(Below.refl _ _).setCell (p:=⟨rb,0,none⟩) (Nat.le_refl _) _;have k0:(w.setCell ⟨rb,0,none⟩ (.int .i64 (zs[0]?.getD 0 % 16*4))).cell? ⟨rb,0,none⟩=some (.int .i64 (zs[0]?.getD 0 % 16*4)):=World.cell?_setCell_same _ _ _ c0;have k1:(w.setCell ⟨rb,0,none⟩ (.int .i64 (zs[0]?.getD 0 % 16*4))).cell? ⟨rb,1,none⟩=some (.int .i64 y):=(World.cell?_setCell_other _ _ _ _ (by simp)).trans c1;have k2:(w.setCell ⟨rb,0,none⟩ (.int .i64 (zs[0]?.getD 0 % 16*4))).cell? ⟨rb,2,none⟩=some (.slice (some ⟨b,off,none⟩) zs.length cap):=(World.cell?_setCell_other _ _ _ _ (by simp)).trans c2;have g1:(w.setCell ⟨rb,0,none⟩ (.int .i64 (zs[0]?.getD 0 % 16*4))).frozen? ⟨rb,1,none⟩=false:=by simpa using f1
 go_wp2_with fail;rw[←HH.out]at*;generalize w.setCell ⟨rb,0,none⟩ (.int .i64 (hl4 zs))=W1 at*;refine(zA4 _ zs hB 2 (by omega) W1 (hI.below (hk1.mono hn))).mono ?_;rintro e w2 ⟨rfl,q,rfl⟩;have hw2:=zCp hB 2;generalize hnn:wat zs 2=nn at*;have HN:=zAd hnn;clear hnn;have hk2:Below rb w ((W1.drewN q).setCell ⟨rb,1,none⟩ (.int .i64 nn)):=(zAk hk1 q).setCell (p:=⟨rb,1,none⟩) (Nat.le_refl _) _;have l0:((W1.drewN q).setCell ⟨rb,1,none⟩ (.int .i64 nn)).cell? ⟨rb,0,none⟩=some (.int .i64 (hl4 zs)):=(World.cell?_setCell_other _ _ _ _ (by simp)).trans k0;have l1:((W1.drewN q).setCell ⟨rb,1,none⟩ (.int .i64 nn)).cell? ⟨rb,1,none⟩=some (.int .i64 nn):=World.cell?_setCell_same _ _ _ (show(W1.drewN q).cell? ⟨rb,1,none⟩=some _ from k1);have l2:((W1.drewN q).setCell ⟨rb,1,none⟩ (.int .i64 nn)).cell? ⟨rb,2,none⟩=some (.slice (some ⟨b,off,none⟩) zs.length cap):=(World.cell?_setCell_other _ _ _ _ (by simp)).trans k2;have m1:((W1.drewN q).setCell ⟨rb,1,none⟩ (.int .i64 nn)).frozen? ⟨rb,1,none⟩=false:=by rw[World.frozen?_setCell];exact g1
 go_wp2_with fail;generalize (W1.drewN q).setCell ⟨rb,1,none⟩ (.int .i64 nn)=W2 at*;clear k0 k1 k2 g1 hk1 c0 c1 c2 f0 f1 d0 hand;by_cases h3:hl4 zs<20
 ·rw[show decide (hl4 zs<20)=true from by simpa using h3]
  refine(zA9 4 _).mono ?_;rintro e w' ⟨rfl,rfl⟩;have:=HM.out;rw[if_neg h1,if_neg h2,if_pos h3]at this;subst this;exact⟨rfl,hk2,.inl ⟨by omega,rfl⟩⟩
 rw[show decide (hl4 zs<20)=false from by simpa using h3];refine(zA7 4 _).mono ?_;rintro e w' ⟨rfl,rfl⟩;go_wp2_with fail;refine zAn Later.pre Later.drew 12 rfl (by kernel_rfl) (fun W4 hL4=> ?_);have q0:∀w1,Later W4 w1→w1.cell? ⟨rb,0,none⟩=some (.int .i64 (hl4 zs)):=fun w1 h=>(hL4.trans h).cell l0;have q2:∀w1,Later W4 w1→w1.cell? ⟨rb,2,none⟩=some (.slice (some ⟨b,off,none⟩) zs.length cap):=fun w1 h=>(hL4.trans h).cell l2;refine rX Later.pre 0 ?_;refine rX Later.pre 1 ?_;refine rX Later.pre 2 ?_;refine rX Later.pre 3 ?_;refine rX Later.pre 4 ?_;refine rX Later.pre 5 ?_;refine rX Later.pre 6 ?_;refine rX Later.pre 7 ?_;refine rX Later.pre 8 ?_;refine rX Later.pre 9 ?_;refine rX Later.pre 10 ?_;refine rO 11 (fun W5 hL5=> ?_);have hk5:Below rb w W5:=Later.below hk2 hrb (hL4.trans hL5);by_cases h4:(zs.length:Int)<hl4 zs
 ·refine zAj 129 #[.bool true,.int .i64 3] (by go_simp) ((zA9 3 _).mono ?_)
  rintro e w' ⟨rfl,rfl⟩;have:=HM.out;rw[if_neg h1,if_neg h2,if_neg (by omega),if_pos h4]at this;subst this;exact⟨rfl,hk5,.inl ⟨by omega,rfl⟩⟩
 refine zAj 129 #[.bool false,.int .i64 3] (by go_simp) ((zA7 3 _).mono ?_);rintro e w' ⟨rfl,rfl⟩;refine⟨Later.refl _,zDb (by kernel_rfl) (fun W6 hL6=> ?_)⟩;simp only[Act.put,sA,sB,sC];have hL7:=(hL4.trans hL5).trans hL6;clear q0 q2;go_wp2_with fail;refine zAn Later.pre Later.drew 12 rfl (by kernel_rfl) (fun W8 hL8=> ?_);have q0:∀w1,Later W8 w1→w1.cell? ⟨rb,0,none⟩=some (.int .i64 (hl4 zs)):=fun w1 h=>((hL7.trans hL8).trans h).cell l0;have q2:∀w1,Later W8 w1→w1.cell? ⟨rb,1,none⟩=some (.int .i64 nn):=fun w1 h=>((hL7.trans hL8).trans h).cell l1;refine rX Later.pre 0 ?_;refine rX Later.pre 1 ?_;refine rX Later.pre 2 ?_;refine rX Later.pre 3 ?_;refine rX Later.pre 4 ?_;refine rX Later.pre 5 ?_;refine rX Later.pre 6 ?_;refine rX Later.pre 7 ?_;refine rX Later.pre 8 ?_;refine rX Later.pre 9 ?_;refine rX Later.pre 10 ?_;refine rO 11 (fun W9 hL9=> ?_);have hL10:=(hL7.trans hL8).trans hL9;have hk9:Below rb w W9:=Later.below hk2 hrb hL10;by_cases h5:nn<hl4 zs
 ·refine zAj 129 #[.bool true,.int .i64 4] (by go_simp) ((zA9 4 _).mono ?_)
  rintro e w' ⟨rfl,rfl⟩;have:=HM.out;rw[if_neg h1,if_neg h2,if_neg (by omega),if_neg (by omega),if_pos h5]at this;subst this;exact⟨rfl,hk9,.inl ⟨by omega,rfl⟩⟩
 refine zAj 129 #[.bool false,.int .i64 4] (by go_simp) ((zA7 4 _).mono ?_);rintro e w' ⟨rfl,rfl⟩;refine⟨Later.refl _,zDb (by kernel_rfl) (fun W11 hL11=> ?_)⟩;simp only[Act.put,sA,sB,sC];have hL12:=hL10.trans hL11;go_end0
 have:=HM.out;rw[if_neg h1,if_neg h2,if_neg (by omega),if_neg (by omega),if_neg h5]at this;refine⟨hk9.trans (hL11.mono (Nat.le_trans hrb hk9.size)),.inr ⟨this,rfl,hL12.cell l0,(hL12.cell l1).trans (by rw[HN.out]),hL12.cell l2,?_⟩⟩;exact(Below.frozen hL12 (p:=⟨rb,1,none⟩) (World.block_lt_of_cell? _ ⟨rb,1,none⟩ l1)).trans m1
def chk (zs:List Int):Int:=
 if Mt.cks (zs.take (hl4 zs).toNat)≠0 then 5 else if wat zs 6 % 16384≠0 then 7 else if 32768≤wat zs 6 then 4 else 0
theorem and14(x:Int)(h:0≤x∧x≤65535):bits .and .u16 x 16383=x % 16384:=by
 rw[u16_and x 16383 h.1 (by omega) (by omega) (by omega)];have:x.toNat &&& (16383:Int).toNat=x.toNat % 16384:=Nat.and_two_pow_sub_one_eq_mod x.toNat 14;omega
theorem zSm(n k:Nat):n &&& 2^k=if n/2^k % 2=1 then 2^k else 0:=by
 apply Nat.eq_of_testBit_eq
 intro i
 rw[Nat.testBit_and,Nat.testBit_two_pow];by_cases h:k=i
 ·subst h
  rw[Nat.testBit_eq_decide_div_mod_eq];split<;>simp_all
 ·split<;>simp[h,Nat.testBit_two_pow]
theorem and_top(x:Int)(h:0≤x∧x≤65535):bits .and .u16 x 32768=if 32768≤x then 32768 else 0:=by
 rw[u16_and x 32768 h.1 (by omega) (by omega) (by omega)];have:=zSm x.toNat 15
 simp at this
 simp
 rw[this];split<;>split<;>omega
theorem and_keep(x:Int)(h:0≤x∧x≤65535):bits .and .u16 x 16384=if 16384≤x % 32768 then 16384 else 0:=by
 rw[u16_and x 16384 h.1 (by omega) (by omega) (by omega)];have:=zSm x.toNat 14
 simp at this
 simp
 rw[this];split<;>split<;>omega
theorem zF6(rb:Nat)(sv:Value)(zs:List Int)(w:World)(hB:Mt.By zs)(hl:zs.length≤225000000000000)(hI:Rd w.heap.size w sv zs)(h20:20≤hl4 zs)(hle:hl4 zs≤zs.length)
  (c0:w.cell? ⟨rb,0,none⟩=some (.int .i64 (hl4 zs)))(c2:w.cell? ⟨rb,2,none⟩=some sv):
  Calls Tryz.prog 130 #[.pointer (some ⟨rb,0,none⟩)] w fun e w'=>Later w w'∧((chk zs≠0∧e= .panicked (rfp (chk zs)))∨(chk zs=0∧e= .returned (.tuple #[]))):=by
 obtain⟨a,cap,rfl,hl1,hm1⟩:=hI.slice;have HM:Hid (chk zs=if Mt.cks (zs.take (hl4 zs).toNat)≠0 then 5 else if wat zs 6 % 16384≠0 then 7 else if 32768≤wat zs 6 then 4 else 0):=rfl;generalize chk zs=m at*;have hff:=zCp hB 6;have ha1:=and14 _ hff;have ha2:=and_top _ hff;obtain⟨k,hk⟩:=Int.eq_ofNat_of_zero_le (show 0≤hl4 zs by omega);have hk60:k≤60:=by have:=hl4_bd hB;omega
 rw[hk]at h20 hle c0 HM;clear hk;simp only[Int.toNat_natCast]at HM;go_enter Tryz.func130,Tryz.ntmps130;go_wp2_with fail;refine(zA4 _ zs hB 6 (by omega) w hI).mono ?_;rintro e w2 ⟨rfl,q,rfl⟩;generalize wat zs 6=ff at*;go_wp2_with fail;refine zAn Later.pre Later.drew 13 rfl (by kernel_rfl) (fun W4 hL4=> ?_);have hw4:Later w W4:=Later.trans (zAk (Later.refl w) q) hL4;have q0:∀w1,Later W4 w1→w1.cell? ⟨rb,0,none⟩=some (.int .i64 k):=fun w1 h=>(hw4.trans h).cell c0;have q2:∀w1,Later W4 w1→w1.cell? ⟨rb,2,none⟩=some (.slice a zs.length cap):=fun w1 h=>(hw4.trans h).cell c2;have hkc:(k:Int)≤cap:=by omega
 refine rX Later.pre 0 ?_;refine rX Later.pre 1 ?_;refine rX Later.pre 2 ?_;refine rX Later.pre 3 ?_;refine rX Later.pre 4 ?_;refine rX Later.pre 5 ?_;refine rX Later.pre 6 ?_;refine rX Later.pre 7 ?_;refine rX Later.pre 8 ?_;refine rX Later.pre 9 ?_;refine zAq Later.pre 10 (.bool (Mt.cks (zs.take k)==0)) rfl (by kernel_rfl) (by kernel_rfl) (by kernel_rfl) (fun _ _ _ h=>h) rfl (fun w1 hw1=>zAo 132 #[.slice a k cap] (by go_simp) ?_) ?_
 ·exact (zEg _ (zs.take k) (hB.take _) (by simp;omega) w1 (((hI.take k (by omega)).below (hw4.trans hw1)).mono (hw4.trans hw1).size)).mono fun e w' ⟨he,hb⟩=>⟨he,hb⟩
 simp only[Act.put,sA,sB,sC];cases hg:(Mt.cks (zs.take k)==0)
 ·refine rX Later.pre 11 ?_
  refine rO 12 (fun W5 hL5=> ?_);refine zAj 129 #[.bool true,.int .i64 5] (by go_simp) ((zA9 5 _).mono ?_);rintro e w' ⟨rfl,rfl⟩;have:=HM.out;rw[if_pos (by simpa using hg)]at this;subst this;exact⟨rfl,hw4.trans hL5,.inl ⟨by omega,rfl⟩⟩
 refine rX Later.pre 11 ?_;refine rO 12 (fun W5 hL5=> ?_);refine zAj 129 #[.bool false,.int .i64 5] (by go_simp) ((zA7 5 _).mono ?_);rintro e w' ⟨rfl,rfl⟩;refine⟨Later.refl _,zDb (by kernel_rfl) (fun W6 hL6=> ?_)⟩;simp only[Act.put,sA,sB,sC];have hw6:=(hw4.trans hL5).trans hL6;have h1:¬Mt.cks (zs.take k)≠0:=by simpa using hg
 clear q0 q2 hL4 hL5 hL6 hg;go_wp2_with fail;by_cases h2:ff % 16384≠0
 ·rw[show (ff % 16384 !=0)=true from by simpa using h2]
  refine(zA9 7 _).mono ?_;rintro e w' ⟨rfl,rfl⟩;have:=HM.out;rw[if_neg h1,if_pos h2]at this;subst this;exact⟨rfl,hw6,.inl ⟨by omega,rfl⟩⟩
 rw[show (ff % 16384 !=0)=false from by simpa using h2];refine(zA7 7 _).mono ?_;rintro e w' ⟨rfl,rfl⟩;by_cases h3:32768≤ff
 ·rw[if_pos h3]at ha2
  go_wp2_with fail;refine(zA9 4 _).mono ?_;rintro e w' ⟨rfl,rfl⟩;have:=HM.out;rw[if_neg h1,if_neg h2,if_pos h3]at this;subst this;exact⟨rfl,hw6,.inl ⟨by omega,rfl⟩⟩
 rw[if_neg h3]at ha2;go_wp2_with fail;refine(zA7 4 _).mono ?_;rintro e w' ⟨rfl,rfl⟩;go_wp2
 go_end0
 have:=HM.out;rw[if_neg h1,if_neg h2,if_neg (by omega)]at this;exact⟨hw6,.inr ⟨this,rfl⟩⟩
theorem zAv(zs:List Int)(k:Nat)(p v:Int)(hp:p=(k:Int))(hk:k+1<zs.length):zBl zs p v=Mt.put2 zs k v:=by
 subst hp;unfold zBl;rw[if_pos (by omega),Int.toNat_natCast]
theorem zDq(zs:List Int)(k:Nat)(p v:Int)(hp:p=(k:Int))(hk:k+3<zs.length):zBq zs p v=zLw zs k v:=by
 subst hp;unfold zBq;rw[if_pos (by omega),Int.toNat_natCast]
def h20 (tos id:Int) (keep:Bool) (ttl proto src dst:Int) (lo:Nat) (all s:Int):List Int:=
 [64+(20+(lo:Int))/4,tos,all/256,all % 256,id/256,id % 256,if keep then 64 else 0,0,ttl,proto,s/256,s % 256,
  src/65536/256,src/65536 % 256,src % 65536/256,src % 65536 % 256,dst/65536/256,dst/65536 % 256,dst % 65536/256,dst % 65536 % 256]
theorem hd0_eq(tos id:Int)(keep:Bool)(ttl proto src dst:Int)(zo:List Int)(all:Int):hd0 tos id keep ttl proto src dst zo all=h20 tos id keep ttl proto src dst zo.length all 0++zo:=by
 unfold hd0 hd1;have e:List.replicate 20 (0:Int)++zo=0::0::0::0::0::0::0::0::0::0::0::0::0::0::0::0::0::0::0::0::zo:=rfl;rw[e];cases keep
 ·rw[if_neg (by simp),zAv _ 2 2 _ rfl (by simp),zAv _ 4 4 _ rfl (by simp[Mt.put2_length]),zDq _ 12 12 _ rfl (by simp[Mt.put2_length]),zDq _ 16 16 _ rfl (by simp[Mt.put2_length,zB5])]
  simp[Mt.put2,zLw,h20]
 ·rw[if_pos rfl,zAv _ 2 2 _ rfl (by simp),zAv _ 4 4 _ rfl (by simp[Mt.put2_length]),zAv _ 6 6 _ rfl (by simp[Mt.put2_length]),zDq _ 12 12 _ rfl (by simp[Mt.put2_length]),zDq _ 16 16 _ rfl (by simp[Mt.put2_length,zB5])]
  simp[Mt.put2,zLw,h20]
def hsum (tos id:Int) (keep:Bool) (ttl proto src dst:Int) (zo:List Int) (all:Int):Int:=Mt.cks (h20 tos id keep ttl proto src dst zo.length all 0++zo)
theorem zCr(tos id:Int)(keep:Bool)(ttl proto src dst:Int)(zo:List Int)(all:Int):hdr tos id keep ttl proto src dst zo all=h20 tos id keep ttl proto src dst zo.length all (hsum tos id keep ttl proto src dst zo all)++zo:=by
 unfold hdr hsum;rw[hd0_eq];generalize Mt.cks (h20 tos id keep ttl proto src dst zo.length all 0++zo)=s;unfold h20;rw[zAv _ 10 10 _ rfl (by simp)];simp[Mt.put2]
theorem zDr(tos id:Int)(keep:Bool)(ttl proto src dst:Int)(lo:Nat)(all s:Int):(h20 tos id keep ttl proto src dst lo all s).length=20:=rfl
theorem h20_tw(tos id:Int)(keep:Bool)(ttl proto src dst:Int)(lo:Nat)(all s:Int):Mt.tw true (h20 tos id keep ttl proto src dst lo all s)=Mt.tw true (h20 tos id keep ttl proto src dst lo all 0)+s:=by
 unfold h20;simp only[Mt.tw];omega
theorem h20_by(tos id:Int)(keep:Bool)(ttl proto src dst:Int)(lo:Nat)(all s:Int)(hl:lo≤40)(ht:0≤tos∧tos≤255)(hid:0≤id∧id≤65535)(htt:0≤ttl∧ttl≤255)(hpr:0≤proto∧proto≤255)(hsr:0≤src∧src≤4294967295)(hds:0≤dst∧dst≤4294967295)(hal:0≤all∧all≤65535)(hs:0≤s∧s≤65535):Mt.By (h20 tos id keep ttl proto src dst lo all s):=by
 have hk:0≤(if keep then(64:Int)else 0)∧(if keep then(64:Int)else 0)≤255:=by split<;>omega
 unfold h20;intro z hz
 simp only[List.mem_cons,List.not_mem_nil,or_false]at hz;rcases hz with h|h|h|h|h|h|h|h|h|h|h|h|h|h|h|h|h|h|h|h<;>subst h<;>first|exact hk|omega
theorem hdr_good(tos id:Int)(keep:Bool)(ttl proto src dst:Int)(zo:List Int)(all:Int)(hB:Mt.By (h20 tos id keep ttl proto src dst zo.length all 0++zo)):Mt.cks (hdr tos id keep ttl proto src dst zo all)=0:=by
 rw[zCr];have h0:=Mt.tw_nonneg true _ hB
 have e1:Mt.tw true (h20 tos id keep ttl proto src dst zo.length all (hsum tos id keep ttl proto src dst zo all)++zo)=Mt.tw true (h20 tos id keep ttl proto src dst zo.length all 0++zo)+hsum tos id keep ttl proto src dst zo all:=by
  rw[Mt.tw_append,Mt.tw_append,h20_tw,zDr,zDr];omega
 have e2:hsum tos id keep ttl proto src dst zo all=65535-Mt.fd (Mt.tw true (h20 tos id keep ttl proto src dst zo.length all 0++zo)):=rfl;show 65535-Mt.fd _=0
 rw[e1,e2,Mt.fd_good _ h0];omega
theorem zIs(tos id:Int)(keep:Bool)(ttl proto src dst:Int)(zo:List Int)(all:Int):(hdr tos id keep ttl proto src dst zo all).length=20+zo.length:=by
 rw[zCr,List.length_append,zDr]
theorem zOu(tos id:Int)(keep:Bool)(ttl proto src dst:Int)(zo zd:List Int)(all:Int):wat (hdr tos id keep ttl proto src dst zo all++zd) 2=all:=by
 rw[zCr];unfold wat h20;simp;omega
theorem hdr_wat4(tos id:Int)(keep:Bool)(ttl proto src dst:Int)(zo zd:List Int)(all:Int):wat (hdr tos id keep ttl proto src dst zo all++zd) 4=id:=by
 rw[zCr];unfold wat h20;simp;omega
theorem zOv(tos id:Int)(keep:Bool)(ttl proto src dst:Int)(zo zd:List Int)(all:Int):wat (hdr tos id keep ttl proto src dst zo all++zd) 6=if keep then 16384 else 0:=by
 rw[zCr];unfold wat h20;cases keep<;>simp
theorem hdr_src(tos id:Int)(keep:Bool)(ttl proto src dst:Int)(zo zd:List Int)(all:Int):zAs (hdr tos id keep ttl proto src dst zo all++zd) 12=src:=by
 rw[zCr];unfold zAs wat h20;simp;omega
theorem hdr_dst(tos id:Int)(keep:Bool)(ttl proto src dst:Int)(zo zd:List Int)(all:Int):zAs (hdr tos id keep ttl proto src dst zo all++zd) 16=dst:=by
 rw[zCr];unfold zAs wat h20;simp;omega
def pkt (zs:List Int) (so sd:Value):Value:=
 .agg #[.int .u8 (zs[1]?.getD 0),.int .u16 (wat zs 4),.bool (decide (16384≤wat zs 6 % 32768)),.int .u8 (zs[8]?.getD 0),.int .u8 (zs[9]?.getD 0),.int .u32 (zAs zs 12),.int .u32 (zAs zs 16),so,sd]
theorem Rd.drop {n₀:Nat} {A:World} {a:Option Addr} {len cap:Nat} {zs:List Int} (k:Nat)(hk:k≤len)(h:Rd n₀ A (.slice a len cap) zs):Rd n₀ A (sliced a k len cap 1) (zs.drop k):=by
 rcases h with⟨a',cap',e,hz,hm,hn⟩|⟨b,off,cap',e,hne,hl,hm,hb,hc⟩
 ·cases e
  obtain rfl:k=0:=by omega
  subst hz;cases a with
  |none=>exact .inl ⟨none,cap,by simp[sliced],by simp,hm,hn⟩
  |some x=>exact .inl ⟨if cap=0 then some x else(some x).map (·.add (0*1)),cap,by simp[sliced],by simp,hm,fun h=>by split at h<;>simp at h⟩
 ·cases e
  by_cases h0:k=zs.length
  ·subst h0
   exact .inl ⟨if cap=zs.length then some ⟨b,off,none⟩else(some (⟨b,off,none⟩:Addr)).map (·.add (zs.length*1)),cap-zs.length,by simp[sliced],by simp,by omega,fun h=>by split at h<;>simp at h⟩
  ·refine .inr ⟨b,off+k,cap-k,?_,?_,by simp;omega,by omega,hb,fun j hj=> ?_⟩
   ·simp[sliced]
    rw[if_neg (by omega)];unfold Addr.add;split<;>simp_all
   ·intro e
    have:=congrArg List.length e
    simp at this
    omega
   ·have hj':k+j<zs.length:=by simp at hj;omega
    rw[Nat.add_assoc,hc (k+j) hj'];simp
theorem Rd.cutAt {n₀:Nat} {A:World} {b off len cap:Nat} {zs:List Int} (k:Nat)(hk:k≤len)(h:Rd n₀ A (.slice (some ⟨b,off,none⟩) len cap) zs):
  Rd n₀ A (.slice (if cap=k then some ⟨b,off,none⟩else some ⟨b,off+k,none⟩) (len-k) (cap-k)) (zs.drop k):=by
 have:=h.drop k hk;by_cases hk0:k=0
 ·subst hk0
  simpa[sliced,Addr.add]using this
 ·simpa[sliced,Addr.add,hk0]using this
theorem Ow.but {base:Nat} {E:Nat→Prop} {W W':World} {sv:Value} {zs:List Int} (h:Ow base W sv zs)(hb:But E W W')(hE:∀b,base≤b→¬E b):Ow base W' sv zs:=by
 rcases h with h|⟨g,cap,cur,e,hg,h1,h2,h3,h4,h5⟩
 ·exact .inl h
 ·exact .inr ⟨g,cap,cur,e,hg,h1,h2,h3,(hb.block g (eS h4) (hE g hg)).trans h4,h5⟩
def Fin (n₀:Nat) (zs:List Int) (k n:Nat) (w:World):Prop:=
 ∃so sd,w.heap[n₀]? =some (.cells #[.int .u8 (zs[1]?.getD 0),.int .u16 (wat zs 4),.bool (decide (16384≤wat zs 6 % 32768)),.int .u8 (zs[8]?.getD 0),.int .u8 (zs[9]?.getD 0),.int .u32 (zAs zs 12),.int .u32 (zAs zs 16),so,sd] 40 (0,0))∧
  Ow (n₀+1) w so ((zs.take k).drop 20)∧Ow (n₀+1) w sd ((zs.take n).drop k)
theorem Fin.later {n₀:Nat} {zs:List Int} {k n:Nat} {w w':World} (l:Later w w')(h:Fin n₀ zs k n w):Fin n₀ zs k n w':=by
 obtain⟨so,sd,h1,h2,h3⟩:=h;exact⟨so,sd,(l.block n₀ (eS h1)).trans h1,h2.below l (Nat.le_refl _),h3.below l (Nat.le_refl _)⟩
theorem KO {E:Nat→Prop} {n₀ k n:Nat} {zs:List Int} {t:TypeId} {w w':World} (l:Later w w'):Keep E (Wr n₀ 9 t) (Fin n₀ zs k n) w w':=Keep.of (fun _ _ l h=>h.later l) (fun _ _ l h=>h.later l) l
theorem zE3(rb:Nat)(sv:Value)(zs:List Int)(k n:Nat)(w:World)(hB:Mt.By zs)(hl:zs.length≤225000000000000)(hI:Rd w.heap.size w sv zs)(h20:20≤k)(hkn:k≤n)(hle:n≤zs.length)(h16:n≤65535)
  (c0:w.cell? ⟨rb,0,none⟩=some (.int .i64 k))(c1:w.cell? ⟨rb,1,none⟩=some (.int .i64 n))(c2:w.cell? ⟨rb,2,none⟩=some sv):
  Calls Tryz.prog 131 #[.pointer (some ⟨rb,0,none⟩)] w fun e w'=>∃so sd,e= .returned (pkt zs so sd)∧Ow w.heap.size w' so ((zs.take k).drop 20)∧Ow w.heap.size w' sd ((zs.take n).drop k)∧Later w w':=by
 obtain⟨i0,hi,hz0,hz1,hz2⟩:=info_parts zBt;obtain⟨b,off,cap,rfl,hl1,hm1,hb,hc⟩:=hI.cells (by omega);have d1:=hc 1 (by omega);have d8:=hc 8 (by omega);have d9:=hc 9 (by omega);have hff:=zCp hB 6;have ha:=and_keep _ hff;have HP:∀so sd,Hid (pkt zs so sd= .agg #[.int .u8 (zs[1]?.getD 0),.int .u16 (wat zs 4),.bool (decide (16384≤wat zs 6 % 32768)),.int .u8 (zs[8]?.getD 0),.int .u8 (zs[9]?.getD 0),.int .u32 (zAs zs 12),.int .u32 (zAs zs 16),so,sd]):=fun _ _=>rfl;have hne:(bits .and .u16 (wat zs 6) 16384 !=0)=decide (16384≤wat zs 6 % 32768):=by rw[ha];by_cases h:16384≤wat zs 6 % 32768<;>simp[h]
 clear ha;have hrb:rb<w.heap.size:=World.block_lt_of_cell? w ⟨rb,0,none⟩ c0;go_enter Tryz.func131,Tryz.ntmps131;go_wp2_with fail;refine zAn (R:=Keep (fun b=>b=w.heap.size) (Wr w.heap.size 9 40) (Fin w.heap.size zs k n)) (Keep.pre _ _ _) (fun w=>KO (Later.drew w)) 42 rfl (by kernel_rfl) (fun W1 hW1=> ?_);have hbel:∀w1,Keep (fun b=>b=w.heap.size) (Wr w.heap.size 9 40) (Fin w.heap.size zs k n) W1 w1→Below w.heap.size w w1:=fun w1 h=>((Below.refl w.heap.size w).alloc (Nat.le_refl _) _).trans ((hW1.trans h).1.below (by simp) (fun k hk e=>by omega));have hr1:∀w1,Keep (fun b=>b=w.heap.size) (Wr w.heap.size 9 40) (Fin w.heap.size zs k n) W1 w1→Rd w.heap.size w1 (.slice (some ⟨b,off,none⟩) zs.length cap) zs:=fun w1 h=>hI.below (hbel w1 h);have q0:∀w1,Keep (fun b=>b=w.heap.size) (Wr w.heap.size 9 40) (Fin w.heap.size zs k n) W1 w1→w1.cell? ⟨rb,0,none⟩=some (.int .i64 k):=fun w1 h=>((hbel w1 h).cell (p:=⟨rb,0,none⟩) hrb).trans c0;have q1:∀w1,Keep (fun b=>b=w.heap.size) (Wr w.heap.size 9 40) (Fin w.heap.size zs k n) W1 w1→w1.cell? ⟨rb,1,none⟩=some (.int .i64 n):=fun w1 h=>((hbel w1 h).cell (p:=⟨rb,1,none⟩) hrb).trans c1;have e1:∀w1,Keep (fun b=>b=w.heap.size) (Wr w.heap.size 9 40) (Fin w.heap.size zs k n) W1 w1→w1.cell? ⟨b,off+1,none⟩=some (.int .u8 (zs[1]?.getD 0)):=fun w1 h=>((hbel w1 h).cell (p:=⟨b,off+1,none⟩) hb).trans d1
 have e8:∀w1,Keep (fun b=>b=w.heap.size) (Wr w.heap.size 9 40) (Fin w.heap.size zs k n) W1 w1→w1.cell? ⟨b,off+8,none⟩=some (.int .u8 (zs[8]?.getD 0)):=fun w1 h=>((hbel w1 h).cell (p:=⟨b,off+8,none⟩) hb).trans d8;have e9:∀w1,Keep (fun b=>b=w.heap.size) (Wr w.heap.size 9 40) (Fin w.heap.size zs k n) W1 w1→w1.cell? ⟨b,off+9,none⟩=some (.int .u8 (zs[9]?.getD 0)):=fun w1 h=>((hbel w1 h).cell (p:=⟨b,off+9,none⟩) hb).trans d9;clear d1 d8 d9 c0 c1 c2;have i9:(9:Int)<zs.length:=by omega
 have i8:(8:Int)<zs.length:=by omega
 have i1:(1:Int)<zs.length:=by omega
 have hkc:k≤cap:=by omega
 have hnc:n≤cap:=by omega
 have i20:(20:Int)≤k:=by omega
 have ikn:(k:Int)≤n:=by omega
 have inc:(n:Int)≤cap:=by omega
 generalize gz1:zs[1]?.getD 0=z1 at*;have G1:=zAd gz1;clear gz1;generalize gz8:zs[8]?.getD 0=z8 at*;have G8:=zAd gz8;clear gz8;generalize gz9:zs[9]?.getD 0=z9 at*;have G9:=zAd gz9;clear gz9;refine rX (Keep.pre _ _ _) 0 ?_;refine rX (Keep.pre _ _ _) 1 ?_;refine rX (Keep.pre _ _ _) 2 ?_;refine rX (Keep.pre _ _ _) 3 ?_;refine zAq (Keep.pre _ _ _) 4 (.int .u16 (wat zs 4)) rfl (by kernel_rfl) (by kernel_rfl) (by kernel_rfl) (fun _ _ _ h=>h) rfl (fun w1 hw1=>zAo 39 #[.slice (some ⟨b,off,none⟩) zs.length cap,.int .i64 4] (by go_simp) ?_) ?_
 ·exact (zA4 _ zs hB 4 (by omega) w1 (hr1 w1 hw1)).mono fun e w' ⟨he,q,hw⟩=>⟨he,KO (by rw[hw];exact zAk (Later.refl w1) q)⟩
 simp only[Act.put,sA,sB,sC];refine rX (Keep.pre _ _ _) 5 ?_;refine zAq (Keep.pre _ _ _) 6 (.int .u16 (wat zs 6)) rfl (by kernel_rfl) (by kernel_rfl) (by kernel_rfl) (fun _ _ _ h=>h) rfl (fun w1 hw1=>zAo 39 #[.slice (some ⟨b,off,none⟩) zs.length cap,.int .i64 6] (by go_simp) ?_) ?_
 ·exact (zA4 _ zs hB 6 (by omega) w1 (hr1 w1 hw1)).mono fun e w' ⟨he,q,hw⟩=>⟨he,KO (by rw[hw];exact zAk (Later.refl w1) q)⟩
 simp only[Act.put,sA,sB,sC];refine rX (Keep.pre _ _ _) 7 ?_;refine zAq (Keep.pre _ _ _) 8 (.bool (decide (16384≤wat zs 6 % 32768))) rfl (by kernel_rfl) (by kernel_rfl) (by kernel_rfl) (fun _ _ _ h=>h) rfl (fun w1 hw1=>zIr (Keep.pre _ _ _) (by rw[←hne];go_simp)) ?_;simp only[Act.put,sA,sB,sC];refine rX (Keep.pre _ _ _) 9 ?_;refine rX (Keep.pre _ _ _) 10 ?_;refine rX (Keep.pre _ _ _) 11 ?_;refine rX (Keep.pre _ _ _) 12 ?_;refine rX (Keep.pre _ _ _) 13 ?_;refine rX (Keep.pre _ _ _) 14 ?_;refine rX (Keep.pre _ _ _) 15 ?_;refine zAq (Keep.pre _ _ _) 16 (.int .u32 (zAs zs 12)) rfl (by kernel_rfl) (by kernel_rfl) (by kernel_rfl) (fun _ _ _ h=>h) rfl (fun w1 hw1=>zAo 70 #[.slice (some ⟨b,off,none⟩) zs.length cap,.int .i64 12] (by go_simp) ?_) ?_
 ·exact (zCh _ zs hB 12 (by omega) w1 (hr1 w1 hw1)).mono fun e w' ⟨he,q,hw⟩=>⟨he,KO (by rw[hw];exact zAk (Later.refl w1) q)⟩
 simp only[Act.put,sA,sB,sC];refine rX (Keep.pre _ _ _) 17 ?_;refine zAq (Keep.pre _ _ _) 18 (.int .u32 (zAs zs 16)) rfl (by kernel_rfl) (by kernel_rfl) (by kernel_rfl) (fun _ _ _ h=>h) rfl (fun w1 hw1=>zAo 70 #[.slice (some ⟨b,off,none⟩) zs.length cap,.int .i64 16] (by go_simp) ?_) ?_
 ·exact (zCh _ zs hB 16 (by omega) w1 (hr1 w1 hw1)).mono fun e w' ⟨he,q,hw⟩=>⟨he,KO (by rw[hw];exact zAk (Later.refl w1) q)⟩
 simp only[Act.put,sA,sB,sC];refine rX (Keep.pre _ _ _) 19 ?_;refine rX (Keep.pre _ _ _) 20 ?_;refine rX (Keep.pre _ _ _) 21 ?_;refine rX (Keep.pre _ _ _) 22 ?_;refine rX (Keep.pre _ _ _) 23 ?_;refine rX (Keep.pre _ _ _) 24 ?_;refine rX (Keep.pre _ _ _) 25 ?_;refine rX (Keep.pre _ _ _) 27 ?_;refine rX (Keep.pre _ _ _) 28 ?_;refine rX (Keep.pre _ _ _) 29 ?_;refine rX (Keep.pre _ _ _) 30 ?_;refine rX (Keep.pre _ _ _) 31 ?_;refine rX (Keep.pre _ _ _) 32 ?_;refine rX (Keep.pre _ _ _) 33 ?_;refine rX (Keep.pre _ _ _) 34 ?_;refine rX (Keep.pre _ _ _) 35 ?_;refine rX (Keep.pre _ _ _) 36 ?_;refine rX (Keep.pre _ _ _) 37 ?_;refine rX (Keep.pre _ _ _) 38 ?_;have hs25:∀w1,Keep (fun b=>b=w.heap.size) (Wr w.heap.size 9 40) (Fin w.heap.size zs k n) W1 w1→Rd w.heap.size w1 (.slice (if cap=20 then some (⟨b,off,none⟩:Addr)else some ⟨b,off+20,none⟩) (k-20) (cap-20)) ((zs.take k).drop 20):=fun w1 h=>((hr1 w1 h).take k (by omega)).cutAt 20 (by omega);have hs38:∀w1,Keep (fun b=>b=w.heap.size) (Wr w.heap.size 9 40) (Fin w.heap.size zs k n) W1 w1→Rd w.heap.size w1 (.slice (if cap=k then some (⟨b,off,none⟩:Addr)else some ⟨b,off+k,none⟩) (n-k) (cap-k)) ((zs.take n).drop k):=fun w1 h=>((hr1 w1 h).take n (by omega)).cutAt k (by omega);generalize (if cap=20 then some (⟨b,off,none⟩:Addr)else some ⟨b,off+20,none⟩)=ad20 at*;generalize (if cap=k then some (⟨b,off,none⟩:Addr)else some ⟨b,off+k,none⟩)=adk at*;have hs1:w.heap.size<W1.heap.size:=by have:=hW1.1.size;simp at this;omega
 have hg1:Wr w.heap.size 9 40 W1:=hW1.2.1 ⟨_,heap_alloc_new w _,rfl⟩;refine rO 26 (fun W2 hW2=> ?_);have hs2:=Nat.lt_of_lt_of_le hs1 hW2.1.size;obtain⟨v3,W3,hrun3,hown3,hgr3⟩:=zF3 (P:=Tryz.prog) W2 26 26 5 (w.heap.size+1) i0 Tryz.underlying26 hi hz0 hz1 hz2 (.slice none 0 0) [] (World.ownsRow_nil _ _ _ _) w.heap.size _ ((zs.take k).drop 20) (hs25 W2 hW2) (by simp;omega) hs2;have hl3:Later W2 W3:=(Below.refl _ W2).grown hgr3 (Nat.le_refl _) (fun _ e=>by cases e);have hO3:=Ow.of_row hown3;rw[List.nil_append]at hO3;clear hown3 hgr3;obtain⟨a3,cap3,rfl,hq3,hm3⟩:=hO3.slice;refine zC9 (.const (.slice none 0 0)) (.tmp 33) 26 rfl _ _ rfl rfl _ W3 hrun3 ⟨KO hl3,?_⟩;simp only[Act.put,sA,sB,sC];have hW3:=hW2.trans (KO hl3);refine rO 39 (fun W4 hW4=> ?_);have hs4:=Nat.lt_of_lt_of_le hs1 (hW3.trans hW4).1.size;obtain⟨v5,W5,hrun5,hown5,hgr5⟩:=zF3 (P:=Tryz.prog) W4 26 26 5 (w.heap.size+1) i0 Tryz.underlying26 hi hz0 hz1 hz2 (.slice none 0 0) [] (World.ownsRow_nil _ _ _ _) w.heap.size _ ((zs.take n).drop k) (hs38 W4 (hW3.trans hW4)) (by simp;omega) hs4;have hl5:Later W4 W5:=(Below.refl _ W4).grown hgr5 (Nat.le_refl _) (fun _ e=>by cases e);have hO5:=Ow.of_row hown5;rw[List.nil_append]at hO5;clear hown5 hgr5;obtain⟨a5,cap5,rfl,hq5,hm5⟩:=hO5.slice;refine zC9 (.const (.slice none 0 0)) (.tmp 46) 26 rfl _ _ rfl rfl _ W5 hrun5 ⟨KO hl5,?_⟩;simp only[Act.put,sA,sB,sC];have hW5:=(hW3.trans hW4).trans (KO hl5);refine rX (Keep.pre _ _ _) 40 ?_;refine rO 41 (fun W6 hW6=> ?_)
 obtain⟨cur,hcur,hsz⟩:=(hW5.trans hW6).2.1 hg1;have k6:∀j,W6.cell? ⟨w.heap.size,j,none⟩=cur[j]? :=zAa hcur;have f6:∀j,W6.frozen? ⟨w.heap.size,j,none⟩=false:=zAc hcur;unfold Oper.wp;go_simp;have hk3:min k zs.length-20=((zs.take k).drop 20).length:=by simp
 have hk5:n-k=((zs.take n).drop k).length:=by simp;omega
 generalize hV7:World.setCell _ ⟨w.heap.size,8,none⟩ _=V7;have hV8:V7=zAi W6 w.heap.size 0 [.int .u8 z1,.int .u16 (wat zs 4),.bool (decide (16384≤wat zs 6 % 32768)),.int .u8 z8,.int .u8 z9,.int .u32 (zAs zs 12),.int .u32 (zAs zs 16),.slice a3 (min k zs.length-20) cap3,.slice a5 (n-k) cap5]:=hV7.symm;have hb7:But (fun b=>b=w.heap.size) W6 V7:=by rw[hV8];exact zAf (E:=fun b=>b=w.heap.size) (n:=w.heap.size) rfl _ _ _ _ (But.refl _ _)
 have hh7:=zAe [.int .u8 z1,.int .u16 (wat zs 4),.bool (decide (16384≤wat zs 6 % 32768)),.int .u8 z8,.int .u8 z9,.int .u32 (zAs zs 12),.int .u32 (zAs zs 16),.slice a3 (min k zs.length-20) cap3,.slice a5 (n-k) cap5] hcur (by simpa using hsz);rw[←hV8]at hh7;clear hV7 hV8;have hbb:=((hW4.1.trans (But.of hl5)).trans hW6.1).trans hb7
 have hF7:Fin w.heap.size zs k n V7:=by
  refine⟨_,_,?_,hO3.but hbb (fun b h e=>by omega),hO5.but (hW6.1.trans hb7) (fun b h e=>by omega)⟩;rw[G1.out,G8.out,G9.out,←hk3,←hk5];exact hh7
 refine⟨⟨hb7,fun _=>⟨_,hh7,rfl⟩,fun _=>hF7⟩,zDb (by kernel_rfl) (fun W8 hW8=> ?_)⟩;obtain⟨so,sd,hh8,hO7,hO8⟩:=hW8.2.2 hF7;have r8:=zAa hh8;have hlat:Later w W8:=hbel W8 (((hW5.trans hW6).trans ⟨hb7,fun _=>⟨_,hh7,rfl⟩,fun _=>hF7⟩).trans hW8);clear hs25 hs38 hk3 hk5 hF7 hbb hh7 hb7 q0 q1 e1 e8 e9 hr1 hbel;go_wp2_with fail;exact bodyPost_ret (v:=pkt zs so sd) (by simp[results,Tryz.results131,go_sem,r8,pkt]) rfl ⟨so,sd,rfl,hO7.mono (Nat.le_succ _),hO8.mono (Nat.le_succ _),hlat⟩
end Go.Proofs.YteaeilghamjjkaaGreatDoor
