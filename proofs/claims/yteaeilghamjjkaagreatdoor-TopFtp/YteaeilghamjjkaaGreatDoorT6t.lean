import Derived.Test.YteaeilghamjjkaaGreatDoorCards
import Derived.Test.YteaeilghamjjkaaGreatDoorTie
import Derived.WalkKit
import Derived.ProofKit
import Derived.OpenShut
import Derived.PinnedBridge
import Derived.Lib.LaidIn
import Derived.Lib.LaidU8T
import Derived.Deep.DeepHandedRow
import Derived.Lib.LaidTab
import Derived.Lib.TrailingZeros
import Derived.Test.YteaeilghamjjkaaGreatDoorX4
import Derived.Lib.LaidU8
namespace Go.Proofs.YteaeilghamjjkaaGreatDoor
open Go.ChangeShapes Go.WideShapes Go.ChangeAt Go.RowKit Go.Lib Go.Shelf
set_option maxRecDepth 100000
set_option linter.unusedVariables false
def zLt:List (String × DataW Unit):=[("math/bits.deBruijn32tab",Rows.laid_math_bits_deBruijn32tab),("math/bits.deBruijn64tab",Rows.laid_math_bits_deBruijn64tab),("internal/strconv.uint64pow10",Rows.laid_internal_strconv_uint64pow10),("unicode/utf8.acceptRanges",Rows.laid_unicode_utf8_acceptRanges),("lychgate/ctrl.beginnings",Rows.laid_lychgate_ctrl_beginnings),("unicode/utf8.first",Rows.laid_unicode_utf8_first)]
theorem gTabA:Tryz.prog.globalNamed "lychgate/ctrl.beginnings" =some 0:=by kernel_rfl
theorem zWm:(Tryz.prog.globals[0]?).map (·.type)=some 188:=by kernel_rfl
theorem zWn:Tryz.prog.cellsOf 188=16:=by kernel_rfl
theorem zLu:Tryz.prog.cellsOf 167=4:=by kernel_rfl
theorem zHa:Tryz.prog.cellsOf 5=1:=by kernel_rfl
theorem gTabB:Tryz.prog.globalNamed "math/bits.deBruijn64tab" =some 6:=by kernel_rfl
theorem zWo:(Tryz.prog.globals[6]?).map (·.type)=some 441:=by kernel_rfl
theorem zWp:Tryz.prog.cellsOf 441=64:=by kernel_rfl
theorem laidTabB:(Rows.laid_math_bits_deBruijn64tab:DataW Unit)=Lib.tabData .u8 (Lib.deBruijn64tab.map (fun n:Nat=>(n:Int))):=rfl
theorem list16 {α:Type} {l:List α} (h:l.length=16):∃a b c d e f g i j k m n o p q r,l=[a,b,c,d,e,f,g,i,j,k,m,n,o,p,q,r]:=by
 match l,h with
 | [a,b,c,d,e,f,g,i,j,k,m,n,o,p,q,r],_=>exact⟨a,b,c,d,e,f,g,i,j,k,m,n,o,p,q,r,rfl⟩
theorem zNx {W:World} (h:laidMetH Tryz.prog zLt W):Tb W:=by
 have h':laidMet Tryz.prog zLt W:=h;have h3:=laidMet.reads h' (n:= "lychgate/ctrl.beginnings") (d:=Rows.laid_lychgate_ctrl_beginnings) (.tail _ (.tail _ (.tail _ (.tail _ (.head _)))));obtain⟨g',t',cs,fuel,p,hg',ht',hvar,hd⟩:=h3;obtain rfl:=Option.some.inj (gTabA.symm.trans hg');obtain rfl:=Option.some.inj (zWm.symm.trans ht');have hcell:=World.var?_cell gTabA hvar;cases fuel with
 |zero=>simp[DataW.trod]at hd
 | succ fuel=>
  simp only[DataW.trod,Tryz.underlying188,zWn,zLu]at hd;split at hd
  ·rename_i hl
   obtain⟨xs,hm,hx⟩:=Option.map_eq_some_iff.1 hd;have hxs:=congrArg Prod.fst hx;simp only[Rows.laid_lychgate_ctrl_beginnings,DataW.agg.injEq]at hxs
   have row:∀(i:Nat) (zs:List Int),i<4→(xs.map (·.1))[i]? =some (Lib.tabData .u8 zs)→(cs.toList.drop (i*4)).take 4=zs.map fun z=>Value.int .u8 z:=by
    intro i zs hi hz
    obtain⟨b,hb,hf⟩:=Lib.mapM_at hm i i (by simp[hi]);have hb1:b.1=Lib.tabData .u8 zs:=by simpa[hb]using hz
    obtain⟨b1,b2⟩:=b;simp only at hb1;subst hb1;exact Lib.cells_of_tab Tryz.underlying167 Tryz.underlying5 zHa zLu hf
   have r0:=row 0 [32,1,136,11] (by omega) (by rw[hxs];rfl);have r1:=row 1 [48,1,136,11] (by omega) (by rw[hxs];rfl);have r2:=row 2 [32,129,136,11] (by omega) (by rw[hxs];rfl);have r3:=row 3 [48,129,136,11] (by omega) (by rw[hxs];rfl);obtain⟨a,b,c,d,e,f,g,i,j,k,m,n,o,p',q',r,hcs⟩:=list16 (l:=cs.toList) (by simp_all);rw[hcs]at r0 r1 r2 r3
   simp at r0 r1 r2 r3
   have hcs2:cs=#[a,b,c,d,e,f,g,i,j,k,m,n,o,p',q',r]:=by rw[←hcs]
   obtain⟨rfl,rfl,rfl,rfl⟩:=r0;obtain⟨rfl,rfl,rfl,rfl⟩:=r1;obtain⟨rfl,rfl,rfl,rfl⟩:=r2;obtain⟨rfl,rfl,rfl,rfl⟩:=r3;subst hcs2;intro i hi
   rw[hcell i];match i,hi with
   |0,_|1,_|2,_|3,_|4,_|5,_|6,_|7,_|8,_|9,_|10,_|11,_|12,_|13,_|14,_|15,_=>rfl
   |n+16,h=>exact absurd h (by omega)
  ·cases hd
theorem zNy {W:World} (h:laidMetH Tryz.prog zLt W):Dz W:=by
 have h':laidMet Tryz.prog zLt W:=h;have h3:=laidMet.reads h' (n:= "math/bits.deBruijn64tab") (d:=Rows.laid_math_bits_deBruijn64tab) (.tail _ (.head _));obtain⟨g',t',cs,fuel,p,hg',ht',hvar,hd⟩:=h3;obtain rfl:=Option.some.inj (gTabB.symm.trans hg');obtain rfl:=Option.some.inj (zWo.symm.trans ht');have hcell:=World.var?_cell gTabB hvar;rw[laidTabB]at hd;have hcs:=Lib.cells_of_tab Tryz.underlying441 Tryz.underlying5 zHa zWp hd;intro j hj
 have hl:Lib.deBruijn64tab.length=64:=rfl;rw[hcell j,←Array.getElem?_toList,hcs,List.getElem?_map,List.getElem?_map,List.getElem?_eq_getElem (by rw[hl];exact hj)];simp[List.getD,hl,hj]
def u8ren:Ren:=⟨fun n=>n,fun|5=>5|119=>434|138=>436|139=>437|n=>n,fun|3=>3|4=>4|n=>n⟩
theorem u8types:U8Types Tryz.prog u8ren:= { t5:=Tryz.underlying5,t119:=Tryz.underlying434,t138:=Tryz.underlying436,t139:=Tryz.underlying437 }
theorem u8extra:U8Extra Tryz.prog u8ren:=⟨by kernel_rfl,by kernel_rfl,by kernel_rfl,by kernel_rfl,by kernel_rfl,by kernel_rfl,by kernel_rfl⟩
theorem pow_ty:(Tryz.prog.globals[2]?).map (·.type)=some 354:=by kernel_rfl
theorem pow_nm:Tryz.prog.globalNamed "internal/strconv.uint64pow10" =some 2:=by kernel_rfl
theorem pow_c1:Tryz.prog.cellsOf 251=1:=by kernel_rfl
theorem pow_c2:Tryz.prog.cellsOf 354=20:=by kernel_rfl
theorem pow_eq:(Rows.laid_internal_strconv_uint64pow10:DataW Unit)=tabData .u64 pow10Tab:=by kernel_rfl
theorem zJ3 {W:World} (h:laidMetH Tryz.prog zLt W):Lib.Utf8Tabs (zDm.g 2) (zDm.g 3) W∧TabI W:=by
 have h':laidMet Tryz.prog zLt W:=h;refine⟨?_,?_⟩
 ·have h3:=laidMet.reads h' (n:= "unicode/utf8.first") (d:=Rows.laid_unicode_utf8_first) (.tail _ (.tail _ (.tail _ (.tail _ (.tail _ (.head _))))))
  have h4:=laidMet.reads h' (n:= "unicode/utf8.acceptRanges") (d:=Rows.laid_unicode_utf8_acceptRanges) (.tail _ (.tail _ (.tail _ (.head _))));rw[show Rows.laid_unicode_utf8_first=firstData from Go.Pinned.utf8First_eq]at h3;rw[show (Rows.laid_unicode_utf8_acceptRanges:DataW Unit)=acceptData by kernel_rfl]at h4;exact utf8Tabs_of_readsT u8types u8extra h3 h4
 ·have h3:=laidMet.reads h' (n:= "internal/strconv.uint64pow10") (d:=Rows.laid_internal_strconv_uint64pow10) (.tail _ (.tail _ (.head _)))
  rw[pow_eq]at h3;obtain⟨g,t,cs,fuel,p,hg,hty,hvar,hd⟩:=h3;obtain rfl:=Option.some.inj (pow_nm.symm.trans hg);obtain rfl:=Option.some.inj (pow_ty.symm.trans hty);have hcs:=cells_of_tab Tryz.underlying354 Tryz.underlying251 pow_c1 pow_c2 hd;unfold TabI Lib.TabIs;rw[hvar,←hcs]
theorem zFo {W:World} (h:W.ShapedOpen Tryz.prog):∃m:Int,W.cell? ⟨1,0,none⟩=some (.int .i64 m):=by
 obtain⟨cs,hc,hs,hr⟩:=h.1 1 #[.int .i64 0] 3 (by decide+kernel) (by kernel_rfl);obtain⟨ts,hts,_,hcell⟩:=hr (by kernel_rfl);obtain rfl:[3]=ts:=Option.some.inj ((show Tryz.prog.cellTypes Tryz.prog.depth 3=some [3] by kernel_rfl).symm.trans hts);have h1:cs.size=1:=hs;obtain⟨v,hv⟩:∃v,cs[0]? =some v:=⟨cs[0]'(by omega),Array.getElem?_eq_getElem (by omega)⟩;obtain⟨u,hu,hok⟩:=hcell 0 v hv;obtain rfl:3=u:=by simpa using hu
 unfold Cell.ok at hok;rw[Tryz.underlying3]at hok;cases v with
 |int k n=>
  simp only at hok;obtain⟨rfl,_⟩:=hok;exact⟨n,by rw[zAa hc];exact hv⟩
 |_=>simp at hok
noncomputable def zFf (os:Os):World:=
 let w0:=World.holding Tryz.prog os ⟨#[],#[],[]⟩
 let put (h:Array Obj) (g:Nat) (cs:Array Value):Array Obj:=h.modify g fun
  | .cells _ t frozen=> .cells cs t frozen
  |o=>o
 let h1:=put w0.heap 3 (Lib.firstTab.map fun z=>Value.int .u8 z).toArray
 let h2:=put h1 4 ((List.range 16).flatMap fun i=>[Value.int .u8 (Lib.accLo i),Value.int .u8 (Lib.accHi i)]).toArray
 let h3:=put h2 2 (Lib.pow10Tab.map fun z=>Value.int .u64 z).toArray
 let h4:=put h3 6 (Lib.deBruijn64tab.map fun(z:Nat)=>Value.int .u8 (z:Int)).toArray
 let h5:=put h4 5 (Lib.deBruijn32tab.map fun(z:Nat)=>Value.int .u8 (z:Int)).toArray
 let h6:=put h5 0 #[.int .u8 32,.int .u8 1,.int .u8 136,.int .u8 11,.int .u8 48,.int .u8 1,.int .u8 136,.int .u8 11,.int .u8 32,.int .u8 129,.int .u8 136,.int .u8 11,.int .u8 48,.int .u8 129,.int .u8 136,.int .u8 11]
 { w0 with heap:=h6 }
theorem zWq(os:Os)(args:Array Value):laidMet Tryz.prog zLt ((zFf os).forCall (fun _ _=>0) ⟨#[],args,[]⟩).memory:=
 (LaidIn.of_run (l:=zLt) [5,6,2,4,0,3] 8 (by kernel_rfl) (by kernel_rfl) (by kernel_rfl) (by kernel_rfl)).met
end Go.Proofs.YteaeilghamjjkaaGreatDoor
