import Derived.Test.YteaeilghamjjkaaGreatDoorCards
import Derived.Test.YteaeilghamjjkaaGreatDoorTie
import Derived.WalkKit
import Derived.ProofKit
import Derived.OpenShut
import Derived.Lib.LaidIn
import Derived.Lib.LaidU8
import Derived.Deep.DeepHandedRow
import Derived.Lib.LaidTab
import Derived.Lib.TrailingZeros
import Derived.Test.YteaeilghamjjkaaGreatDoorX12
namespace Go.Proofs.YteaeilghamjjkaaGreatDoor
open Go.ChangeShapes Go.WideShapes Go.ChangeAt Go.RowKit Go.Lib
set_option maxRecDepth 100000
set_option linter.unusedVariables false
def zOt:List (String × DataW Unit):=[("math/bits.deBruijn64tab",Rows.laid_math_bits_deBruijn64tab),("lychgate/ctrl.beginnings",Rows.laid_lychgate_ctrl_beginnings)]
theorem gTabA:Tryz.prog.globalNamed "lychgate/ctrl.beginnings" =some 0:=by kernel_rfl
theorem zR0:(Tryz.prog.globals[0]?).map (·.type)=some 188:=by kernel_rfl
theorem zR1:Tryz.prog.cellsOf 188=16:=by kernel_rfl
theorem zJf:Tryz.prog.cellsOf 167=4:=by kernel_rfl
theorem zJg:Tryz.prog.cellsOf 5=1:=by kernel_rfl
theorem gTabB:Tryz.prog.globalNamed "math/bits.deBruijn64tab" =some 6:=by kernel_rfl
theorem zR2:(Tryz.prog.globals[6]?).map (·.type)=some 441:=by kernel_rfl
theorem zR3:Tryz.prog.cellsOf 441=64:=by kernel_rfl
theorem laidTabB:(Rows.laid_math_bits_deBruijn64tab:DataW Unit)=Lib.tabData .u8 (Lib.deBruijn64tab.map (fun n:Nat=>(n:Int))):=rfl
theorem list16 {α:Type} {l:List α} (h:l.length=16):∃a b c d e f g i j k m n o p q r,l=[a,b,c,d,e,f,g,i,j,k,m,n,o,p,q,r]:=by
 match l,h with
 | [a,b,c,d,e,f,g,i,j,k,m,n,o,p,q,r],_=>exact⟨a,b,c,d,e,f,g,i,j,k,m,n,o,p,q,r,rfl⟩
theorem zLw {W:World} (h:laidMetH Tryz.prog zOt W):Tb W:=by
 have h':laidMet Tryz.prog zOt W:=h;have h3:=laidMet.reads h' (n:= "lychgate/ctrl.beginnings") (d:=Rows.laid_lychgate_ctrl_beginnings) (.tail _ (.head _));obtain⟨g',t',cs,fuel,p,hg',ht',hvar,hd⟩:=h3;obtain rfl:=Option.some.inj (gTabA.symm.trans hg');obtain rfl:=Option.some.inj (zR0.symm.trans ht');have hcell:=World.var?_cell gTabA hvar;cases fuel with
 |zero=>simp[DataW.trod]at hd
 | succ fuel=>
  simp only[DataW.trod,Tryz.underlying188,zR1,zJf]at hd;split at hd
  ·rename_i hl
   obtain⟨xs,hm,hx⟩:=Option.map_eq_some_iff.1 hd;have hxs:=congrArg Prod.fst hx;simp only[Rows.laid_lychgate_ctrl_beginnings,DataW.agg.injEq]at hxs
   have row:∀(i:Nat) (zs:List Int),i<4→(xs.map (·.1))[i]? =some (Lib.tabData .u8 zs)→(cs.toList.drop (i*4)).take 4=zs.map fun z=>Value.int .u8 z:=by
    intro i zs hi hz
    obtain⟨b,hb,hf⟩:=Lib.mapM_at hm i i (by simp[hi]);have hb1:b.1=Lib.tabData .u8 zs:=by simpa[hb]using hz
    obtain⟨b1,b2⟩:=b;simp only at hb1;subst hb1;exact Lib.cells_of_tab Tryz.underlying167 Tryz.underlying5 zJg zJf hf
   have r0:=row 0 [32,1,136,11] (by omega) (by rw[hxs];rfl);have r1:=row 1 [48,1,136,11] (by omega) (by rw[hxs];rfl);have r2:=row 2 [32,129,136,11] (by omega) (by rw[hxs];rfl);have r3:=row 3 [48,129,136,11] (by omega) (by rw[hxs];rfl);obtain⟨a,b,c,d,e,f,g,i,j,k,m,n,o,p',q',r,hcs⟩:=list16 (l:=cs.toList) (by simp_all);rw[hcs]at r0 r1 r2 r3
   simp at r0 r1 r2 r3
   have hcs2:cs=#[a,b,c,d,e,f,g,i,j,k,m,n,o,p',q',r]:=by rw[←hcs]
   obtain⟨rfl,rfl,rfl,rfl⟩:=r0;obtain⟨rfl,rfl,rfl,rfl⟩:=r1;obtain⟨rfl,rfl,rfl,rfl⟩:=r2;obtain⟨rfl,rfl,rfl,rfl⟩:=r3;subst hcs2;intro i hi
   rw[hcell i];match i,hi with
   |0,_|1,_|2,_|3,_|4,_|5,_|6,_|7,_|8,_|9,_|10,_|11,_|12,_|13,_|14,_|15,_=>rfl
   |n+16,h=>exact absurd h (by omega)
  ·cases hd
theorem zLx {W:World} (h:laidMetH Tryz.prog zOt W):Dz W:=by
 have h':laidMet Tryz.prog zOt W:=h;have h3:=laidMet.reads h' (n:= "math/bits.deBruijn64tab") (d:=Rows.laid_math_bits_deBruijn64tab) (.head _);obtain⟨g',t',cs,fuel,p,hg',ht',hvar,hd⟩:=h3;obtain rfl:=Option.some.inj (gTabB.symm.trans hg');obtain rfl:=Option.some.inj (zR2.symm.trans ht');have hcell:=World.var?_cell gTabB hvar;rw[laidTabB]at hd;have hcs:=Lib.cells_of_tab Tryz.underlying441 Tryz.underlying5 zJg zR3 hd;intro j hj
 have hl:Lib.deBruijn64tab.length=64:=rfl;rw[hcell j,←Array.getElem?_toList,hcs,List.getElem?_map,List.getElem?_map,List.getElem?_eq_getElem (by rw[hl];exact hj)];simp[List.getD,hl,hj]
noncomputable def zEk (os:Os):World:=
 let w0:=World.holding Tryz.prog os ⟨#[],#[],[]⟩
 let put (h:Array Obj) (g:Nat) (cs:Array Value):Array Obj:=h.modify g fun
  | .cells _ t frozen=> .cells cs t frozen
  |o=>o
 let h1:=put w0.heap 0 #[.int .u8 32,.int .u8 1,.int .u8 136,.int .u8 11,.int .u8 48,.int .u8 1,.int .u8 136,.int .u8 11,.int .u8 32,.int .u8 129,.int .u8 136,.int .u8 11,.int .u8 48,.int .u8 129,.int .u8 136,.int .u8 11]
 let h2:=put h1 6 (Lib.deBruijn64tab.map fun(z:Nat)=>Value.int .u8 (z:Int)).toArray
 { w0 with heap:=h2 }
theorem zR4(os:Os)(args:Array Value):laidMet Tryz.prog zOt ((zEk os).forCall (fun _ _=>0) ⟨#[],args,[]⟩).memory:=
 (LaidIn.of_run (l:=zOt) [6,0] 8 (by kernel_rfl) (by kernel_rfl) (by kernel_rfl) (by kernel_rfl)).met
end Go.Proofs.YteaeilghamjjkaaGreatDoor
