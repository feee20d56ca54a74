import Derived.Test.YteaeilghamjjkaaGreatDoorX22
namespace Go.Proofs.YteaeilghamjjkaaGreatDoor
open Go.RowKit Go.Shelf
set_option maxRecDepth 100000
set_option linter.unusedVariables false
set_option linter.unusedSimpArgs false
def ofe (proto src dst:Int) (zd:List Int):Int:=if proto=6 then pte 6 src dst zd else if proto=17 then pue 17 src dst zd else if proto=1 then oie zd else if proto=47 then pge 47 zd else 12
def ofa (proto:Int) (zd:List Int):Int:=if proto=6 then wat zd 0 else if proto=17 then wat zd 0 else if proto=1 then wat zd 4 else 0
def ofb (proto:Int) (zd:List Int):Int:=if proto=6 then wat zd 2 else if proto=17 then wat zd 2 else if proto=1 then wat zd 4 else zAp zd 6
set_option maxHeartbeats 2000000 in
theorem zTp(tos id ttl proto src dst:Int)(keep:Bool)(so sd:Value)(zd:List Int)(w:World)(hT:Tb w)(hB:Mt.By zd)(hI:Rd w.heap.size w sd zd)(hl:12+zd.length≤140737488355328)(hsr:0≤src∧src≤4294967295)(hds:0≤dst∧dst≤4294967295)(hp:proto=6):
  Calls Tryz.prog 112 #[.agg #[.int .u8 tos,.int .u16 id,.bool keep,.int .u8 ttl,.int .u8 proto,.int .u32 src,.int .u32 dst,so,sd]] w fun e w'=>Below w.heap.size w w'∧e= .returned (.tuple #[otv (ofe proto src dst zd) proto src dst (ofa proto zd) (ofb proto zd),.int .i64 (ofe proto src dst zd)]):=by
 obtain⟨ad,cd,rfl,_,_⟩:=hI.slice;subst hp;exact zO6 6 (wat zd 0) (wat zd 2) (pte 6 src dst zd) _ _ tos id ttl src dst keep so ad zd.length cd w (fun _ _ h=>look_tcp h) cf_tcp (fun w' hb=>zTm tos id ttl 6 src dst keep so _ zd w' hB ((hI.below hb).mono hb.size) hl hsr hds)
end Go.Proofs.YteaeilghamjjkaaGreatDoor
