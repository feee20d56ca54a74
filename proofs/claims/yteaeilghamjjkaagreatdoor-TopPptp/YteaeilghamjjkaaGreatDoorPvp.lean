import Derived.Test.YteaeilghamjjkaaGreatDoorPvh
import Derived.Lib.SlBytesConst
import Derived.Test.YteaeilghamjjkaaGreatDoorDHz
namespace Go.Proofs.YteaeilghamjjkaaGreatDoor
open Go.RowKit Go.Shelf
set_option maxRecDepth 100000
set_option linter.unusedVariables false
set_option linter.unusedSimpArgs false
theorem zJj(src dst cl x:Int)(sm:Value)(w:World)(hT:Tb w)(hI:Rd w.heap.size w sm [x])(hsr:0≤src∧src≤4294967295)(hds:0≤dst∧dst≤4294967295)(hcl:0≤cl∧cl≤65535)(hx:0≤x∧x≤255):
  Calls Tryz.prog 41 #[.agg #[.int .u8 0,.int .u16 0,.bool false,.int .u8 9,.int .u8 0,.int .u32 src,.int .u32 dst,.slice none 0 0,.slice none 0 0],.agg #[.int .u16 cl,.bool false,.bool false,.int .u32 0,.int .u32 0,sm]] w fun e w'=>Later w w'∧∃a7 c7 a8 c8,e= .returned (.tuple #[.agg #[.int .u8 0,.int .u16 0,.bool false,.int .u8 9,.int .u8 47,.int .u32 src,.int .u32 dst,.slice a7 0 c7,.slice a8 9 c8],.int .i64 0])∧Ow w.heap.size w' (.slice a7 0 c7) []∧Ow w.heap.size w' (.slice a8 9 c8) (frB cl x):=by
 refine(zIk 0 0 9 0 src dst cl 0 0 false false false (.slice none 0 0) (.slice none 0 0) sm [] [x] w hT Mt.By.nil (zEb w) (fun z hz=>by rw[List.mem_singleton.1 hz];exact hx) hI (by simp) (by simp) (by omega) (by omega) (by omega) hsr hds hcl (by omega) (by omega) rfl).mono ?_;have HZ:flt ([]:List Int).length (grn false false ([x]:List Int).length)=0:=by unfold flt;rw[if_neg (by simp),if_neg (by simp[grn])]
 rintro e w' ⟨hb1,⟨hx,_⟩|⟨_,a7,c7,a8,c8,rfl,hO,hD⟩⟩
 ·exact absurd HZ hx
 ·rw[←zR6]at hD
  exact⟨hb1,a7,c7,a8,c8,rfl,hO,hD⟩
theorem zJk(ttl src dst cl x:Int)(so sd:Value)(w:World)(hT:Tb w)(hI:Rd w.heap.size w sd (frB cl x))(hcl:0≤cl∧cl≤65535)(hx:0≤x∧x≤255):
  Calls Tryz.prog 42 #[.agg #[.int .u8 0,.int .u16 0,.bool false,.int .u8 ttl,.int .u8 47,.int .u32 src,.int .u32 dst,so,sd]] w fun e w'=>Later w w'∧∃ad cd,e= .returned (.tuple #[.agg #[.int .u16 cl,.bool false,.bool false,.int .u32 0,.int .u32 0,.slice ad 1 cd],.int .i64 0])∧Ow w.heap.size w' (.slice ad 1 cd) [x]:=by
 refine(zEp 0 0 ttl 47 src dst false so sd (frB cl x) w hT (zGy cl x hcl hx) hI (by simp[frB])).mono ?_;rintro e w' ⟨hb1,⟨hx,_⟩|⟨_,ad,cd,rfl,hD⟩⟩
 ·exact absurd (frB_ok cl x) hx
 ·rw[zLz,zNh cl x hcl.1]
  rw[zLz]at hD;exact⟨hb1,ad,cd,rfl,hD⟩
end Go.Proofs.YteaeilghamjjkaaGreatDoor
