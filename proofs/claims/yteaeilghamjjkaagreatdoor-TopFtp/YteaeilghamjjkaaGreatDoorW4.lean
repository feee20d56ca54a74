import Derived.Test.YteaeilghamjjkaaGreatDoorW3
namespace Go.Proofs.YteaeilghamjjkaaGreatDoor
open Go.RowKit Go.Shelf
set_option maxRecDepth 100000
theorem zAk {B:Nat} {a w:World} (h:Below B a w)(q:Nat):Below B a (w.drewN q):=h.trans ⟨rfl,rfl,rfl,Nat.le_refl _,fun _ _=>rfl⟩
theorem zDp(w:World)(arr:Array Value)(e:TypeId)(j:Nat):(w.alloc (.cells arr e)).cell? ⟨w.heap.size,j,none⟩=arr[j]? :=by
 simp only[World.cell?,World.alloc_heap_new];rfl
theorem Rd.new(xs:List Int)(e:TypeId)(w:World)(hne:xs≠ [])(hm:xs.length≤9223372036854775807):Rd (w.heap.size+1) (w.alloc (.cells (xs.map (Value.int .u8)).toArray e)) (.slice (some ⟨w.heap.size,0,none⟩) xs.length xs.length) xs:=by
 refine .inr ⟨w.heap.size,0,xs.length,rfl,hne,Nat.le_refl _,hm,by omega,fun j hj=> ?_⟩;rw[zDp];simp[hj]
end Go.Proofs.YteaeilghamjjkaaGreatDoor
