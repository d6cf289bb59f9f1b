import Derived.Test.YtomiclakhjncbaaGreatDoorJA4a
import Derived.Laws.EntriesVeiled
namespace Go.Proofs.YtomiclakhjncbaaGreatDoor
open Go.RowKit
set_option maxRecDepth 100000
set_option maxHeartbeats 12800000
theorem stepOf0 (w:World):Calls Tryz.prog 257 #[.int .i64 0] w fun e w'=>e=.returned ((.func (.func 288) #[] #[]))∧Below w.heap.size w w':=by
 go_enter Tryz.func257,Tryz.ntmps257
 go_wp2
 go_ret
 exact ⟨rfl,by go_grown⟩
theorem stepOf1 (w:World):Calls Tryz.prog 257 #[.int .i64 1] w fun e w'=>e=.returned ((.func (.func 289) #[] #[]))∧Below w.heap.size w w':=by
 go_enter Tryz.func257,Tryz.ntmps257
 go_wp2
 go_ret
 exact ⟨rfl,by go_grown⟩
theorem stepOf2 (w:World):Calls Tryz.prog 257 #[.int .i64 2] w fun e w'=>e=.returned ((.func (.func 290) #[] #[]))∧Below w.heap.size w w':=by
 go_enter Tryz.func257,Tryz.ntmps257
 go_wp2
 go_ret
 exact ⟨rfl,by go_grown⟩
theorem stepOf3 (w:World):Calls Tryz.prog 257 #[.int .i64 3] w fun e w'=>e=.returned ((.func (.func 291) #[] #[]))∧Below w.heap.size w w':=by
 go_enter Tryz.func257,Tryz.ntmps257
 go_wp2
 go_ret
 exact ⟨rfl,by go_grown⟩
theorem stepOf4 (w:World):Calls Tryz.prog 257 #[.int .i64 4] w fun e w'=>e=.returned ((.func (.func 292) #[] #[]))∧Below w.heap.size w w':=by
 go_enter Tryz.func257,Tryz.ntmps257
 go_wp2
 go_ret
 exact ⟨rfl,by go_grown⟩
theorem stepOf5 (w:World):Calls Tryz.prog 257 #[.int .i64 5] w fun e w'=>e=.returned ((.func (.func 293) #[] #[]))∧Below w.heap.size w w':=by
 go_enter Tryz.func257,Tryz.ntmps257
 go_wp2
 go_ret
 exact ⟨rfl,by go_grown⟩
theorem stepOf6 (w:World):Calls Tryz.prog 257 #[.int .i64 6] w fun e w'=>e=.returned ((.func (.func 294) #[] #[]))∧Below w.heap.size w w':=by
 go_enter Tryz.func257,Tryz.ntmps257
 go_wp2
 go_ret
 exact ⟨rfl,by go_grown⟩
theorem stepOf7 (w:World):Calls Tryz.prog 257 #[.int .i64 7] w fun e w'=>e=.returned ((.func (.func 295) #[] #[]))∧Below w.heap.size w w':=by
 go_enter Tryz.func257,Tryz.ntmps257
 go_wp2
 go_ret
 exact ⟨rfl,by go_grown⟩
theorem stepOf8 (w:World):Calls Tryz.prog 257 #[.int .i64 8] w fun e w'=>e=.returned ((.func (.func 296) #[] #[]))∧Below w.heap.size w w':=by
 go_enter Tryz.func257,Tryz.ntmps257
 go_wp2
 go_ret
 exact ⟨rfl,by go_grown⟩
theorem stepOf9 (w:World):Calls Tryz.prog 257 #[.int .i64 9] w fun e w'=>e=.returned ((.func (.func 297) #[] #[]))∧Below w.heap.size w w':=by
 go_enter Tryz.func257,Tryz.ntmps257
 go_wp2
 go_ret
 exact ⟨rfl,by go_grown⟩
end Go.Proofs.YtomiclakhjncbaaGreatDoor
