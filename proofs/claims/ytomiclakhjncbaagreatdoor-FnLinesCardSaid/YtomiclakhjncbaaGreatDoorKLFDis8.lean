import Derived.Test.YtomiclakhjncbaaGreatDoorJL0a
import Derived.Test.YtomiclakhjncbaaGreatDoorJL4a
import Derived.Laws.EntriesVeiled
namespace Go.Proofs.YtomiclakhjncbaaGreatDoor
open Go.RowKit Go.Proofs.Tryz
set_option maxRecDepth 100000
set_option maxHeartbeats 12800000
theorem oN (w:World):Calls prog 257 #[.int .i64 0] w fun e w'=>e=.returned ((.func (.func 288) #[] #[]))∧BW w w':=by
 go_enter func257,ntmps257
 go_wp2;go_ret
 exact ⟨rfl,by go_grown⟩
theorem pL (w:World):Calls prog 257 #[.int .i64 1] w fun e w'=>e=.returned ((.func (.func 289) #[] #[]))∧BW w w':=by
 go_enter func257,ntmps257
 go_wp2;go_ret
 exact ⟨rfl,by go_grown⟩
theorem nN (w:World):Calls prog 257 #[.int .i64 2] w fun e w'=>e=.returned ((.func (.func 290) #[] #[]))∧BW w w':=by
 go_enter func257,ntmps257
 go_wp2;go_ret
 exact ⟨rfl,by go_grown⟩
theorem nF (w:World):Calls prog 257 #[.int .i64 3] w fun e w'=>e=.returned ((.func (.func 291) #[] #[]))∧BW w w':=by
 go_enter func257,ntmps257
 go_wp2;go_ret
 exact ⟨rfl,by go_grown⟩
theorem pE (w:World):Calls prog 257 #[.int .i64 4] w fun e w'=>e=.returned ((.func (.func 292) #[] #[]))∧BW w w':=by
 go_enter func257,ntmps257
 go_wp2;go_ret
 exact ⟨rfl,by go_grown⟩
theorem nH (w:World):Calls prog 257 #[.int .i64 5] w fun e w'=>e=.returned ((.func (.func 293) #[] #[]))∧BW w w':=by
 go_enter func257,ntmps257
 go_wp2;go_ret
 exact ⟨rfl,by go_grown⟩
theorem nM (w:World):Calls prog 257 #[.int .i64 6] w fun e w'=>e=.returned ((.func (.func 294) #[] #[]))∧BW w w':=by
 go_enter func257,ntmps257
 go_wp2;go_ret
 exact ⟨rfl,by go_grown⟩
theorem oS (w:World):Calls prog 257 #[.int .i64 7] w fun e w'=>e=.returned ((.func (.func 295) #[] #[]))∧BW w w':=by
 go_enter func257,ntmps257
 go_wp2;go_ret
 exact ⟨rfl,by go_grown⟩
theorem pN (w:World):Calls prog 257 #[.int .i64 8] w fun e w'=>e=.returned ((.func (.func 296) #[] #[]))∧BW w w':=by
 go_enter func257,ntmps257
 go_wp2;go_ret
 exact ⟨rfl,by go_grown⟩
theorem oY (w:World):Calls prog 257 #[.int .i64 9] w fun e w'=>e=.returned ((.func (.func 297) #[] #[]))∧BW w w':=by
 go_enter func257,ntmps257
 go_wp2;go_ret
 exact ⟨rfl,by go_grown⟩
end Go.Proofs.YtomiclakhjncbaaGreatDoor
