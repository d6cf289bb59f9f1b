/- The contract of the specification's l11Do, over those of its steps. -/
import Derived.Test.YtlonjjliochbhaaKE1BkLiD
import Derived.Test.YtlonjjliochbhaaKE1BkLiA
import Derived.Test.YtlonjjliochbhaaKE1BkLiP
import Derived.Test.YtlonjjliochbhaaKE1BkLiX
namespace Go.Proofs.Ytlonjjliochbhaa
open Go.RowKit
set_option maxRecDepth 100000

theorem sLine_any (F : Fns) (K : Known F) {Pre : Bk → Prop} (hsm : ∀ b, Pre b → bkSm b) {Pay : Bk → Int → Int → Int → Int → Bk × Int → Prop} {Act : Bk → Int → Ac → Bk × Int} (ST : Steps Pre Pay Act) (b : Bk) (p : Bp) (line : List UInt8) (w : World) (hx : BookAt w b p) (hah : AhB p w.heap.size) (hp : Pre b) (hl : line.length ≤ 1048575) :
    Calls Try.prog 27 #[bkv b p, .string ⟨line.toArray⟩] w fun e w' => ∃ r, LineRel F Pay Act b line r ∧ BdR w p r.1 r.2 e w' := by
  cases h1 : isDay (wordsW line)
  case true => exact sLineD_any F K hsm ST b p line w hx hah hp hl h1
  case false =>
    cases h2 : isAuth (wordsW line)
    case true => exact sLineA_any F K hsm ST b p line w hx hah hp hl ⟨h1, h2⟩
    case false =>
      cases h3 : isPay (wordsW line)
      case true => exact sLineP_any F K hsm ST b p line w hx hah hp hl ⟨h1, h2, h3⟩
      case false => exact sLineX_any F K hsm ST b p line w hx hah hp hl ⟨h1, h2, h3⟩

end Go.Proofs.Ytlonjjliochbhaa
