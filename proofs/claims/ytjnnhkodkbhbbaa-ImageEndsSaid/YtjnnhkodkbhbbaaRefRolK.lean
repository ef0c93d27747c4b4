/- What the walks of RefRol need and no function of the document. Each theorem names its own conditions. -/
import Derived.Test.YtjnnhkodkbhbbaaProg
import Derived.Test.YtjnnhkodkbhbbaaChaSpec
import Derived.Test.YtjnnhkodkbhbbaaDetWord
import Derived.Test.YtjnnhkodkbhbbaaDetConv
import Derived.Test.YtjnnhkodkbhbbaaDetTail
namespace Go.Proofs.Ytjnnhkodkbhbbaa
open Go.RowKit
set_option linter.unusedVariables false
set_option linter.unusedSimpArgs false



end Go.Proofs.Ytjnnhkodkbhbbaa
