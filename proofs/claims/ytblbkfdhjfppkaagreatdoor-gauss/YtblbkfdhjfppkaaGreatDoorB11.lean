/- Imports alone. -/
import Derived.Test.YtblbkfdhjfppkaaGreatDoorB10
import Derived.KernelRfl
import Derived.LaidMore
import Derived.Lib.LaidU8T
import Derived.OpenShut
import Derived.PinnedBridge
import Derived.Test.YtblbkfdhjfppkaaGreatDoorRows
import Derived.Test.YtblbkfdhjfppkaaGreatDoorShelfZ
