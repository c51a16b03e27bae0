/- Imports alone. -/
import Derived.Test.YtblbkfdhjfppkaaGreatDoorA0
import Derived.Lib.ParseIntB
import Derived.Test.YtblbkfdhjfppkaaGreatDoorProg
import Derived.WalkKit
