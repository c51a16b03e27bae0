/- Imports alone. -/
import Derived.Lib.ParseIntB
import Derived.Test.YtblbkfdhjfppkaaGreatDoorProg
import Derived.WalkKit
