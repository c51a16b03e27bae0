/- Imports alone. -/
import Derived.Test.YtblbkfdhjfppkaaGreatDoorA0
import Derived.Laws.IdiomStrings
import Derived.Lib.DecodeN
import Derived.Lib.RuneCount
import Derived.Test.YtblbkfdhjfppkaaGreatDoorProg
import Derived.WalkKit
