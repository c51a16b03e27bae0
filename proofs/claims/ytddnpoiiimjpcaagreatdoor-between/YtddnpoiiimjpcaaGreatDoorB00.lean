/- Imports alone. -/
import Derived.Test.YtddnpoiiimjpcaaGreatDoorA0
import Derived.Laws.IdiomStrings
import Derived.Lib.DecodeN
import Derived.Lib.ParseIntB
import Derived.Lib.RuneCount
import Derived.Test.YtddnpoiiimjpcaaGreatDoorProg
import Derived.WalkKit
