/- Imports alone. -/
import Derived.Test.YtddnpoiiimjpcaaGreatDoorB02
import Derived.Deep.RegionHeld
import Derived.Handy
import Derived.Laws.Append
import Derived.Laws.AppendOwnNone
import Derived.Laws.BytesArg
import Derived.Laws.OwnMore
import Derived.Lib.RuneCount
import Derived.Lib.SliceRun
import Derived.RegionDies
import Derived.Test.YtddnpoiiimjpcaaGreatDoorShelfZ
