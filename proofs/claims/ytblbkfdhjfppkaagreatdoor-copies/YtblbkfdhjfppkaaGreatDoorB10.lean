/- Imports alone. -/
import Derived.Test.YtblbkfdhjfppkaaGreatDoorB07
import Derived.Deep.RegionHeld
import Derived.Defers
import Derived.Laws.Append
import Derived.Laws.OwnMore
import Derived.Lib.DecodeN
import Derived.Lib.RuneCount
import Derived.Lib.SliceRun
import Derived.Recover
import Derived.RegionDies
import Derived.Test.YtblbkfdhjfppkaaGreatDoorShelfZ
