/- Imports alone. -/
import Derived.Test.YtblbkfdhjfppkaaGreatDoorB06
import Derived.Deep.RegionHeld
import Derived.Laws.Append
import Derived.Lib.DecodeN
import Derived.Lib.RuneCount
import Derived.Lib.SliceRun
import Derived.RegionDies
import Derived.Test.YtblbkfdhjfppkaaGreatDoorShelfZ
