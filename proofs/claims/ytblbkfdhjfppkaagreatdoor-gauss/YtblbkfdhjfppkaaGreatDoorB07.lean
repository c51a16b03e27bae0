/- Imports alone. -/
import Derived.Test.YtblbkfdhjfppkaaGreatDoorB05
import Derived.Deep.RegionHeld
import Derived.Defers
import Derived.Laws.EntriesVeiled
import Derived.Laws.OwnMore
import Derived.Lib.ParseIntB
import Derived.Recover
import Derived.Test.YtblbkfdhjfppkaaGreatDoorShelfZ
