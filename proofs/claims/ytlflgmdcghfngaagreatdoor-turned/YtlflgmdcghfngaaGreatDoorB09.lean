/- Imports alone. -/
import Derived.Test.YtlflgmdcghfngaaGreatDoorB07
import Derived.Deep.Draws
import Derived.Deep.RegionHeld
import Derived.Defers
import Derived.Laws.EntriesVeiled
import Derived.Laws.OwnMore
import Derived.Lib.DecodeN
import Derived.Lib.ParseIntB
import Derived.Lib.RuneCount
import Derived.Recover
import Derived.Sort.Grow
import Derived.Test.YtlflgmdcghfngaaGreatDoorShelfZ
