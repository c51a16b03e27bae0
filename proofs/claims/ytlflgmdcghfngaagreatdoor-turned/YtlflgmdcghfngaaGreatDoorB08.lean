/- Imports alone. -/
import Derived.Test.YtlflgmdcghfngaaGreatDoorB05
import Derived.Deep.Draws
import Derived.Deep.RegionHeld
import Derived.Defers
import Derived.Handy
import Derived.Laws.Append
import Derived.Laws.AppendOwnNone
import Derived.Laws.BytesArg
import Derived.Laws.OwnMore
import Derived.Lib.RuneCount
import Derived.Lib.SliceRun
import Derived.Maps.Keyed
import Derived.Recover
import Derived.RegionDies
import Derived.Sort.Grow
import Derived.Test.YtlflgmdcghfngaaGreatDoorShelfZ
