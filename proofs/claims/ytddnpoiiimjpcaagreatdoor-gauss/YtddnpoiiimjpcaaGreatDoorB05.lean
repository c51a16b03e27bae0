/- Imports alone. -/
import Derived.Test.YtddnpoiiimjpcaaGreatDoorB03
import Derived.LaidMore
import Derived.Laws.EntriesVeiled
import Derived.Lib.DecodeN
import Derived.Lib.LaidU8T
import Derived.Lib.ParseIntB
import Derived.OpenShut
import Derived.PinnedBridge
import Derived.Test.YtddnpoiiimjpcaaGreatDoorRows
import Derived.Test.YtddnpoiiimjpcaaGreatDoorShelfZ
