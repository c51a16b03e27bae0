/- Imports alone. -/
import Derived.Test.YtmjbnmpamlainaaGreatDoorB04
import Derived.LaidMore
import Derived.Laws.EntriesVeiled
import Derived.Lib.DecodeN
import Derived.Lib.LaidU8T
import Derived.Lib.ParseIntB
import Derived.OpenShut
import Derived.PinnedBridge
import Derived.Test.YtmjbnmpamlainaaGreatDoorRows
import Derived.Test.YtmjbnmpamlainaaGreatDoorShelfZ
