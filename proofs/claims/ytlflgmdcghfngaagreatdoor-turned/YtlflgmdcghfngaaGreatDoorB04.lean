/- Imports alone. -/
import Derived.Test.YtlflgmdcghfngaaGreatDoorB03
import Derived.Handy
import Derived.LaidMore
import Derived.Laws.Append
import Derived.Laws.AppendOwnNone
import Derived.Laws.BytesArg
import Derived.Laws.EntriesVeiled
import Derived.Lib.DecodeN
import Derived.Lib.LaidU8T
import Derived.Lib.ParseIntB
import Derived.Lib.SliceRun
import Derived.OpenShut
import Derived.PinnedBridge
import Derived.RegionDies
import Derived.Test.YtlflgmdcghfngaaGreatDoorRows
import Derived.Test.YtlflgmdcghfngaaGreatDoorShelfZ
