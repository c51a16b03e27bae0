/- Imports alone. -/
import Derived.Test.YtblbkfdhjfppkaaGreatDoorB01
import Derived.Handy
import Derived.Laws.Append
import Derived.Laws.AppendOwnNone
import Derived.Laws.BytesArg
import Derived.Lib.DecodeN
import Derived.Lib.RuneCount
import Derived.Lib.SliceRun
import Derived.RegionDies
import Derived.Test.YtblbkfdhjfppkaaGreatDoorShelfZ
