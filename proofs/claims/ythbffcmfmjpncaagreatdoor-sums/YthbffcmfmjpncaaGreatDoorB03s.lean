/- Imports alone. -/
import Derived.Test.YthbffcmfmjpncaaGreatDoorB01s
import Derived.Deep.RegionHeld
import Derived.Defers
import Derived.Handy
import Derived.Laws.Append
import Derived.Laws.AppendOwnNone
import Derived.Laws.BytesArg
import Derived.Laws.OwnMore
import Derived.Lib.DecodeN
import Derived.Lib.RuneCount
import Derived.Lib.SliceRun
import Derived.Recover
import Derived.RegionDies
import Derived.Test.YthbffcmfmjpncaaGreatDoorShelfZs
