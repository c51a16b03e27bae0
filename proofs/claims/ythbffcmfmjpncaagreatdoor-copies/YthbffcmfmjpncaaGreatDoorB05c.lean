/- Imports alone. -/
import Derived.Test.YthbffcmfmjpncaaGreatDoorB02c
import Derived.Deep.RegionHeld
import Derived.Defers
import Derived.Handy
import Derived.Laws.Append
import Derived.Laws.AppendOwnNone
import Derived.Laws.BytesArg
import Derived.Laws.EntriesVeiled
import Derived.Laws.OwnMore
import Derived.Lib.DecodeN
import Derived.Lib.RuneCount
import Derived.Lib.SliceRun
import Derived.Recover
import Derived.RegionDies
import Derived.Test.YthbffcmfmjpncaaGreatDoorShelfZc
