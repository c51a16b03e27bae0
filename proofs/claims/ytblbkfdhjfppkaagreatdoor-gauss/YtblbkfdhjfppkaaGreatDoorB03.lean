/- Imports alone. -/
import Derived.Test.YtblbkfdhjfppkaaGreatDoorB01
import Derived.Defers
import Derived.Laws.EntriesVeiled
import Derived.Lib.DecodeN
import Derived.Lib.ParseIntB
import Derived.Lib.RuneCount
import Derived.Recover
import Derived.Test.YtblbkfdhjfppkaaGreatDoorShelfZ
