/- Imports alone. -/
import Derived.Test.YtmjbnmpamlainaaGreatDoorB08
import Derived.ChangeArms
import Derived.Deep.Draws
import Derived.Deep.Slices
import Derived.Laws.CopyOwn
import Derived.Laws.EntriesVeiled
import Derived.Laws.MakeOwn
import Derived.Lib.ParseIntB
import Derived.SizedLaws
import Derived.Sort.Grow
import Derived.Test.YtmjbnmpamlainaaGreatDoorShelfZ
