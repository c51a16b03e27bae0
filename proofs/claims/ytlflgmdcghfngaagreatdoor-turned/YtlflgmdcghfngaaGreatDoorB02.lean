/- Imports alone. -/
import Derived.Test.YtlflgmdcghfngaaGreatDoorA0
import Derived.BigQuiet
import Derived.BigRegion
import Derived.Deep.AppendLies
import Derived.Deep.DrawnRows
import Derived.Deep.LoopGhost
import Derived.Deep.QuietTactic
import Derived.Deep.RegionHeld3
import Derived.Deep.RegionWith
import Derived.Laws.IdiomStrings
import Derived.Lib.DecodeN
import Derived.Lib.Strings
import Derived.RegionTactic
import Derived.Test.YtlflgmdcghfngaaGreatDoorProg
import Derived.WalkKit
import Derived.WalkLawsBesides
import Derived.WalkSpells
