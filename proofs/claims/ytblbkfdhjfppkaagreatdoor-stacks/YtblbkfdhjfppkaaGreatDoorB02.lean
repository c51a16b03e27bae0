/- Imports alone. -/
import Derived.Test.YtblbkfdhjfppkaaGreatDoorA0
import Derived.BigRegion
import Derived.Defers
import Derived.Recover
import Derived.RegionTactic
import Derived.Test.YtblbkfdhjfppkaaGreatDoorProg
import Derived.WalkKit
import Derived.WalkLawsBesides
import Derived.WalkSpells
