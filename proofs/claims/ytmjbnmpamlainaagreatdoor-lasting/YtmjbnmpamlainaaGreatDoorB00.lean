/- Imports alone. -/
import Derived.Test.YtmjbnmpamlainaaGreatDoorA0
import Derived.BigRegion
import Derived.Defers
import Derived.Recover
import Derived.RegionTactic
import Derived.Test.YtmjbnmpamlainaaGreatDoorProg
import Derived.WalkKit
import Derived.WalkLawsBesides
import Derived.WalkSpells
