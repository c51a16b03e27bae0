/- Imports alone. -/
import Derived.Test.YtddnpoiiimjpcaaGreatDoorA0
import Derived.LaidMore
import Derived.Lay
import Derived.OpenShut
import Derived.ProofKit
import Derived.SevenTiedAt
import Derived.Stop.Joined
import Derived.Test.YtddnpoiiimjpcaaGreatDoorCards
import Derived.Test.YtddnpoiiimjpcaaGreatDoorRows
import Derived.Test.YtddnpoiiimjpcaaGreatDoorTie
import Derived.WalkKit
