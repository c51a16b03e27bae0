/- Imports alone. -/
import Derived.Test.YtmjbnmpamlainaaGreatDoorA0
import Derived.LaidMore
import Derived.Lay
import Derived.OpenShut
import Derived.ProofKit
import Derived.SevenTiedAt
import Derived.Stop.Joined
import Derived.Test.YtmjbnmpamlainaaGreatDoorCards
import Derived.Test.YtmjbnmpamlainaaGreatDoorRows
import Derived.Test.YtmjbnmpamlainaaGreatDoorTie
import Derived.WalkKit
