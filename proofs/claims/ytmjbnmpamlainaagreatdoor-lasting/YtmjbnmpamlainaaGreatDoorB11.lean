/- Imports alone. -/
import Derived.Test.YtmjbnmpamlainaaGreatDoorB10
import Derived.Carry
import Derived.LaidMore
import Derived.Lay
import Derived.Lib.LaidU8T
import Derived.OpenShut
import Derived.PinnedBridge
import Derived.ProofKit
import Derived.SevenTiedAt
import Derived.Stop.Joined
import Derived.Test.YtmjbnmpamlainaaGreatDoorCards
import Derived.Test.YtmjbnmpamlainaaGreatDoorRows
import Derived.Test.YtmjbnmpamlainaaGreatDoorTie
