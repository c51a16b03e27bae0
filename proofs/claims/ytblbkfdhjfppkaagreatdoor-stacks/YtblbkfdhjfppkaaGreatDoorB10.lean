/- Imports alone. -/
import Derived.Test.YtblbkfdhjfppkaaGreatDoorB09
import Derived.LaidMore
import Derived.Lay
import Derived.Lib.LaidU8T
import Derived.OpenShut
import Derived.PinnedBridge
import Derived.ProofKit
import Derived.SevenTiedAt
import Derived.SizedLaws
import Derived.Stop.Joined
import Derived.Test.YtblbkfdhjfppkaaGreatDoorCards
import Derived.Test.YtblbkfdhjfppkaaGreatDoorRows
import Derived.Test.YtblbkfdhjfppkaaGreatDoorTie
