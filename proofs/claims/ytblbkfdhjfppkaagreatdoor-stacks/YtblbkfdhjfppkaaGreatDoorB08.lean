/- Imports alone. -/
import Derived.Test.YtblbkfdhjfppkaaGreatDoorB05
import Derived.LaidMore
import Derived.Laws.EntriesVeiled
import Derived.Lay
import Derived.Lib.DecodeN
import Derived.Lib.LaidU8T
import Derived.Lib.ParseIntB
import Derived.OpenShut
import Derived.PinnedBridge
import Derived.ProofKit
import Derived.SevenTiedAt
import Derived.Stop.Joined
import Derived.Test.YtblbkfdhjfppkaaGreatDoorCards
import Derived.Test.YtblbkfdhjfppkaaGreatDoorRows
import Derived.Test.YtblbkfdhjfppkaaGreatDoorShelfZ
import Derived.Test.YtblbkfdhjfppkaaGreatDoorTie
