/- Imports alone. -/
import Derived.Test.YtlflgmdcghfngaaGreatDoorA0
import Derived.LaidMore
import Derived.Lay
import Derived.OpenShut
import Derived.ProofKit
import Derived.SevenTiedAt
import Derived.Stop.Joined
import Derived.Test.YtlflgmdcghfngaaGreatDoorCards
import Derived.Test.YtlflgmdcghfngaaGreatDoorRows
import Derived.Test.YtlflgmdcghfngaaGreatDoorTie
import Derived.WalkKit
