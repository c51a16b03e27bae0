/- Imports alone. -/
import Derived.Test.YtlflgmdcghfngaaGreatDoorB09
import Derived.Carry
import Derived.ChangeArms
import Derived.Deep.Slices
import Derived.LaidMore
import Derived.Lay
import Derived.Lib.LaidU8T
import Derived.Maps.Keyed
import Derived.OpenShut
import Derived.PinnedBridge
import Derived.ProofKit
import Derived.SevenTiedAt
import Derived.SizedLaws
import Derived.Stop.Joined
import Derived.Test.YtlflgmdcghfngaaGreatDoorCards
import Derived.Test.YtlflgmdcghfngaaGreatDoorRows
import Derived.Test.YtlflgmdcghfngaaGreatDoorTie
