/- Imports alone. -/
import Derived.Test.YthbffcmfmjpncaaGreatDoorB04s
import Derived.KernelRfl
import Derived.LaidMore
import Derived.Lay
import Derived.Lib.LaidU8T
import Derived.OpenShut
import Derived.PinnedBridge
import Derived.ProofKit
import Derived.SevenTiedAt
import Derived.SizedLaws
import Derived.Stop.Joined
import Derived.Test.YthbffcmfmjpncaaGreatDoorCards
import Derived.Test.YthbffcmfmjpncaaGreatDoorRows
import Derived.Test.YthbffcmfmjpncaaGreatDoorShelfZs
import Derived.Test.YthbffcmfmjpncaaGreatDoorTie
