import Derived.Test.YthlhecfcnfjecaaGreatDoorA0
import Derived.Below
import Derived.WalkKit
