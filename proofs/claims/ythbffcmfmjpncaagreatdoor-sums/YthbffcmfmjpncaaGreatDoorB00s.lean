/- Imports alone. -/
import Derived.Test.YthbffcmfmjpncaaGreatDoorA0s
import Derived.Lib.DecodeN
import Derived.Lib.ParseIntB
import Derived.Test.YthbffcmfmjpncaaGreatDoorProg
import Derived.WalkKit
