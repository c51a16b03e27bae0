/- Imports alone. -/
import Derived.Test.YthbffcmfmjpncaaGreatDoorA0c
import Derived.Laws.IdiomStrings
import Derived.Lib.DecodeN
import Derived.Lib.RuneCount
import Derived.Test.YthbffcmfmjpncaaGreatDoorProg
import Derived.WalkKit
