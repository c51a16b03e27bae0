/- Imports alone. -/
import Derived.Test.YtlflgmdcghfngaaGreatDoorA0
import Derived.Laws.IdiomStrings
import Derived.Lib.DecodeN
import Derived.Lib.ParseIntB
import Derived.Lib.RuneCount
import Derived.Test.YtlflgmdcghfngaaGreatDoorProg
import Derived.WalkKit
