/- Imports alone. -/
import Derived.Test.YthbffcmfmjpncaaGreatDoorB05c
import Derived.Deep.Cut
import Derived.Deep.Light
import Derived.LoopIn
import Derived.LoopNIn
import Derived.OwnWalkIn
import Derived.RangeFuncBound
import Derived.RangeFuncCalls
import Derived.RangeFuncLeaves
import Derived.RangeFuncNested
import Derived.Shelf.Abstract
import Derived.Shelf.RegionOpen
import Derived.TacticsInMore
import Derived.Test.YthbffcmfmjpncaaGreatDoorShelfZc
