/- Imports alone. -/
import Derived.Test.YthbffcmfmjpncaaGreatDoorB01k
import Derived.Deep.AppendLies
import Derived.Deep.CutBlock
import Derived.Deep.DeepCutAuto
import Derived.Deep.DrawnRows
import Derived.Deep.LoopGhost
import Derived.Deep.RegionHeld3
import Derived.Deep.RegionLaw
import Derived.Defers
import Derived.Laws.EntriesVeiled
import Derived.Laws.IdiomStrings
import Derived.Lib.DecodeN
import Derived.Lib.ParseIntB
import Derived.Recover
import Derived.SizedLaws
import Derived.Test.YthbffcmfmjpncaaGreatDoorShelfZk
