import Derived.Test.YtjhbbdpfkccohaaGreatDoorA0
import Derived.Below
import Derived.WalkKit
