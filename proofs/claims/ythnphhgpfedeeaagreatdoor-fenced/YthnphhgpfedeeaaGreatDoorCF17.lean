import Derived.Test.YthnphhgpfedeeaaGreatDoorCF15
namespace Go.Proofs.YthnphhgpfedeeaaGreatDoor
open Go.RowKit
set_option linter.all false
