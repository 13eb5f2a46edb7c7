import Derived.Test.YtgooinallljbpaaGreatDoorTd31
namespace Go.Proofs.YtgooinallljbpaaGreatDoor
open Go.RowKit Px
set_option linter.unusedSimpArgs false
set_option linter.unusedVariables false
