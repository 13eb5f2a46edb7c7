import Derived.Test.YtmbmecfodigciaaGreatDoorTu15
namespace Go.Proofs.YtmbmecfodigciaaGreatDoor
open Go.RowKit
set_option linter.unusedSimpArgs false
set_option linter.unusedVariables false
theorem zero579:Tryz.zeroCells158=#[.slice none 0 0,.int .u32 0,.int .u64 0]++(Array.replicate 288 (.int .u32 0)++Array.replicate 288 (.int .u8 0)):=by kernel_rfl
theorem size579:(Tryz.zeroCells158).size=579:=by rw[zero579];simp
theorem z579_0:(Tryz.zeroCells158)[0]? = some (.slice none 0 0):=by rw[zero579,Array.getElem?_append_left (by simp)];rfl
theorem z579_1:(Tryz.zeroCells158)[1]? = some (.int .u32 0):=by rw[zero579,Array.getElem?_append_left (by simp)];rfl
theorem z579_2:(Tryz.zeroCells158)[2]? = some (.int .u64 0):=by rw[zero579,Array.getElem?_append_left (by simp)];rfl
