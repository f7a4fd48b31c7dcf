/- Texts of the proof, put together: KeptF. -/
import Derived.Test.YtckhafpejefbbaaGreatDoorB16

set_option maxRecDepth 100000
set_option maxHeartbeats 4000000
namespace Go.Proofs.YtckhafpejefbbaaGreatDoor
open Go.ChangeShapes Go.WideShapes Go.ChangeAt Go.RowKit
theorem ye1:(Rows.keptRow.inPlace==Tryz.checked.prog.inPlace 11)=true:=by kernel_rfl
theorem ye2:(Rows.keptRow.unfollowed==Tryz.checked.prog.unfollowed 11)=true:=by kernel_rfl
theorem ye3:(Rows.keptRow.recurses==Tryz.checked.prog.recurses 11)=true:=by kernel_rfl
theorem ye4:(Rows.keptRow.named==Tryz.checked.prog.varsNamed 11)=true:=by kernel_rfl
theorem zv6:joinedFacts Tryz.checked.prog 11 Tryz.f11 Rows.keptSpec Rows.keptRow=true:=by
 unfold joinedFacts
 iterate 19 (rw [Bool.and_eq_true]; refine ⟨?_,by kernel_rfl⟩)
 rw [Bool.and_eq_true]
 refine ⟨?_,ye4⟩
 rw [Bool.and_eq_true]
 refine ⟨?_,ye3⟩
 rw [Bool.and_eq_true]
 refine ⟨?_,ye2⟩
 rw [Bool.and_eq_true]
 refine ⟨?_,ye1⟩
 kernel_rfl
end Go.Proofs.YtckhafpejefbbaaGreatDoor
