import Derived.Test.YtckhafpejefbbaaGreatDoorB15

set_option maxRecDepth 100000
set_option maxHeartbeats 16000000
namespace Go.Proofs.YtckhafpejefbbaaGreatDoor
section
open Go.Proofs.Tryz
open Go.ChangeShapes Go.WideShapes Go.ChangeAt Go.RowKit
theorem ztm:(Rows.runsUptoRow.inPlace==Tryz.checked.prog.inPlace 5)=true:=kR
theorem ztn:(Rows.runsUptoRow.unfollowed==Tryz.checked.prog.unfollowed 5)=true:=kR
theorem zto:(Rows.runsUptoRow.recurses==Tryz.checked.prog.recurses 5)=true:=kR
theorem ztp:(Rows.runsUptoRow.named==Tryz.checked.prog.varsNamed 5)=true:=kR
theorem zhn:joinedFacts checked.prog 5 f5 Rows.runsSpec Rows.runsUptoRow=true:=by
 unfold joinedFacts
 iterate 19 (rw[Bool.and_eq_true];refine⟨?_,kR⟩)
 rw[Bool.and_eq_true];refine⟨?_,ztp⟩;rw[Bool.and_eq_true];refine⟨?_,zto⟩;rw[Bool.and_eq_true];refine⟨?_,ztn⟩;rw[Bool.and_eq_true];refine⟨?_,ztm⟩;kernel_rfl
end
end Go.Proofs.YtckhafpejefbbaaGreatDoor
