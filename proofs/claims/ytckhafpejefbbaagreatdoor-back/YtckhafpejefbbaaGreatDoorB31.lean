/- Texts of the proof, put together: BackF. -/
import Derived.Test.YtckhafpejefbbaaGreatDoorB19

/- What Back reaches. -/
namespace Go.Proofs.YtckhafpejefbbaaGreatDoor
open Go.ChangeShapes Go.WideShapes Go.ChangeAt Go.RowKit

theorem back_f1 : (Rows.backRow.inPlace == Tryz.checked.prog.inPlace 12) = true := by kernel_rfl

theorem back_f2 : (Rows.backRow.unfollowed == Tryz.checked.prog.unfollowed 12) = true := by kernel_rfl

theorem back_f3 : (Rows.backRow.recurses == Tryz.checked.prog.recurses 12) = true := by kernel_rfl

theorem back_f4 : (Rows.backRow.named == Tryz.checked.prog.varsNamed 12) = true := by kernel_rfl

theorem back_closed : joinedFacts Tryz.checked.prog 12 Tryz.f12 Rows.backSpec Rows.backRow = true := by
  unfold joinedFacts
  iterate 19 (rw [Bool.and_eq_true]; refine ⟨?_, by kernel_rfl⟩)
  rw [Bool.and_eq_true]
  refine ⟨?_, back_f4⟩
  rw [Bool.and_eq_true]
  refine ⟨?_, back_f3⟩
  rw [Bool.and_eq_true]
  refine ⟨?_, back_f2⟩
  rw [Bool.and_eq_true]
  refine ⟨?_, back_f1⟩
  kernel_rfl

end Go.Proofs.YtckhafpejefbbaaGreatDoor
