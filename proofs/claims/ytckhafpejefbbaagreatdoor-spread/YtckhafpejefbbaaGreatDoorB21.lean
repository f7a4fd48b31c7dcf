/- Texts of the proof, put together: AltCapt, AltCapt2, AltCapt3. -/
import Derived.Test.YtckhafpejefbbaaGreatDoorB19
import Derived.Test.YtckhafpejefbbaaGreatDoorB20
import Derived.Sort.QuietTacIn
import Derived.Test.YtckhafpejefbbaaGreatDoorB17

/- tree.Reach; alter.nameCaptured. -/
namespace Go.Proofs.YtckhafpejefbbaaGreatDoor
open Go.RowKit Go.Shelf

attribute [local go_sem] Oper.semAt_some

end Go.Proofs.YtckhafpejefbbaaGreatDoor

/- alter.nameCaptured of two parts. -/
namespace Go.Proofs.YtckhafpejefbbaaGreatDoor
open Go.RowKit Go.Shelf

attribute [local go_sem] Oper.semAt_some

end Go.Proofs.YtckhafpejefbbaaGreatDoor

/- alter.nameCaptured, of every node. -/
namespace Go.Proofs.YtckhafpejefbbaaGreatDoor
open Go.RowKit Go.Shelf

attribute [local go_sem] Oper.semAt_some

def BEn.names : Tw.BEn → List (List UInt8)
  | .nil => []
  | .cons n _ o => n :: BEn.names o

theorem BEn.look_names (x : List UInt8) : ∀ e : Tw.BEn, e.look x = none ↔ x ∉ BEn.names e
  | .nil => by simp [Tw.BEn.look, BEn.names]
  | .cons n k o => by
    simp only [Tw.BEn.look, BEn.names, List.mem_cons, not_or]
    by_cases h : n = x
    · simp [h]
    · rw [if_neg h, BEn.look_names x o]
      exact ⟨fun q => ⟨fun e => h e.symm, q⟩, fun q => q.2⟩

theorem any_append_free (f : NB → Bool) (L M : List NB) : (freeL (L ++ M)).any f = ((freeL L).any f || (freeL M).any f) := by rw [freeL_append, List.any_append]

end Go.Proofs.YtckhafpejefbbaaGreatDoor
