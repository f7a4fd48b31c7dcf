/- Texts of the proof, put together: RowBase, RowLib. -/
import Derived.Test.YtckhafpejefbbaaGreatDoorB18
import Derived.Test.YtckhafpejefbbaaGreatDoorB01
import Derived.Test.YtckhafpejefbbaaGreatDoorRows
import Derived.Test.YtckhafpejefbbaaGreatDoorCards
import Derived.Test.YtckhafpejefbbaaGreatDoorTie
import Derived.ChangeSame
import Derived.ChangeVars
import Derived.JoinedOf
import Derived.RowKit
import Derived.RowKitTokens
import Derived.LaidLaws
import Derived.LaidMore
import Derived.OpenShut
import Derived.ProofKit
import Derived.Stop.Joined
import Derived.SevenTiedAt
import Derived.Carry

/- What the rows share: the library's contracts, what is listed, arguments read again. -/
namespace Go.Proofs.YtckhafpejefbbaaGreatDoor
open Go.ChangeShapes Go.WideShapes Go.ChangeAt Go.RowKit

theorem grown_bytesWorld (w : World) (e : TypeId) (s : ByteArray) : w.grownBy (Lib.bytesWorld w e s) none :=
  ⟨rfl, rfl, rfl, by rw [Lib.bytesWorld_size]; omega, fun k hk _ => Lib.bytesWorld_at_old w e s k hk⟩

theorem grown_grow (w : World) (k : Nat) (os : Array Obj) : w.grownBy (Sort.grow (w.drewN k) os) none :=
  ⟨rfl, rfl, rfl, by simp [Sort.grow], fun i hi _ => by simp [Sort.grow, Array.getElem?_append, hi]⟩

theorem lib4 : Lib4 :=
  { ib := fun s c w => (Tryz.strings_IndexByte s c w).mono fun e w' ⟨h1, h2⟩ => ⟨h1, h2.symm⟩
    pi := fun s hs v h w => (Tryz.strconv_ParseInt_10_at64_ok s (by omega) v h w).mono fun e w' ⟨h1, h2⟩ => ⟨h1, by
      rcases h2 with rfl | ⟨t, rfl⟩
      · exact grown_refl _
      · exact grown_bytesWorld _ _ _⟩
    fi := fun n h0 h1 w hT => (Tryz.strconv_FormatInt_10 n h0 h1 w hT).mono fun e w' ⟨h1, k, os, h2⟩ => ⟨h1, by rw [h2]; exact grown_grow _ _ _⟩
    fb := fun b w => (Tryz.strconv_FormatBool b w).mono fun e w' ⟨h1, h2⟩ => ⟨by rw [h1]; cases b <;> rfl, h2.symm⟩ }

theorem own : ownKnob Tryz.prog.godebug = none := by kernel_rfl
theorem tPow : (Tryz.prog.globals[1]?).map (fun x => x.type) = some 378 := by kernel_rfl

/-- What is listed. -/
abbrev laid5 : List (String × DataW Unit) := Rows.recursiveRow.laid

/-- What the condition gives the walks: the table. -/
theorem of_laid {W : World} (h : laidMetH Tryz.prog laid5 W) : Tab W ∧ 1 < W.heap.size := by
  rw [MakeChecks.laidMetH_plain _ _ _ (by kernel_rfl)] at h
  obtain ⟨ps, ⟨g0, t0, cs0, f0, p0, q0, hg0, ht0, hv0, hd0, ⟨g1, t1, cs1, f1, p1, q1, hg1, ht1, hv1, hd1, ⟨g2, t2, cs2, f2, p2, q2, hg2, ht2, hv2, hd2, _, _⟩, _⟩, _⟩, _, _⟩ := h
  obtain rfl := Option.some.inj (gPow.symm.trans hg2)
  obtain rfl := Option.some.inj (tPow.symm.trans ht2)
  have hz : (Rows.laid_internal_strconv_uint64pow10 : DataW Unit) = Lib.tabData .u64 Lib.pow10Tab := by kernel_rfl
  have hT : Tab W := by
    show W.var? Tryz.prog "internal/strconv.uint64pow10" = _
    rw [hv2]
    have := Lib.cells_of_tab (zs := Lib.pow10Tab) Tryz.underlying378 Tryz.underlying372 (by kernel_rfl) (by kernel_rfl) (by rw [← hz]; exact hd2)
    rw [← this]
  refine ⟨hT, ?_⟩
  rcases Nat.lt_or_ge 1 W.heap.size with h1 | h1
  · exact h1
  · have hv : W.var? Tryz.prog "internal/strconv.uint64pow10" = _ := hT
    unfold World.var? at hv
    rw [gPow] at hv
    simp only [Option.bind_some] at hv
    rw [Array.getElem?_eq_none h1] at hv
    simp at hv

/-- The door's own heap meets the condition. -/
theorem door_met (os : Os) (args : Array Value) : laidMetH Tryz.prog laid5 ((World.doorLaid Tryz.prog 62 os).forCall (fun _ _ => 0) ⟨#[], args, []⟩).memory :=
  laidMetH_of_parts3 (fuel := 8) (laidMet_of_run' 8 (by kernel_rfl) (by kernel_rfl)) (by kernel_rfl) (by kernel_rfl)

theorem keptBut_of_grown {W W' : World} (h : W.grownBy W' none) (may : MemPlace → Prop) : W.keptBut W' may := by
  refine ⟨h.os, h.output, fun i hi => ?_⟩
  rw [h.block i hi (by simp)]
  cases W.heap[i]? with
  | none => trivial
  | some o => cases o <;> simp

theorem laidOut : laidOutB Tryz.prog = true := by kernel_rfl

theorem below_of_grown {W W' : World} (h : W.grownBy W' none) : Below W.heap.size W W' := ⟨h.os, h.tape, h.output, h.size, fun k hk => h.block k hk (by simp)⟩

/-- Arguments read behind the call as they did. -/
theorem args_again0 {H : Type} {enc : TypeId × Value → H} {P : Program} (hP : laidOutB P = true) {W W' : World} (hg : W.grownBy W' none) : ∀ (ts : List TypeId) (vs : List Value) (ds : List (DataW H)) (ps : List MemPlace),
    (ts.all fun t => P.readableRec t && decide (t < P.types.size)) = true → (∀ x ∈ ps, x.block < W.heap.size) → DataW.TrodAll enc P W 0 (fun _ => true) true ts vs ds ps → DataW.TrodAll enc P W' 0 (fun b => decide (b < W.heap.size)) true ts vs ds ps
  | [], [], [], _, _, _, h => h
  | t :: ts, v :: vs, d :: ds, ps, hr, hl, h => by
    obtain ⟨p, q, h1, h2, rfl⟩ := h
    simp only [List.all_cons, Bool.and_eq_true, decide_eq_true_eq] at hr
    exact ⟨p, q, Below.trod hP hr.1.1 hr.1.2 h1 (below_of_grown hg) (fun x hx => hl x (List.mem_append.2 (.inl hx))), args_again0 hP hg ts vs ds q hr.2 (fun x hx => hl x (List.mem_append.2 (.inr hx))) h2, rfl⟩
  | [], [], _ :: _, _, _, _, h => h.elim
  | [], _ :: _, _, _, _, _, h => h.elim
  | _ :: _, [], _, _, _, _, h => h.elim
  | _ :: _, _ :: _, [], _, _, _, h => h.elim

theorem args_again {H : Type} {enc : TypeId × Value → H} {W W' : World} (hg : W.grownBy W' none) {ts : List TypeId} {vs : List Value} {ds : List (DataW H)} {ps : List MemPlace}
    (hr : (ts.all fun t => Tryz.prog.readableRec t && decide (t < Tryz.prog.types.size)) = true) (hl : ∀ x ∈ ps, x.block < W.heap.size) (h : DataW.TrodAll enc Tryz.prog W 0 (fun _ => true) true ts vs ds ps) : DataW.TrodAll enc Tryz.prog W' 0 (fun b => decide (b < W.heap.size)) true ts vs ds ps :=
  args_again0 laidOut hg ts vs ds ps hr hl h

end Go.Proofs.YtckhafpejefbbaaGreatDoor

/- The library's contracts, one more. -/
namespace Go.Proofs.YtckhafpejefbbaaGreatDoor
open Go.ChangeShapes Go.WideShapes Go.ChangeAt Go.RowKit

theorem lib5 : Lib5 := { lib4 with it := fun i hi w => (Tryz.strconv_Itoa_small i hi w).mono fun _ _ ⟨h1, h2⟩ => ⟨h1, h2.symm⟩ }

end Go.Proofs.YtckhafpejefbbaaGreatDoor
