/- Texts of the proof, put together: AltRen, AppIn. -/
import Derived.Test.YtckhafpejefbbaaGreatDoorB22
import Derived.Maps.AppendAt
import Derived.RangeFuncBox
import Derived.OwnWalkIn
import Derived.Test.YtckhafpejefbbaaGreatDoorB17
import Derived.Test.YtckhafpejefbbaaGreatDoorB14

/- alter.Rename: the text with another name, or a refusal. -/
namespace Go.Proofs.YtckhafpejefbbaaGreatDoor
open Go.RowKit

end Go.Proofs.YtckhafpejefbbaaGreatDoor

/- append in a round, in a region whose order is drawn. -/
namespace Go.Proofs.YtckhafpejefbbaaGreatDoor
open Go.RowKit

section
variable (l : Nat) (ρ : Operand → Value) (d : Option Tmp) (ty : TypeId) (p : String) (af : Array Edge) (g : Option (Nat × Bool))
theorem sa_load (t : TypeId) (x : Operand) : Oper.semAt (some l) ρ { dst := d, op := .load t x, type := ty, pos := p, after := af, guard := g } = execOp ρ { dst := d, op := .load t x, type := ty, pos := p, after := af, guard := g } := rfl
theorem sa_store (t : TypeId) (x y : Operand) : Oper.semAt (some l) ρ { dst := d, op := .store t x y, type := ty, pos := p, after := af, guard := g } = execOp ρ { dst := d, op := .store t x y, type := ty, pos := p, after := af, guard := g } := rfl
theorem sa_move (x : Operand) : Oper.semAt (some l) ρ { dst := d, op := .move x, type := ty, pos := p, after := af, guard := g } = execOp ρ { dst := d, op := .move x, type := ty, pos := p, after := af, guard := g } := rfl
theorem sa_nil (x : Operand) : Oper.semAt (some l) ρ { dst := d, op := .nilCheck x, type := ty, pos := p, after := af, guard := g } = execOp ρ { dst := d, op := .nilCheck x, type := ty, pos := p, after := af, guard := g } := rfl
theorem sa_field (t : TypeId) (x : Operand) (i : Nat) : Oper.semAt (some l) ρ { dst := d, op := .fieldAddr t x i, type := ty, pos := p, after := af, guard := g } = execOp ρ { dst := d, op := .fieldAddr t x i, type := ty, pos := p, after := af, guard := g } := rfl
theorem sa_build (t : TypeId) (x : Array (Nat × Operand)) : Oper.semAt (some l) ρ { dst := d, op := .build t x, type := ty, pos := p, after := af, guard := g } = execOp ρ { dst := d, op := .build t x, type := ty, pos := p, after := af, guard := g } := rfl
theorem sa_slice (t : TypeId) (n : Nat) (x : Array (Nat × Operand)) : Oper.semAt (some l) ρ { dst := d, op := .buildSlice t n x, type := ty, pos := p, after := af, guard := g } = execOp ρ { dst := d, op := .buildSlice t n x, type := ty, pos := p, after := af, guard := g } := rfl
end

theorem uponIn_append {F : Fence} {l n : Nat} {P : Program} (w : World) {o : Oper} {a : Act} {K : Act → World → Prop} {Q : Exit → Act → World → Prop}
    (s x : Operand) (t : TypeId) (hop : o.op = Op.call { callee := Callee.builtin Builtin.append, args := #[s, x], argTypes := #[t, t] })
    (base : Nat) (e : TypeId) (i : TypeInfo) (z : Value) (size bytes : Nat) (h1 : P.underlying t = some (.slice e)) (h2 : P.info? e = some i) (h3 : i.zero = some z) (h4 : i.size = size) (h5 : i.bytes = bytes) (h6 : z.cells.size = size) (h7 : 0 < size)
    (v : Value) (k : Nat) (xs : List Value) (hs : a.eval s = v) (hown : w.ownsRow base e size v k xs) (ad : Addr) (m c : Nat) (news : List Value) (hx : a.eval x = .slice (some ad) m c) (hn : news.length = m * size)
    (hc : ∀ j u, news[j]? = some u → w.cell? (ad.add j) = some u) (h1c : ∀ u ∈ news, u.oneCell' = true) (b1 : k + m ≤ maxLen) (b2 : (k + m) * bytes ≤ 140737488355328) (b3 : base ≤ w.heap.size)
    (hK : ∀ v' w', w'.ownsRow base e size v' (k + m) (xs ++ news) → w.grownBy w' v.ownBlock → K (a.put o.dst v') w') :
    Oper.uponIn F n P o a K Q (Sem.run P (Oper.semAt (some l) a.eval o) w) := by
  obtain ⟨v', w', hrun, r1, r2, _⟩ := run_append_own (P := P) w base t o.type e i z size bytes h1 h2 h3 h4 h5 h6 h7 v k xs hown ad m c news hn hc h1c b1 b2 b3
  rw [Oper.semAt_some l _ _ (by rw [hop]; intro c hc'; cases hc')]
  simp [execOp, hop, resolve, invoke, builtin, hs, hx, hrun, Result.andThen]
  exact hK _ _ r1 r2

theorem kp_appended {X w1 : World} {n₀ B : Nat} {t e : TypeId} {size : Nat} {v v' : Value} {k : Nat} {xs : List Value} {tmp : Obj} (hv : Boxed X B t v) (hrow : X.ownsRow n₀ e size v k xs) (hgrow : (X.alloc tmp).grownBy w1 v.ownBlock) (h1 : keepT.contains t = false) (h2 : keepT.contains e = false) : Kp X (w1.setCell ⟨B, 0, none⟩ v') := by
  intro j c u m hj hu
  have hb : B ≠ j := by
    rintro rfl
    have : X.heap[B]? = _ := hv
    rw [hj] at this
    cases this
    rw [h1] at hu
    cases hu
  have hlt := (Array.getElem?_eq_some_iff.1 hj).1
  rw [Below.heap_setCell _ _ _ _ hb.symm]
  rw [hgrow.block j (by simp; omega) ?_]
  · exact (Below.heap_alloc _ _ _ hlt).trans hj
  · intro e1
    rcases hrow.2 with ⟨rfl, _⟩ | ⟨g, cap, cur, rfl, _, hg, _⟩
    · cases e1
    · cases e1
      rw [hj] at hg
      cases hg
      rw [h2] at hu
      cases hu

end Go.Proofs.YtckhafpejefbbaaGreatDoor
