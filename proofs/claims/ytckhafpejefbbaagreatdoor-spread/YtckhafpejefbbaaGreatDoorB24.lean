/- Texts of the proof, put together: AltRen2. -/
import Derived.Test.YtckhafpejefbbaaGreatDoorB23
import Derived.Test.YtckhafpejefbbaaGreatDoorB14

/- alter.Rename: the text with another name. -/
namespace Go.Proofs.YtckhafpejefbbaaGreatDoor
open Go.RowKit Go.Shelf

attribute [local go_sem] sa_load sa_store sa_move sa_nil sa_field sa_build sa_slice

def Tw.T.bat : Tw.T → Nat
  | .fn _ _ _ k _ => k
  | .lett _ _ _ _ k _ _ => k
  | _ => 0

theorem bind_at {x : TN} {A : Addr} (h : x.bind = some A) {w : World} {hi : Nat} (hr : Rep w 0 hi x.t x.v) : ∃ k o c t, A = ⟨k, o, none⟩ ∧ w.heap[k]? = some (.cells c t (0, 0)) ∧ keepT.contains t = true ∧ c[o]? = some (bytesV x.t.bname) ∧ c[o + 1]? = some (.int .i64 x.t.bat) := by
  obtain ⟨t, v⟩ := x
  cases t with
  | fn fr to bn bat b =>
    obtain ⟨v1, ⟨k, _, _, rfl, hb⟩, _⟩ := hr
    simp only [TN.bind, Option.some.injEq] at h
    subst h
    exact ⟨k, 2, _, _, rfl, hb, by decide, rfl, rfl⟩
  | lett fr to rc bn bat d b =>
    obtain ⟨v1, v2, ⟨k, _, _, rfl, hb⟩, _⟩ := hr
    simp only [TN.bind, Option.some.injEq] at h
    subst h
    exact ⟨k, 3, _, _, rfl, hb, by decide, rfl, rfl⟩
  | _ => simp [TN.bind] at h

def chCells (cs : List (Nat × Nat × List UInt8)) : List Value := cs.flatMap fun c => [.int .i64 c.1, .int .i64 c.2.1, bytesV c.2.2]

theorem chCells_length (cs : List (Nat × Nat × List UInt8)) : (chCells cs).length = cs.length * 3 := by
  induction cs with
  | nil => rfl
  | cons c cs ih => simp only [chCells, List.flatMap_cons, List.length_append, List.length_cons, List.length_nil] at ih ⊢; omega

theorem chCells_at : ∀ (cs : List (Nat × Nat × List UInt8)) (i : Nat) (h : i < cs.length), (chCells cs)[i * 3]? = some (.int .i64 cs[i].1) ∧ (chCells cs)[i * 3 + 1]? = some (.int .i64 cs[i].2.1) ∧ (chCells cs)[i * 3 + 2]? = some (bytesV cs[i].2.2)
  | c :: cs, 0, _ => ⟨rfl, rfl, rfl⟩
  | c :: cs, i + 1, h => by
    have := chCells_at cs i (by simpa using h)
    rw [show (i + 1) * 3 = (i * 3) + 3 by omega, show i * 3 + 3 + 1 = (i * 3 + 1) + 3 by omega, show i * 3 + 3 + 2 = (i * 3 + 2) + 3 by omega]
    exact this

theorem chAt_of {w : World} {B : Nat} {v : Value} {cs : List (Nat × Nat × List UInt8)} (h0 : cs ≠ []) (h : w.ownsRow B 145 3 v cs.length (chCells cs)) : ∃ g cap, v = .slice (some ⟨g, 0, none⟩) cs.length cap ∧ B ≤ g ∧ g < w.heap.size ∧ ChAt w g cs := by
  rcases h.2 with ⟨_, e⟩ | ⟨g, cap, cur, rfl, hg, hb, h1, h2, h3, h4⟩
  · exact absurd (List.length_eq_zero_iff.1 e) h0
  · refine ⟨g, cap, rfl, hg, (Array.getElem?_eq_some_iff.1 hb).1, fun i hi => ?_⟩
    have key : ∀ j, j < cs.length * 3 → w.cell? ⟨g, j, none⟩ = (chCells cs)[j]? := fun j hj => by
      rw [cell_of_row _ _ _ _ _ _ hb, ← h4, List.getElem?_take_of_lt hj]
      simp
    obtain ⟨a, b, c⟩ := chCells_at cs i hi
    exact ⟨(key _ (by omega)).trans a, (key _ (by omega)).trans b, (key _ (by omega)).trans c⟩

theorem two_a (w : World) (o o' : Obj) : ((w.alloc o).alloc o').heap[w.heap.size + 1]? = some o' ∧ ((w.alloc o).alloc o').heap[w.heap.size]? = some o := by
  have h := new_block (w.alloc o) o'
  rw [World.size_alloc] at h
  exact ⟨h, (Below.heap_alloc _ _ _ (by simp)).trans (new_block w o)⟩

end Go.Proofs.YtckhafpejefbbaaGreatDoor
