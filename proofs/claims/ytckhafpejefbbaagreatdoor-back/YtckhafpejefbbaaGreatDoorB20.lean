/- Texts of the proof, put together: PosThy, LexRen, LexRen2, ChgThy, RowLib, RangeO, Parts2. -/
import Derived.Test.YtckhafpejefbbaaGreatDoorB19
import Derived.Test.YtckhafpejefbbaaGreatDoorB17
import Derived.Test.YtckhafpejefbbaaGreatDoorB18
import Derived.RangeFuncNested
import Derived.RangeFuncBound
import Derived.RangeFuncCalls
import Derived.RangeFuncLeaves
import Derived.Shelf.Abstract
import Derived.Shelf.RegionOpen
import Derived.WalkKit
import Derived.OwnWalkIn
import Derived.TacticsInMore
import Derived.Test.YtckhafpejefbbaaGreatDoorB11

/- The places of names and binders in a tree that was parsed: each is a token's, in their order. -/
namespace Go.Proofs.YtckhafpejefbbaaGreatDoor.Tw
open Go

def T.spans : T → List (Nat × Nat × List UInt8)
  | .name f t z => [(f, t, z)]
  | .int .. | .truth .. | .side .. => []
  | .bracket _ _ i => i.spans
  | .pair _ _ x y => x.spans ++ y.spans
  | .call _ _ x y => x.spans ++ y.spans
  | .binary _ _ _ x y => x.spans ++ y.spans
  | .cond _ _ x y z => x.spans ++ (y.spans ++ z.spans)
  | .fn _ _ n k x => (k, k + n.length, n) :: x.spans
  | .lett _ _ _ n k x y => (k, k + n.length, n) :: (x.spans ++ y.spans)

theorem places_spans : ∀ t : T, t.places = t.spans.map (·.1)
  | .name .. | .int .. | .truth .. | .side .. => rfl
  | .bracket _ _ i => places_spans i
  | .pair _ _ x y => by simp [T.places, T.spans, places_spans x, places_spans y]
  | .call _ _ x y => by simp [T.places, T.spans, places_spans x, places_spans y]
  | .binary _ _ _ x y => by simp [T.places, T.spans, places_spans x, places_spans y]
  | .cond _ _ x y z => by simp [T.places, T.spans, places_spans x, places_spans y, places_spans z]
  | .fn _ _ n k x => by simp [T.places, T.spans, places_spans x]
  | .lett _ _ _ n k x y => by simp [T.places, T.spans, places_spans x, places_spans y]

def tokAt (ts : List Tok) (i : Nat) : Tok := (ts[i]?).getD ⟨0, 0, 0⟩

def tokSpan (l : List UInt8) (t : Tok) : Nat × Nat × List UInt8 := (t.fr, t.to, piece l t.fr t.to)

def Pl (l : List UInt8) (ts : List Tok) (lo hi : Nat) (L : List (Nat × Nat × List UInt8)) : Prop :=
  ∃ is : List Nat, is.Pairwise (· < ·) ∧ (∀ i ∈ is, lo ≤ i ∧ i < hi ∧ ∃ t, ts[i]? = some t ∧ t.sort = 1) ∧ L = is.map fun i => tokSpan l (tokAt ts i)

variable {l : List UInt8} {ts : List Tok}

theorem Pl.nil {lo hi : Nat} : Pl l ts lo hi [] := ⟨[], .nil, fun i h => (by cases h), rfl⟩

theorem Pl.wide {lo hi lo' hi' : Nat} {L : List (Nat × Nat × List UInt8)} (h : Pl l ts lo hi L) (h1 : lo' ≤ lo) (h2 : hi ≤ hi') : Pl l ts lo' hi' L := by
  obtain ⟨is, a, b, c⟩ := h
  exact ⟨is, a, fun i hi => ⟨by have := (b i hi).1; omega, by have := (b i hi).2.1; omega, (b i hi).2.2⟩, c⟩

theorem Pl.append {lo mid hi : Nat} {A B : List (Nat × Nat × List UInt8)} (h : Pl l ts lo mid A) (k : Pl l ts mid hi B) (h1 : lo ≤ mid) (h2 : mid ≤ hi) : Pl l ts lo hi (A ++ B) := by
  obtain ⟨is, a, b, rfl⟩ := h
  obtain ⟨js, c, d, rfl⟩ := k
  refine ⟨is ++ js, List.pairwise_append.2 ⟨a, c, fun i hi j hj => by have := (b i hi).2.1; have := (d j hj).1; omega⟩, fun i hi => ?_, by simp⟩
  rcases List.mem_append.1 hi with hi | hi
  · exact ⟨(b i hi).1, by have := (b i hi).2.1; omega, (b i hi).2.2⟩
  · exact ⟨by have := (d i hi).1; omega, (d i hi).2.1, (d i hi).2.2⟩

theorem Pl.one {i hi : Nat} {t : Tok} (ht : ts[i]? = some t) (hs : t.sort = 1) (h : i < hi) : Pl l ts i hi [tokSpan l t] :=
  ⟨[i], by simp, fun j hj => by simp only [List.mem_singleton] at hj; subst hj; exact ⟨Nat.le_refl _, h, t, ht, hs⟩, by simp [tokAt, ht]⟩

def Pos (l : List UInt8) (ts : List Tok) (st : PS) (r : T) (st' : PS) : Prop := st.next ≤ st'.next ∧ Pl l ts st.next st'.next r.spans

structure OAll (l : List UInt8) (ts : List Tok) (n : Nat) : Prop where
  expr : ∀ {s s' : PS} {r : T}, exprS l ts n s = some (r, s') → s'.stuck = false → Pos l ts s r s'
  lett : ∀ {s s' : PS} {r : T}, letS l ts n s = some (r, s') → s'.stuck = false → Pos l ts s r s'
  fn : ∀ {s s' : PS} {r : T}, funS l ts n s = some (r, s') → s'.stuck = false → Pos l ts s r s'
  cond : ∀ {s s' : PS} {r : T}, condS l ts n s = some (r, s') → s'.stuck = false → Pos l ts s r s'
  cmp : ∀ {s s' : PS} {r : T}, cmpS l ts n s = some (r, s') → s'.stuck = false → Pos l ts s r s'
  sum : ∀ {s s' : PS} {r : T}, sumS l ts n s = some (r, s') → s'.stuck = false → Pos l ts s r s'
  term : ∀ {s s' : PS} {r : T}, termS l ts n s = some (r, s') → s'.stuck = false → Pos l ts s r s'
  part : ∀ {p : Part} {s s' : PS} {r : T}, partS l ts n p s = some (r, s') → s'.stuck = false → Pos l ts s r s'
  chain : ∀ {p : Part} {g : List Int} {s s' : PS} {r : T}, (∀ x ∈ g, x ≠ 0) → chainS l ts n p g s = some (r, s') → s'.stuck = false → Pos l ts s r s'
  chainFrom : ∀ {p : Part} {g : List Int} {a : T} {lo : Nat} {s s' : PS} {r : T}, (∀ x ∈ g, x ≠ 0) → lo ≤ s.next → Pl l ts lo s.next a.spans → chainFromS l ts n p g a s = some (r, s') → s'.stuck = false → s.next ≤ s'.next ∧ Pl l ts lo s'.next r.spans
  call : ∀ {s s' : PS} {r : T}, callS l ts n s = some (r, s') → s'.stuck = false → Pos l ts s r s'
  callFrom : ∀ {a : T} {lo : Nat} {s s' : PS} {r : T}, lo ≤ s.next → Pl l ts lo s.next a.spans → callFromS l ts n a s = some (r, s') → s'.stuck = false → s.next ≤ s'.next ∧ Pl l ts lo s'.next r.spans
  atom : ∀ {s s' : PS} {r : T}, atomS l ts n s = some (r, s') → s'.stuck = false → Pos l ts s r s'
  bracket : ∀ {s s' : PS} {r : T}, bracketS l ts n s = some (r, s') → s'.stuck = false → Pos l ts s r s'

theorem take_next {s : Int} {st st' : PS} {t : Tok} (h : takeS ts s st = some (t, st')) (hs : st'.stuck = false) (h0 : s ≠ 0) : st'.next = st.next + 1 ∧ ts[st.next]? = some t ∧ t.sort = s := by
  have hst := (takeS_mild h).1 hs
  obtain ⟨h1, h2, rfl, _⟩ := takeS_fine h hs h0
  refine ⟨rfl, ?_, h2⟩
  unfold tokS at h1
  rw [hst] at h1
  simpa using h1

theorem begin_next {s : Int} {st st' : PS} {k : Nat} (h : beginS ts s st = some (k, st')) (hs : st'.stuck = false) (h0 : s ≠ 0) : st'.next = st.next + 1 := by
  have d1 := (begin_deep h hs).1
  unfold beginS at h
  rw [if_neg d1, Option.bind_some] at h
  split at h
  · obtain ⟨⟨t1, s3⟩, h2, h⟩ := Option.bind_eq_some_iff.1 h
    cases h
    exact (take_next h2 hs h0).1
  · cases h

theorem any_next : ∀ {g : List Int} {st st' : PS} {k : Int}, (∀ x ∈ g, x ≠ 0) → takeAnyS ts g st = some (k, st') → st'.stuck = false → st.next ≤ st'.next
  | [], st, st', k, _, h, _ => by cases h; exact Nat.le_refl _
  | x :: g, st, st', k, h0, h, hs => by
    rw [takeAnyS] at h
    obtain ⟨t, ht, h⟩ := Option.bind_eq_some_iff.1 h
    split at h
    · obtain ⟨⟨t1, s3⟩, h2, h⟩ := Option.bind_eq_some_iff.1 h
      cases h
      have := (take_next h2 hs (h0 x (by simp))).1
      simp only at this ⊢
      omega
    · exact any_next (fun y hy => h0 y (by simp [hy])) h hs

theorem end_next {st st' : PS} (h : endS st = some st') : st'.next = st.next := by
  unfold endS at h
  split at h
  · cases h
  · cases h; rfl

theorem binder_next {st st' : PS} {x : List UInt8} {k : Nat} (h : binderS l ts st = some ((x, k), st')) (hs : st'.stuck = false) : st'.next = st.next + 1 ∧ Pl l ts st.next st'.next [(k, k + x.length, x)] := by
  unfold binderS at h
  obtain ⟨⟨t, s3⟩, h1, h⟩ := Option.bind_eq_some_iff.1 h
  split at h
  · rename_i hc
    cases h
    obtain ⟨a, b, c⟩ := take_next h1 hs (by decide)
    refine ⟨a, ?_⟩
    have e : (t.fr, t.fr + (piece l t.fr t.to).length, piece l t.fr t.to) = tokSpan l t := by
      simp only [tokSpan, Prod.mk.injEq, true_and, and_true]
      simp only [piece, List.length_take, List.length_drop]
      have := hc.1
      have := hc.2
      simp only at *
      omega
    rw [e, a]
    exact Pl.one b c (Nat.lt_succ_self _)
  · cases h

theorem pos_all (l : List UInt8) (ts : List Tok) : ∀ n, OAll l ts n
  | 0 => by constructor <;> (intros; simp_all [exprS, letS, funS, condS, cmpS, sumS, termS, partS, chainS, chainFromS, callS, callFromS, atomS, bracketS])
  | n + 1 => by
    have ih := pos_all l ts n
    have M := mild_all l ts n
    constructor
    case expr =>
      intro s s' r h hs
      rw [exprS] at h
      obtain ⟨t, _, h⟩ := Option.bind_eq_some_iff.1 h
      split at h
      · exact ih.lett h hs
      split at h
      · exact ih.fn h hs
      split at h
      · exact ih.cond h hs
      · exact ih.cmp h hs
    case lett =>
      intro s s' r h hs
      simp only [letS, Option.bind_eq_some_iff, Option.some.injEq, Prod.mk.injEq, Prod.exists] at h
      obtain ⟨k, t1, h1, rc, t2, h2, bn, bat, t3, h3, c4, t4, h4, d, t5, h5, c6, t6, h6, x, t7, h7, t8, h8, rfl, rfl⟩ := h
      have a7 : t7.stuck = false := by rw [← (endS_mild h8).1]; exact hs
      have a6 := (M.expr h7).1 a7
      have a5 := (takeS_mild h6).1 a6
      have a4 := (M.expr h5).1 a5
      have a3 := (takeS_mild h4).1 a4
      have a2 := (binderS_mild h3).1 a3
      have a1 := (takeAnyS_mild h2).1 a2
      have n1 := begin_next h1 a1 (by decide)
      have n2 := any_next (by decide) h2 a2
      obtain ⟨n3, p3⟩ := binder_next h3 a3
      have n4 := (take_next h4 a4 (by decide)).1
      obtain ⟨n5, p5⟩ := ih.expr h5 a5
      have n6 := (take_next h6 a6 (by decide)).1
      obtain ⟨n7, p7⟩ := ih.expr h7 a7
      have n8 := end_next h8
      refine ⟨by omega, ?_⟩
      have q := ((p5.wide (Nat.le_refl _) (by omega : t5.next ≤ t6.next)).append p7 (by omega) (by omega))
      exact (p3.append (q.wide (by omega : t3.next ≤ t4.next) (by omega : t7.next ≤ t8.next)) (by omega) (by omega)).wide (by omega) (Nat.le_refl _)
    case fn =>
      intro s s' r h hs
      simp only [funS, Option.bind_eq_some_iff, Option.some.injEq, Prod.mk.injEq, Prod.exists] at h
      obtain ⟨k, t1, h1, bn, bat, t3, h3, c4, t4, h4, d, t5, h5, t8, h8, rfl, rfl⟩ := h
      have a5 : t5.stuck = false := by rw [← (endS_mild h8).1]; exact hs
      have a4 := (M.expr h5).1 a5
      have a3 := (takeS_mild h4).1 a4
      have a1 := (binderS_mild h3).1 a3
      have n1 := begin_next h1 a1 (by decide)
      obtain ⟨n3, p3⟩ := binder_next h3 a3
      have n4 := (take_next h4 a4 (by decide)).1
      obtain ⟨n5, p5⟩ := ih.expr h5 a5
      have n8 := end_next h8
      refine ⟨by omega, ?_⟩
      exact (p3.append (p5.wide (by omega : t3.next ≤ t4.next) (by omega : t5.next ≤ t8.next)) (by omega) (by omega)).wide (by omega) (Nat.le_refl _)
    case cond =>
      intro s s' r h hs
      simp only [condS, Option.bind_eq_some_iff, Option.some.injEq, Prod.mk.injEq, Prod.exists] at h
      obtain ⟨k, t1, h1, x, t2, h2, c3, t3, h3, y, t4, h4, c5, t5, h5, z, t6, h6, t8, h8, rfl, rfl⟩ := h
      have a6 : t6.stuck = false := by rw [← (endS_mild h8).1]; exact hs
      have a5 := (M.expr h6).1 a6
      have a4 := (takeS_mild h5).1 a5
      have a3 := (M.expr h4).1 a4
      have a2 := (takeS_mild h3).1 a3
      have a1 := (M.expr h2).1 a2
      have n1 := begin_next h1 a1 (by decide)
      obtain ⟨n2, p2⟩ := ih.expr h2 a2
      have n3 := (take_next h3 a3 (by decide)).1
      obtain ⟨n4, p4⟩ := ih.expr h4 a4
      have n5 := (take_next h5 a5 (by decide)).1
      obtain ⟨n6, p6⟩ := ih.expr h6 a6
      have n8 := end_next h8
      refine ⟨by omega, ?_⟩
      have q := (p4.wide (Nat.le_refl _) (by omega : t4.next ≤ t5.next)).append p6 (by omega) (by omega)
      exact ((p2.wide (by omega : s.next ≤ t1.next) (by omega : t2.next ≤ t3.next)).append (q.wide (Nat.le_refl _) (by omega : t6.next ≤ t8.next)) (by omega) (by omega))
    case cmp =>
      intro s s' r h hs
      simp only [cmpS, Option.bind_eq_some_iff, Prod.exists] at h
      obtain ⟨x, t1, h1, sg, t2, h2, h⟩ := h
      split at h
      · cases h
        have a1 := (takeAnyS_mild h2).1 hs
        obtain ⟨n1, p1⟩ := ih.sum h1 a1
        have n2 := any_next (by decide) h2 hs
        exact ⟨by omega, p1.wide (Nat.le_refl _) n2⟩
      · simp only [Option.bind_eq_some_iff, Option.some.injEq, Prod.mk.injEq, Prod.exists] at h
        obtain ⟨y, t3, h3, rfl, rfl⟩ := h
        have a2 := (M.sum h3).1 hs
        have a1 := (takeAnyS_mild h2).1 a2
        obtain ⟨n1, p1⟩ := ih.sum h1 a1
        have n2 := any_next (by decide) h2 a2
        obtain ⟨n3, p3⟩ := ih.sum h3 hs
        exact ⟨by omega, (p1.wide (Nat.le_refl _) n2).append p3 (by omega) n3⟩
    case sum =>
      intro s s' r h hs
      rw [sumS] at h
      exact ih.chain (by decide) h hs
    case term =>
      intro s s' r h hs
      rw [termS] at h
      exact ih.chain (by decide) h hs
    case part =>
      intro p s s' r h hs
      cases p with
      | term => rw [partS] at h; exact ih.term h hs
      | call => rw [partS] at h; exact ih.call h hs
    case chain =>
      intro p g s s' r hg h hs
      simp only [chainS, Option.bind_eq_some_iff, Prod.exists] at h
      obtain ⟨a, t1, h1, h2⟩ := h
      have a1 := (M.chainFrom h2).1 hs
      obtain ⟨n1, p1⟩ := ih.part h1 a1
      obtain ⟨n2, p2⟩ := ih.chainFrom hg n1 p1 h2 hs
      exact ⟨by omega, p2⟩
    case chainFrom =>
      intro p g a lo s s' r hg hlo hp h hs
      simp only [chainFromS, Option.bind_eq_some_iff, Prod.exists] at h
      obtain ⟨k, t1, h1, h⟩ := h
      split at h
      · cases h
        have n1 := any_next hg h1 hs
        exact ⟨n1, hp.wide (Nat.le_refl _) n1⟩
      · simp only [Option.bind_eq_some_iff, Prod.exists] at h
        obtain ⟨c, t2, h2, h3⟩ := h
        have a2 := (M.chainFrom h3).1 hs
        have a1 := (M.part h2).1 a2
        have n1 := any_next hg h1 a1
        obtain ⟨n2, p2⟩ := ih.part h2 a2
        obtain ⟨n3, p3⟩ := ih.chainFrom hg (lo := lo) (by omega) ((hp.wide (Nat.le_refl _) n1).append p2 (by omega) n2) h3 hs
        exact ⟨by omega, p3⟩
    case call =>
      intro s s' r h hs
      simp only [callS, Option.bind_eq_some_iff, Prod.exists] at h
      obtain ⟨a, t1, h1, h2⟩ := h
      have a1 := (M.callFrom h2).1 hs
      obtain ⟨n1, p1⟩ := ih.atom h1 a1
      obtain ⟨n2, p2⟩ := ih.callFrom n1 p1 h2 hs
      exact ⟨by omega, p2⟩
    case callFrom =>
      intro a lo s s' r hlo hp h hs
      simp only [callFromS, Option.bind_eq_some_iff] at h
      obtain ⟨t, ht, h⟩ := h
      split at h
      · simp only [Option.bind_eq_some_iff, Prod.exists] at h
        obtain ⟨c, t3, h2, h3⟩ := h
        have a2 := (M.callFrom h3).1 hs
        obtain ⟨n2, p2⟩ := ih.atom h2 a2
        obtain ⟨n3, p3⟩ := ih.callFrom (lo := lo) (by omega) (hp.append p2 (by omega) n2) h3 hs
        exact ⟨by omega, p3⟩
      · cases h
        exact ⟨Nat.le_refl _, hp⟩
    case atom =>
      intro s s' r h hs
      simp only [atomS, Option.bind_eq_some_iff] at h
      obtain ⟨t, ht, h⟩ := h
      split at h
      · exact ih.bracket h hs
      split at h
      · rename_i h16 hb
        simp only [Option.bind_eq_some_iff, Option.some.injEq, Prod.mk.injEq, Prod.exists] at h
        obtain ⟨c, t3, h2, x, h3, rfl, rfl⟩ := h
        simp only [beginsAtom, decide_eq_true_eq] at hb
        have h0 : t.sort ≠ 0 := by omega
        have hst := (takeS_mild h2).1 hs
        obtain ⟨n1, q1, q2⟩ := take_next h2 hs h0
        have ht' : ts[s.next]? = some t := by
          unfold tokS at ht
          rw [hst] at ht
          simpa using ht
        refine ⟨by omega, ?_⟩
        unfold leafS at h3
        split at h3
        · split at h3
          · obtain ⟨v, _, h3⟩ := Option.bind_eq_some_iff.1 h3
            cases h3
            exact Pl.nil
          · cases h3
        split at h3
        · cases h3; exact Pl.nil
        split at h3
        · cases h3; exact Pl.nil
        split at h3
        · cases h3
          exact Pl.one ht' (by omega) (by omega)
        · cases h3
      · simp only [Option.bind_eq_some_iff, Option.some.injEq, Prod.mk.injEq] at h
        obtain ⟨_, h2, rfl, rfl⟩ := h
        rw [(failS_stuck h2).1] at hs
        cases hs
    case bracket =>
      intro s s' r h hs
      simp only [bracketS, Option.bind_eq_some_iff, Prod.exists] at h
      obtain ⟨k, t1, h1, x, t2, h2, sg, t3, h3, h⟩ := h
      split at h
      · simp only [Option.bind_eq_some_iff, Option.some.injEq, Prod.mk.injEq, Prod.exists] at h
        obtain ⟨y, t4, h4, c5, t5, h5, t6, h6, rfl, rfl⟩ := h
        have a5 : t5.stuck = false := by rw [← (endS_mild h6).1]; exact hs
        have a4 := (takeS_mild h5).1 a5
        have a3 := (M.expr h4).1 a4
        have a2 := (takeAnyS_mild h3).1 a3
        have a1 := (M.expr h2).1 a2
        have n1 := begin_next h1 a1 (by decide)
        obtain ⟨n2, p2⟩ := ih.expr h2 a2
        have n3 := any_next (by decide) h3 a3
        obtain ⟨n4, p4⟩ := ih.expr h4 a4
        have n5 := (take_next h5 a5 (by decide)).1
        have n6 := end_next h6
        exact ⟨by omega, (p2.wide (by omega : s.next ≤ t1.next) n3).append (p4.wide (Nat.le_refl _) (by omega : t4.next ≤ t6.next)) (by omega) (by omega)⟩
      · simp only [Option.bind_eq_some_iff, Option.some.injEq, Prod.mk.injEq, Prod.exists] at h
        obtain ⟨c5, t5, h5, t6, h6, rfl, rfl⟩ := h
        have a5 : t5.stuck = false := by rw [← (endS_mild h6).1]; exact hs
        have a3 := (takeS_mild h5).1 a5
        have a2 := (takeAnyS_mild h3).1 a3
        have a1 := (M.expr h2).1 a2
        have n1 := begin_next h1 a1 (by decide)
        obtain ⟨n2, p2⟩ := ih.expr h2 a2
        have n3 := any_next (by decide) h3 a3
        have n5 := (take_next h5 a5 (by decide)).1
        have n6 := end_next h6
        exact ⟨by omega, p2.wide (by omega : s.next ≤ t1.next) (by omega : t2.next ≤ t6.next)⟩

theorem parse_pos {n : Nat} {t : T} (h : parseS l ts n = some (.ok t)) : ∃ hi, Pl l ts 0 hi t.spans := by
  unfold parseS at h
  obtain ⟨⟨x, s1⟩, hx, h⟩ := Option.bind_eq_some_iff.1 h
  obtain ⟨⟨k, s2⟩, hk, h⟩ := Option.bind_eq_some_iff.1 h
  simp only [Option.some.injEq] at h hk
  have hs2 : s2.stuck = false := by
    cases hq : s2.stuck
    · rfl
    · rw [hq] at h; simp at h
  rw [hs2] at h
  simp only [Bool.false_eq_true, if_false, Except.ok.injEq] at h
  subst h
  exact ⟨_, ((pos_all l ts n).expr hx ((takeS_mild hk).1 hs2)).2⟩

end Go.Proofs.YtckhafpejefbbaaGreatDoor.Tw

/- The tokens of a text in which some names are replaced by another. -/
namespace Go.Proofs.YtckhafpejefbbaaGreatDoor.Tw
open Go

def chgR : Nat → List UInt8 → List (Nat × Nat × List UInt8) → List UInt8
  | _, m, [] => m
  | off, m, (f, t, b) :: cs => m.take (f - off) ++ (b ++ chgR t (m.drop (t - off)) cs)

def HR (r r' : List UInt8) : Prop := headI r = headI r' ∨ (smallI (headI r) = true ∧ smallI (headI r') = true)

theorem HR.notP {r r' : List UInt8} (h : HR r r') (p : Int → Bool) (hp : ∀ c, smallI c = true → p c = false) (hr : p (headI r) = false) : p (headI r') = false := by
  rcases h with h | h
  · rw [← h]; exact hr
  · exact hp _ h.2

theorem HR.notW {r r' : List UInt8} (h : HR r r') (hr : wordI (headI r) = false) : wordI (headI r') = false := by
  rcases h with h | h
  · rw [← h]; exact hr
  · exfalso
    have := h.1
    simp [smallI, wordI] at this hr
    omega

theorem runL_stop (p : Int → Bool) (h1 : p (-1) = false) : ∀ (m : List UInt8), p (headI (m.drop (runL p m).length)) = false
  | [] => by simpa [runL, headI] using h1
  | c :: m => by
    simp only [runL, List.takeWhile_cons]
    split
    · have := runL_stop p h1 m
      simp only [runL] at this
      simpa using this
    · rename_i h
      simpa [headI] using h

theorem runL_new (p : Int → Bool) : ∀ (a r' : List UInt8), (∀ c ∈ a, p c.toNat = true) → p (headI r') = false → runL p (a ++ r') = a
  | [], r', _, h => by
    cases r' with
    | nil => rfl
    | cons c r' => simp only [runL, List.nil_append, List.takeWhile_cons]; rw [show p c.toNat = false from h]; rfl
  | c :: a, r', ha, h => by
    simp only [runL, List.cons_append, List.takeWhile_cons]
    rw [ha c (by simp)]
    simp only [if_true]
    have := runL_new p a r' (fun d hd => ha d (by simp [hd])) h
    simp only [runL] at this
    rw [this]

theorem signI_len (c : Int) : (signI c).2 = 0 ∨ (signI c).2 = 1 := by
  unfold signI
  (repeat' split) <;> simp

theorem firstL_rel {m r' : List UInt8} (hm : m ≠ []) (h0 : (firstL m).2 ≠ 0) (hr : HR (m.drop (firstL m).2.toNat) r') : firstL (m.take (firstL m).2.toNat ++ r') = firstL m ∧ headI (m.take (firstL m).2.toNat ++ r') = headI m := by
  have key : ∀ k : Nat, 0 < k → headI (m.take k ++ r') = headI m := fun k hk => by
    cases m with
    | nil => exact absurd rfl hm
    | cons c m =>
      obtain ⟨j, rfl⟩ : ∃ j, k = j + 1 := ⟨k - 1, by omega⟩
      rfl
  unfold firstL at h0 hr ⊢
  by_cases hs : smallI (headI m) = true
  · rw [if_pos hs] at h0 hr ⊢
    unfold wordL at h0 hr ⊢
    split at h0
    · exact absurd rfl h0
    · rename_i hl
      rw [if_neg hl] at hr ⊢
      simp only [Int.toNat_natCast] at hr ⊢ h0
      have hpos : 0 < (runL wordI m).length := by omega
      have e := runL_take wordI m
      have hstop := runL_stop wordI (by decide) m
      have hnew : runL wordI (m.take (runL wordI m).length ++ r') = runL wordI m := by
        rw [e]
        exact runL_new wordI _ r' (runL_all wordI m) (hr.notW hstop)
      rw [key _ hpos, if_pos hs, hnew, if_neg hl]
      exact ⟨rfl, rfl⟩
  · rw [if_neg hs] at h0 hr ⊢
    by_cases hd : digitI (headI m) = true
    · rw [if_pos hd] at h0 hr ⊢
      unfold numberL at h0 hr ⊢
      split at h0
      · exact absurd rfl h0
      · rename_i hl
        rw [if_neg hl] at hr ⊢
        simp only [Int.toNat_natCast] at hr ⊢ h0
        have hpos : 0 < (runL digitI m).length := by omega
        have e := runL_take digitI m
        have hstop := runL_stop digitI (by decide) m
        have hnew : runL digitI (m.take (runL digitI m).length ++ r') = runL digitI m := by
          rw [e]
          refine runL_new digitI _ r' (runL_all digitI m) (hr.notP digitI (fun c hc => ?_) hstop)
          simp [smallI, digitI] at hc ⊢
          omega
        rw [key _ hpos, if_neg hs, if_pos hd, hnew, if_neg hl]
        exact ⟨rfl, rfl⟩
    · rw [if_neg hd] at h0 hr ⊢
      by_cases ha : m.take 2 = [45, 62]
      · rw [if_pos ha] at hr ⊢
        have h2 : ((14 : Int), (2 : Int)).2.toNat = 2 := rfl
        rw [h2] at hr ⊢
        rw [key 2 (by omega), if_neg hs, if_neg hd, ha]
        exact ⟨rfl, rfl⟩
      · rw [if_neg ha] at hr h0 ⊢
        have h1 : (signI (headI m)).2 = 1 := (signI_len _).resolve_left h0
        rw [h1] at hr ⊢
        have h2 : (1 : Int).toNat = 1 := rfl
        rw [h2] at hr ⊢
        rw [key 1 (by omega), if_neg hs, if_neg hd]
        refine ⟨?_, rfl⟩
        rw [if_neg]
        intro hq
        apply ha
        cases m with
        | nil => exact absurd rfl hm
        | cons c m =>
          simp only [List.take_succ_cons, List.take_zero, List.cons_append, List.nil_append, List.cons.injEq] at hq ⊢
          refine ⟨hq.1, ?_⟩
          have hq2 := hq.2
          cases r' with
          | nil => simp at hq2
          | cons b r' =>
            simp only [List.take_succ_cons, List.take_zero, List.cons.injEq, and_true] at hq2
            subst hq2
            simp only [List.drop_succ_cons, List.drop_zero] at hr
            rcases hr with hr | hr
            · cases m with
              | nil => simp [headI] at hr
              | cons d m =>
                simp only [headI] at hr
                have : d = 62 := by
                  have h62 : d.toNat = 62 := by exact_mod_cast hr
                  exact UInt8.toNat_inj.1 (by simpa using h62)
                simp [this]
            · have := hr.2
              simp [headI, smallI] at this

theorem gap_rel {m r' : List UInt8} (hm : m ≠ []) (hg : 0 < gapL m) : gapL (m.take (gapL m).toNat ++ r') = gapL m := by
  have hle := gapL_le m (List.length_pos_iff.2 hm)
  have ha : m.take (gapL m).toNat ≠ [] := by
    intro e
    have h1 := congrArg List.length e
    rw [List.length_take, List.length_nil] at h1
    have := List.length_pos_iff.2 hm
    omega
  have hga : gapL (m.take (gapL m).toNat) = gapL m := by
    have hh : headI (m.take (gapL m).toNat) = headI m := by
      have e : m.take (gapL m).toNat ++ m.drop (gapL m).toNat = m := List.take_append_drop _ _
      rw [← headI_append ha (m.drop (gapL m).toNat), e]
    generalize hk : (gapL m).toNat = k at *
    unfold gapL at hg hle hk ⊢
    rw [hh]
    split
    · rfl
    · rename_i h1
      rw [if_neg h1] at hg hle hk
      split
      · rename_i h2
        rw [if_pos h2] at hg hle hk
        have : Lib.indexByte (m.take k) 125 = Lib.indexByte m 125 := by
          have hnat : ∃ j : Nat, Lib.indexByte m 125 = j := ⟨(Lib.indexByte m 125).toNat, by omega⟩
          obtain ⟨j, hj⟩ := hnat
          have hkj : k = j + 1 := by omega
          subst hkj
          clear hk hle hg h2 h1 hh ha
          induction j generalizing m with
          | zero =>
            cases m with
            | nil => simp [Lib.indexByte] at hj
            | cons c m =>
              simp only [Lib.indexByte] at hj
              split at hj
              · rename_i hc; simp [Lib.indexByte, hc]
              · exfalso
                have := Lib.indexByte_ge m 125
                split at hj
                · simp at hj
                · rename_i hq
                  simp at hq hj
                  omega
          | succ j ih =>
            cases m with
            | nil => exact absurd rfl hm
            | cons c m =>
              simp only [Lib.indexByte, List.take_succ_cons] at hj ⊢
              split at hj
              · omega
              · rename_i hc
                rw [if_neg hc]
                split at hj
                · omega
                · rename_i hne
                  have hmj : Lib.indexByte m 125 = j := by omega
                  by_cases hmn : m = []
                  · subst hmn; simp [Lib.indexByte] at hmj
                  · have := ih hmn hmj
                    rw [this, if_neg hne, if_neg hc]
        rw [this]
      · rfl
  rw [gapL_append ha (by rw [hga]; exact hg), hga]

end Go.Proofs.YtckhafpejefbbaaGreatDoor.Tw

/- The tokens of a text in which some names are replaced by another; whole. -/
namespace Go.Proofs.YtckhafpejefbbaaGreatDoor.Tw
open Go

structure Nm (y : List UInt8) : Prop where
  head : smallI (headI y) = true
  all : ∀ c ∈ y, wordI c.toNat = true
  len : y.length ≤ 6
  sort : wordSortL y = 1

theorem Nm.ne {y : List UInt8} (Y : Nm y) : y ≠ [] := by
  intro e
  have := Y.head
  rw [e] at this
  simp [headI, smallI] at this

theorem head_gap {m : List UInt8} (h1 : headI m ≠ 32) (h2 : headI m ≠ 9) (h3 : headI m ≠ 10) (h4 : headI m ≠ 123) : ¬ 0 < gapL m := by
  unfold gapL
  rw [if_neg (by omega), if_neg h4]
  omega

theorem firstL_name {y r' : List UInt8} (Y : Nm y) (hr : wordI (headI r') = false) : firstL (y ++ r') = (1, (y.length : Int)) ∧ ¬ 0 < gapL (y ++ r') ∧ headI (y ++ r') = headI y := by
  have hh := headI_append Y.ne r'
  have h0 := Y.head
  refine ⟨?_, ?_, hh⟩
  · unfold firstL
    rw [hh, if_pos h0, runL_new wordI y r' Y.all hr]
    unfold wordL
    rw [if_neg (by have := Y.len; omega), Y.sort]
  · simp only [smallI, decide_eq_true_eq] at h0
    exact head_gap (by omega) (by omega) (by omega) (by omega)

theorem firstL_sort1 {m : List UInt8} (h : (firstL m).1 = 1) : smallI (headI m) = true ∧ (firstL m).2 = (runL wordI m).length := by
  unfold firstL at h ⊢
  by_cases hs : smallI (headI m) = true
  · rw [if_pos hs] at h ⊢
    unfold wordL at h ⊢
    split at h
    · simp at h
    · rename_i hl
      rw [if_neg hl]
      exact ⟨hs, rfl⟩
  · exfalso
    rw [if_neg hs] at h
    split at h
    · unfold numberL at h
      split at h <;> simp at h
    split at h
    · simp at h
    · unfold signI at h
      (repeat' split at h) <;> simp at h

theorem tok_head {m : List UInt8} (hm : m ≠ []) (hg : ¬ 0 < gapL m) (h0 : (firstL m).2 ≠ 0) : headI m ≠ 32 ∧ headI m ≠ 9 ∧ headI m ≠ 10 ∧ headI m ≠ 123 := by
  have := gapL_append0 hm hg h0 [125]
  unfold gapL at hg this
  rw [headI_append hm] at this
  refine ⟨fun e => hg (by rw [if_pos (.inl e)]; omega), fun e => hg (by rw [if_pos (.inr (.inl e))]; omega), fun e => hg (by rw [if_pos (.inr (.inr e))]; omega), fun e => this ?_⟩
  rw [if_neg (by omega), if_pos e]
  have : ∀ m : List UInt8, 0 ≤ Lib.indexByte (m ++ [125]) 125 := fun m => by
    induction m with
    | nil => simp [Lib.indexByte]
    | cons c m ih =>
      simp only [List.cons_append, Lib.indexByte]
      split
      · omega
      · split
        · rename_i hq; simp at hq; omega
        · omega
  have := this m
  omega

def cntlt (S : List Nat) (p : Nat) : Nat := (S.filter fun f => decide (f < p)).length

def newP (dx dy c : Nat) (S : List Nat) (p : Nat) : Nat := p - (c + cntlt S p) * dx + (c + cntlt S p) * dy

def newT (dx dy c : Nat) (S : List Nat) (t : Tok) : Tok := ⟨t.sort, newP dx dy c S t.fr, newP dx dy c S t.to⟩

theorem cntlt_zero {S : List Nat} {p : Nat} (h : ∀ f ∈ S, p ≤ f) : cntlt S p = 0 := by
  unfold cntlt
  rw [List.length_eq_zero_iff, List.filter_eq_nil_iff]
  intro f hf
  have := h f hf
  simpa using this

theorem cntlt_cons {S : List Nat} {f p : Nat} (h : f < p) : cntlt (f :: S) p = cntlt S p + 1 := by
  unfold cntlt
  rw [List.filter_cons_of_pos (by simpa using h)]
  rfl

theorem newP_cons {dx dy c : Nat} {S : List Nat} {f p : Nat} (h : f < p) : newP dx dy c (f :: S) p = newP dx dy (c + 1) S p := by
  unfold newP
  rw [cntlt_cons h, show c + (cntlt S p + 1) = c + 1 + cntlt S p from by omega]

def chs (dx : Nat) (y : List UInt8) (S : List Nat) : List (Nat × Nat × List UInt8) := S.map fun f => (f, f + dx, y)

theorem chgR_split {dx : Nat} {y : List UInt8} {off g : Nat} {m : List UInt8} {S : List Nat} (h : ∀ f ∈ S, off + g ≤ f) : chgR off m (chs dx y S) = m.take g ++ chgR (off + g) (m.drop g) (chs dx y S) := by
  cases S with
  | nil => simp [chs, chgR]
  | cons f S =>
    have hf := h f (by simp)
    simp only [chs, List.map_cons, chgR]
    rw [show f - off = g + (f - (off + g)) from by omega, List.take_add, List.append_assoc, List.drop_drop, show g + (f + dx - (off + g)) = f + dx - off from by omega]

section
variable {dx : Nat} {y : List UInt8}

def Reps (dx : Nat) (ts : List Tok) (S : List Nat) : Prop := S.Pairwise (· < ·) ∧ ∀ f ∈ S, ∃ t ∈ ts, t.fr = f ∧ t.sort = 1 ∧ t.to = f + dx

theorem chg_head (Y : Nm y) {off : Nat} {m : List UInt8} {ts : List Tok} (h : Lex off m ts) {S : List Nat} (hS : Reps dx ts S) : HR m (chgR off m (chs dx y S)) := by
  cases S with
  | nil => exact .inl rfl
  | cons f S =>
    obtain ⟨t, ht, rfl, h1, _⟩ := hS.2 f (by simp)
    have low := ((h.toks).1 t ht).low
    simp only [chs, List.map_cons, chgR]
    rcases Nat.lt_or_ge off t.fr with hlt | hge
    · have hm : m ≠ [] := by
        intro e
        subst e
        have k1 := ((h.toks).1 t ht).high
        have k2 := ((h.toks).1 t ht).lt
        simp at k1
        omega
      left
      obtain ⟨j, hj⟩ : ∃ j, t.fr - off = j + 1 := ⟨t.fr - off - 1, by omega⟩
      rw [hj]
      cases m with
      | nil => exact absurd rfl hm
      | cons c m => rfl
    · have e : t.fr - off = 0 := by omega
      rw [e, List.take_zero, List.nil_append]
      right
      rw [headI_append Y.ne]
      refine ⟨?_, Y.head⟩
      cases h with
      | nil => simp at ht
      | gap hm hg hr =>
        have := ((hr.toks).1 t ht).low
        omega
      | tok hm hg h0 hr =>
        simp only [List.mem_cons] at ht
        rcases ht with rfl | ht
        · exact (firstL_sort1 h1).1
        · have := ((hr.toks).1 t ht).low
          have f1 := firstL_le m (List.length_pos_iff.2 hm)
          omega

theorem lex_chg (Y : Nm y) : ∀ {off : Nat} {m : List UInt8} {ts : List Tok}, Lex off m ts → ∀ {c : Nat} {S : List Nat}, Reps dx ts S → c * dx ≤ off → Lex (off - c * dx + c * y.length) (chgR off m (chs dx y S)) (ts.map (newT dx y.length c S)) := by
  intro off m ts h
  induction h with
  | nil off =>
    intro c S hS _
    have : S = [] := by
      cases S with
      | nil => rfl
      | cons f S => obtain ⟨t, ht, _⟩ := hS.2 f (by simp); cases ht
    subst this
    exact .nil _
  | @gap off m ts hm hg hr ih =>
    intro c S hS hc
    have hle := gapL_le m (List.length_pos_iff.2 hm)
    obtain ⟨g, hgg⟩ : ∃ g : Nat, gapL m = g := ⟨(gapL m).toNat, by omega⟩
    have hgn : (gapL m).toNat = g := by omega
    rw [hgn] at hr ih
    have hge : ∀ f ∈ S, off + g ≤ f := fun f hf => by
      obtain ⟨t, ht, rfl, _⟩ := hS.2 f hf
      exact ((hr.toks).1 t ht).low
    have k := ih hS (show c * dx ≤ off + g by omega)
    rw [chgR_split hge]
    have e : gapL (m.take g ++ chgR (off + g) (m.drop g) (chs dx y S)) = gapL m := by
      have := gap_rel (r' := chgR (off + g) (m.drop g) (chs dx y S)) hm hg
      rw [hgn] at this
      exact this
    have hlen : (m.take g).length = g := by rw [List.length_take]; omega
    refine .gap (by intro q; have := congrArg List.length q; rw [List.length_append, hlen] at this; simp at this; omega) (by rw [e]; exact hg) ?_
    rw [e, hgn, List.drop_append_of_le_length (by omega), List.drop_of_length_le (by omega), List.nil_append, show off - c * dx + c * y.length + g = off + g - c * dx + c * y.length from by omega]
    exact k
  | @tok off m ts hm hg h0 hr ih =>
    intro c S hS hc
    have hle := firstL_le m (List.length_pos_iff.2 hm)
    obtain ⟨k, hkk⟩ : ∃ k : Nat, (firstL m).2 = k := ⟨(firstL m).2.toNat, by omega⟩
    have hkn : (firstL m).2.toNat = k := by omega
    have hk0 : 0 < k := by omega
    rw [hkn] at hr ih hS ⊢
    have later : ∀ t ∈ ts, off + k ≤ t.fr := fun t ht => ((hr.toks).1 t ht).low
    have hts : ∀ t ∈ ts, off < t.fr ∧ off < t.to := fun t ht => by
      have a := later t ht
      have b := ((hr.toks).1 t ht).lt
      omega
    by_cases hoff : off ∈ S
    · -- this token is replaced
      obtain ⟨f, S', rfl⟩ : ∃ f S', S = f :: S' := by
        cases S with
        | nil => cases hoff
        | cons f S' => exact ⟨f, S', rfl⟩
      have hf : f = off := by
        simp only [List.mem_cons] at hoff
        rcases hoff with h | h
        · exact h.symm
        · have h1 := (List.pairwise_cons.1 hS.1).1 off h
          obtain ⟨t, ht, h2, _⟩ := hS.2 f (by simp)
          simp only [List.mem_cons] at ht
          rcases ht with rfl | ht
          · simp only at h2; omega
          · have := later t ht; omega
      subst hf
      obtain ⟨t, ht, h1, h2, h3⟩ := hS.2 f (by simp)
      have ht' : t = ⟨(firstL m).1, f, f + k⟩ := by
        simp only [List.mem_cons] at ht
        rcases ht with rfl | ht
        · rfl
        · have := later t ht; omega
      subst ht'
      simp only at h2 h3
      have hkx : k = dx := by omega
      subst hkx
      obtain ⟨q1, q2⟩ := firstL_sort1 h2
      have hS' : Reps k ts S' := by
        refine ⟨(List.pairwise_cons.1 hS.1).2, fun g hg => ?_⟩
        obtain ⟨t, ht, a1, a2, a3⟩ := hS.2 g (by simp [hg])
        have hlt := (List.pairwise_cons.1 hS.1).1 g hg
        simp only [List.mem_cons] at ht
        rcases ht with rfl | ht
        · simp only at a1; omega
        · exact ⟨t, ht, a1, a2, a3⟩
      have hc' : (c + 1) * k ≤ f + k := by rw [Nat.succ_mul]; omega
      have K := ih hS' hc'
      have hhead : wordI (headI (chgR (f + k) (m.drop k) (chs k y S'))) = false := by
        refine (chg_head Y hr hS').notW ?_
        have : k = (runL wordI m).length := by omega
        rw [this]
        exact runL_stop wordI (by decide) m
      obtain ⟨r1, r2, r3⟩ := firstL_name (r' := chgR (f + k) (m.drop k) (chs k y S')) Y hhead
      have e : chgR f m (chs k y (f :: S')) = y ++ chgR (f + k) (m.drop k) (chs k y S') := by
        simp only [chs, List.map_cons, chgR]
        rw [Nat.sub_self, List.take_zero, List.nil_append, Nat.add_sub_cancel_left]
      have hcnt : ∀ g ∈ S', f + k ≤ g := fun g hg => by
        obtain ⟨t, ht, rfl, _⟩ := hS'.2 g hg
        exact later t ht
      have hy := List.length_pos_iff.2 Y.ne
      have n1 : newP k y.length c (f :: S') f = f - c * k + c * y.length := by
        unfold newP
        rw [cntlt_zero (fun g hg => by simp only [List.mem_cons] at hg; rcases hg with rfl | hg; exact Nat.le_refl _; have := hcnt g hg; omega)]
        simp
      have n2 : newP k y.length c (f :: S') (f + k) = f - c * k + c * y.length + y.length := by
        rw [newP_cons (by omega)]
        unfold newP
        rw [cntlt_zero hcnt, Nat.add_zero, Nat.succ_mul, Nat.succ_mul]
        omega
      have hmap : ts.map (newT k y.length c (f :: S')) = ts.map (newT k y.length (c + 1) S') := by
        refine List.map_congr_left fun t ht => ?_
        have := hts t ht
        unfold newT
        rw [newP_cons this.1, newP_cons this.2]
      rw [e, List.map_cons, hmap]
      have tokE : newT k y.length c (f :: S') ⟨(firstL m).1, f, f + k⟩ = ⟨(firstL (y ++ chgR (f + k) (m.drop k) (chs k y S'))).1, f - c * k + c * y.length, f - c * k + c * y.length + (firstL (y ++ chgR (f + k) (m.drop k) (chs k y S'))).2.toNat⟩ := by
        unfold newT
        rw [r1]
        simp only [n1, n2, h2, Int.toNat_natCast]
      rw [tokE]
      refine .tok (by intro q; have := congrArg List.length q; rw [List.length_append] at this; simp at this; exact Y.ne this.1) r2 (by rw [r1]; simp only; omega) ?_
      rw [r1]
      simp only [Int.toNat_natCast]
      rw [List.drop_append_of_le_length (Nat.le_refl _), List.drop_length, List.nil_append]
      have : f - c * k + c * y.length + y.length = f + k - (c + 1) * k + (c + 1) * y.length := by rw [Nat.succ_mul, Nat.succ_mul]; omega
      rw [this]
      exact K
    · have hS' : Reps dx ts S := by
        refine ⟨hS.1, fun g hg => ?_⟩
        obtain ⟨t, ht, a1, a2, a3⟩ := hS.2 g hg
        simp only [List.mem_cons] at ht
        rcases ht with rfl | ht
        · simp only at a1; subst a1; exact absurd hg hoff
        · exact ⟨t, ht, a1, a2, a3⟩
      have hge : ∀ f ∈ S, off + k ≤ f := fun f hf => by
        obtain ⟨t, ht, rfl, _⟩ := hS'.2 f hf
        exact later t ht
      have K := ih hS' (show c * dx ≤ off + k by omega)
      have hrel := chg_head Y hr hS'
      have hk' : HR (m.drop (firstL m).2.toNat) (chgR (off + k) (m.drop k) (chs dx y S)) := by rw [hkn]; exact hrel
      obtain ⟨r1, r2⟩ := firstL_rel hm h0 hk'
      rw [hkn] at r1 r2
      rw [chgR_split hge]
      have hh := tok_head hm hg h0
      have hlen : (m.take k).length = k := by rw [List.length_take]; omega
      have n1 : newP dx y.length c S off = off - c * dx + c * y.length := by
        unfold newP
        rw [cntlt_zero (fun g hg => by have := hge g hg; omega)]
        simp
      have n2 : newP dx y.length c S (off + k) = off - c * dx + c * y.length + k := by
        unfold newP
        rw [cntlt_zero hge]
        simp only [Nat.add_zero]
        omega
      rw [List.map_cons]
      have tokE : newT dx y.length c S ⟨(firstL m).1, off, off + k⟩ = ⟨(firstL (m.take k ++ chgR (off + k) (m.drop k) (chs dx y S))).1, off - c * dx + c * y.length, off - c * dx + c * y.length + (firstL (m.take k ++ chgR (off + k) (m.drop k) (chs dx y S))).2.toNat⟩ := by
        unfold newT
        rw [r1]
        simp only [n1, n2, hkn]
      rw [tokE]
      refine .tok (by intro q; have := congrArg List.length q; rw [List.length_append, hlen] at this; simp at this; omega) (head_gap (by rw [r2]; exact hh.1) (by rw [r2]; exact hh.2.1) (by rw [r2]; exact hh.2.2.1) (by rw [r2]; exact hh.2.2.2)) (by rw [r1]; exact h0) ?_
      rw [r1, hkn, List.drop_append_of_le_length (by omega), List.drop_of_length_le (by omega), List.nil_append, show off - c * dx + c * y.length + k = off + k - c * dx + c * y.length from by omega]
      exact K

end

end Go.Proofs.YtckhafpejefbbaaGreatDoor.Tw

/- The bytes of a text in which names are replaced. -/
namespace Go.Proofs.YtckhafpejefbbaaGreatDoor.Tw
open Go

theorem piece_left {a b : List UInt8} {i j : Nat} (h : j ≤ a.length) : piece (a ++ b) i j = piece a i j := by
  unfold piece
  rcases Nat.lt_or_ge i a.length with h1 | h1
  · rw [List.drop_append_of_le_length (by omega), List.take_append_of_le_length (by simp; omega)]
  · rw [show j - i = 0 from by omega]
    simp

theorem piece_right {a b : List UInt8} {i j : Nat} (h : a.length ≤ i) : piece (a ++ b) i j = piece b (i - a.length) (j - a.length) := by
  unfold piece
  rw [List.drop_append, List.drop_of_length_le h, List.nil_append]
  congr 1
  omega

theorem piece_drop {m : List UInt8} {k i j : Nat} (h : k ≤ i) : piece (m.drop k) (i - k) (j - k) = piece m i j := by
  unfold piece
  rw [List.drop_drop, show k + (i - k) = i from by omega]
  congr 1
  omega

theorem piece_take {m : List UInt8} {k i j : Nat} (h : j ≤ k) : piece (m.take k) i j = piece m i j := by
  unfold piece
  rw [List.drop_take, List.take_take]
  congr 1
  omega

variable {dx : Nat} {y : List UInt8}

theorem newP_nil (c p : Nat) (dy : Nat) : newP dx dy c [] p = p - c * dx + c * dy := by simp [newP, cntlt]

theorem newP_before {c p dy f : Nat} {S : List Nat} (h : ∀ g ∈ f :: S, p ≤ g) : newP dx dy c (f :: S) p = p - c * dx + c * dy := by
  unfold newP
  rw [cntlt_zero h]
  simp

theorem piece_chg (hdx : 0 < dx) : ∀ (S : List Nat) (off : Nat) (m : List UInt8) (c : Nat), S.Pairwise (fun f g => f + dx ≤ g) → (∀ f ∈ S, off ≤ f ∧ f + dx ≤ off + m.length) → c * dx ≤ off → ∀ (a b : Nat), off ≤ a → a < b → b ≤ off + m.length → (∀ f ∈ S, b ≤ f ∨ f + dx ≤ a ∨ (a = f ∧ b = f + dx)) →
    piece (chgR off m (chs dx y S)) (newP dx y.length c S a - (off - c * dx + c * y.length)) (newP dx y.length c S b - (off - c * dx + c * y.length)) = if a ∈ S then y else piece m (a - off) (b - off)
  | [], off, m, c, _, _, hc, a, b, ha, hab, hb, _ => by
    rw [newP_nil, newP_nil]
    simp only [chs, List.map_nil, chgR, List.not_mem_nil, if_false]
    rw [show a - c * dx + c * y.length - (off - c * dx + c * y.length) = a - off from by omega, show b - c * dx + c * y.length - (off - c * dx + c * y.length) = b - off from by omega]
  | f :: S, off, m, c, hS, hI, hc, a, b, ha, hab, hb, hO => by
    obtain ⟨h1, h2⟩ := hI f (by simp)
    have hS' := List.pairwise_cons.1 hS
    have htl : (m.take (f - off)).length = f - off := by rw [List.length_take]; omega
    simp only [chs, List.map_cons, chgR]
    rcases hO f (by simp) with h | h | ⟨rfl, rfl⟩
    · -- ahead of the first change
      have hlow : ∀ g ∈ f :: S, b ≤ g := fun g hg => by
        simp only [List.mem_cons] at hg
        rcases hg with rfl | hg
        · exact h
        · have := hS'.1 g hg; omega
      rw [newP_before (fun g hg => by have := hlow g hg; omega), newP_before hlow]
      rw [show a - c * dx + c * y.length - (off - c * dx + c * y.length) = a - off from by omega, show b - c * dx + c * y.length - (off - c * dx + c * y.length) = b - off from by omega]
      rw [piece_left (by omega), piece_take (by omega), if_neg (fun hm => by have := hlow a hm; omega)]
    · -- behind it
      have hc1 : (c + 1) * dx ≤ f + dx := by rw [Nat.succ_mul]; omega
      have ih := piece_chg hdx S (f + dx) (m.drop (f + dx - off)) (c + 1) hS'.2 (fun g hg => by
        have := hS'.1 g hg
        have := (hI g (by simp [hg])).2
        rw [List.length_drop]
        omega) hc1 a b (by omega) hab (by rw [List.length_drop]; omega) (fun g hg => hO g (by simp [hg]))
      have ea : (a ∈ f :: S) ↔ (a ∈ S) := by
        simp only [List.mem_cons]
        exact ⟨fun q => q.elim (fun q => by omega) id, .inr⟩
      rw [newP_cons (by omega : f < a), newP_cons (by omega : f < b)]
      have base : f + dx - (c + 1) * dx + (c + 1) * y.length = f - off + y.length + (off - c * dx + c * y.length) := by
        rw [Nat.succ_mul, Nat.succ_mul]
        omega
      have low : ∀ p, f + dx ≤ p → (∀ g ∈ S, g < p → g + dx ≤ p) → f - off + y.length + (off - c * dx + c * y.length) ≤ newP dx y.length (c + 1) S p := fun p hp hg => by
        rw [← base]
        unfold newP
        have key : ∀ (S : List Nat) (q : Nat), S.Pairwise (fun f g => f + dx ≤ g) → (∀ g ∈ S, q ≤ g) → q ≤ p → (∀ g ∈ S, g < p → g + dx ≤ p) → cntlt S p * dx ≤ p - q := by
          intro S
          induction S with
          | nil => intro q _ _ _ _; simp [cntlt]
          | cons g S ih =>
            intro q h1 h2 h3 h4
            by_cases hgp : g < p
            · rw [cntlt_cons hgp, Nat.succ_mul]
              have e1 := h2 g (by simp)
              have e2 := h4 g (by simp) hgp
              have := ih (g + dx) (List.pairwise_cons.1 h1).2 (List.pairwise_cons.1 h1).1 e2 (fun g' hg' => h4 g' (by simp [hg']))
              omega
            · have : cntlt (g :: S) p = 0 := cntlt_zero (fun g' hg' => by
                simp only [List.mem_cons] at hg'
                rcases hg' with rfl | hg'
                · omega
                · have := (List.pairwise_cons.1 h1).1 g' hg'; omega)
              rw [this]
              omega
        have k1 := key S (f + dx) hS'.2 hS'.1 hp hg
        have k2 : (c + 1 + cntlt S p) * dx = (c + 1) * dx + cntlt S p * dx := Nat.add_mul _ _ _
        have k3 : (c + 1 + cntlt S p) * y.length = (c + 1) * y.length + cntlt S p * y.length := Nat.add_mul _ _ _
        rw [k2, k3]
        omega
      have la := low a h (fun g hg hga => by rcases hO g (by simp [hg]) with h | h | h <;> omega)
      have lb := low b (by omega) (fun g hg hgb => by rcases hO g (by simp [hg]) with h | h | h <;> omega)
      rw [piece_right (by omega), htl, piece_right (by omega)]
      rw [base] at ih
      rw [show newP dx y.length (c + 1) S a - (off - c * dx + c * y.length) - (f - off) - y.length = newP dx y.length (c + 1) S a - (f - off + y.length + (off - c * dx + c * y.length)) from by omega, show newP dx y.length (c + 1) S b - (off - c * dx + c * y.length) - (f - off) - y.length = newP dx y.length (c + 1) S b - (f - off + y.length + (off - c * dx + c * y.length)) from by omega]
      simp only [chs] at ih
      rw [ih]
      simp only [ea]
      split
      · rfl
      · rw [show a - (f + dx) = (a - off) - (f + dx - off) from by omega, show b - (f + dx) = (b - off) - (f + dx - off) from by omega, piece_drop (by omega)]
    · -- it
      rw [if_pos (by simp)]
      rw [newP_before (fun g hg => by
        simp only [List.mem_cons] at hg
        rcases hg with rfl | hg
        · exact Nat.le_refl _
        · have := hS'.1 g hg; omega), newP_cons (by omega : a < a + dx)]
      have e : newP dx y.length (c + 1) S (a + dx) = a - c * dx + c * y.length + y.length := by
        unfold newP
        rw [cntlt_zero (fun g hg => hS'.1 g hg)]
        simp only [Nat.add_zero]
        rw [Nat.succ_mul, Nat.succ_mul]
        omega
      rw [e, show a - c * dx + c * y.length - (off - c * dx + c * y.length) = a - off from by omega, show a - c * dx + c * y.length + y.length - (off - c * dx + c * y.length) = a - off + y.length from by omega]
      rw [piece_right (by omega), htl, Nat.sub_self, show a - off + y.length - (a - off) = y.length from by omega, piece_left (Nat.le_refl _)]
      simp [piece]

end Go.Proofs.YtckhafpejefbbaaGreatDoor.Tw

/- The library's contracts, one more. -/
namespace Go.Proofs.YtckhafpejefbbaaGreatDoor
open Go.ChangeShapes Go.WideShapes Go.ChangeAt Go.RowKit

theorem lib5 : Lib5 := { lib4 with it := fun i hi w => (Tryz.strconv_Itoa_small i hi w).mono fun _ _ ⟨h1, h2⟩ => ⟨h1, h2.symm⟩ }

end Go.Proofs.YtckhafpejefbbaaGreatDoor

/- A range over a function that itself ranges over another: what such a function and the rounds owe each other, and the loop over it. -/
namespace Go.Proofs.YtckhafpejefbbaaGreatDoor
open Go Go.RowKit

def SeqOk {α : Type} (P : Program) (g : Nat) (lb : Array Value) (encs : α → Array Value) (Ok : α → World → Prop) (Kp : World → World → Prop) (S Sp : List α → Prop) (N : Nat) (w : World) : Prop :=
  ∀ (l : Nat) (J Jx : List α → World → Prop) (W : World), Below w.heap.size w W → OwnFrom W.heap.size J → OwnFrom W.heap.size Jx →
    (∀ pre x W1, J pre W1 → pre.length < N → Ok x W1 → YieldAt Fence.wide 0 P l (encs x) W1 fun e W' => KeepsFrom W.heap.size W1 W' ∧
      ((e = .returned (.bool true) ∧ J (pre ++ [x]) W' ∧ Kp W1 W') ∨ (e = .returned (.bool false) ∧ Jx (pre ++ [x]) W'))) →
    J [] W →
    Calls P g (#[.func (.yield l) #[] #[]] ++ lb) W fun e W' => (∃ v, e = .returned v) ∧ ((∃ xs, S xs ∧ J xs W') ∨ (∃ pre, Sp pre ∧ Jx pre W'))

abbrev SeqO {α : Type} (P : Program) (g : Nat) (lb : Array Value) (encs : α → Array Value) (Kp : World → World → Prop) (S Sp : List α → Prop) (N : Nat) (w : World) : Prop := SeqOk P g lb encs (fun _ _ => True) Kp S Sp N w

theorem yieldAt_any {m m' : Nat} {P : Program} {l : Nat} {args : Array Value} {W : World} {R : Ending → World → Prop} (h : YieldAt Fence.wide m P l args W R) : YieldAt Fence.wide m' P l args W R := by
  obtain ⟨fn, tmps, assign, body, hy, hR⟩ := h
  exact ⟨fn, tmps, assign, body, hy, hR.1, fun c cs _ => hR.2 c cs (room_wide _)⟩

theorem seqO_of {α : Type} {n : Nat} {P : Program} {g : Nat} {lb : Array Value} {encs : α → Array Value} {Kp : World → World → Prop} {S Sp : List α → Prop} {N : Nat} {w : World} (h : SeqStopsK Fence.wide n P g lb encs Kp S Sp N w) : SeqO P g lb encs Kp S Sp N w := by
  intro l J Jx W hW hJ hJx hY h0
  have weak : ∀ {K : List α → World → Prop}, OwnFrom W.heap.size K → AbidesFrom W.heap.size K := fun hK s A B row hs hg hr =>
    hK s A B row hs hg fun r e => ⟨(hr r e).1, by obtain ⟨o, ho, hw⟩ := (hr r e).2; exact ⟨o, ho, Obj.not_cells_of_walk hw⟩⟩
  exact callsIn_wide.1 (h l J Jx W hW (weak hJ) (weak hJx) (fun pre x W1 hj hl => yieldAt_any (YieldAt.mono (hY pre x W1 hj hl trivial) fun e W' hr => hr.2)) h0)

theorem keepsFrom_trans {B : Nat} {A C D : World} (h : KeepsFrom B A C) (k : KeepsFrom B C D) : KeepsFrom B A D := ⟨Nat.le_trans h.size k.size, fun i o hi ho hc => k.same i o hi (h.same i o hi ho hc) hc⟩
theorem keepsFrom_up {B B' : Nat} (hB : B ≤ B') {A C : World} (h : KeepsFrom B A C) : KeepsFrom B' A C := ⟨h.size, fun i o hi ho hc => h.same i o (Nat.le_trans hB hi) ho hc⟩
theorem keepsFrom_put {B l : Nat} (hl : l < B) (W : World) (o : Obj) : KeepsFrom B W (W.putObj l o) :=
  ⟨by simp [World.putObj], fun i o' hi ho _ => (World.putObj_heap_other (by omega)).trans ho⟩

structure RecOf (rc : LoopState → Option Code → Loop) (fn : FuncId) (tmps : Array Value) (ps : Array Tmp) (assign body : Code) (D : Nat) : Prop where
  eq : rc = fun st pe => { state := st, pending := pe, fn := fn, tmps := tmps, params := ps, assign := assign, body := body, defers := D }

variable {P : Program} {α : Type}

theorem round_o {rc : LoopState → Option Code → Loop} {fn : FuncId} {tmps : Array Value} {ps : Array Tmp} {assign body : Code} {D l B B' m : Nat} (R : RecOf rc fn tmps ps assign body D) (hB : B ≤ l) (hB' : l < B')
    {encs : α → Array Value} {Kp : World → World → Prop} (hKt : ∀ {A B C : World}, Kp A B → Kp B C → Kp A C) (hKb : ∀ (W : World) (l : Nat) (o o' : Obj), B ≤ l → W.heap[l]? = some o → o.isCells = false → o.isWalk = false → Kp W (W.putObj l o')) (hps : ∀ x, (encs x).size = ps.size)
    {I : List α → World → Prop} {Ix : Code → List α → World → Prop} (hI : OwnFrom B I) (hIx : ∀ c, OwnFrom B (Ix c)) {a₁ : α → Act} {pre : List α} {x : α} {W : World} {Ok : α → World → Prop} (hOk : OwnFrom B (fun (_ : Unit) W => Ok x W)) (hok : Ok x W) (hi : I pre W) (hl : W.heap[l]? = some (.loop (rc .ready none)))
    (hassign : ∀ (W : World) (K : Act → World → Prop), K (a₁ x) W → assign.wpIn (Fence.wide.inRound l) m P (Exit.then K (fun _ _ _ => False)) { tmps := (ps.zip (encs x)).foldl (fun t (p, v) => t.setIfInBounds p v) tmps, defers := [] } W)
    (hbody : ∀ W, (∃ r, W.heap[l]? = some (.loop r)) → I pre W → Ok x W → body.wpIn (Fence.wide.inRound l) m P (ownPostG B Kp I Ix (pre ++ [x]) W) (a₁ x) W) :
    YieldAt Fence.wide m P l (encs x) W fun e W' => KeepsFrom B' W W' ∧
      ((e = .returned (.bool true) ∧ (I (pre ++ [x]) W' ∧ W'.heap[l]? = some (.loop (rc .ready none))) ∧ Kp W W') ∨ (e = .returned (.bool false) ∧ ∃ c, Ix c (pre ++ [x]) W' ∧ W'.heap[l]? = some (.loop (rc .done (some c))))) := by
  have fld : (rc .ready none).params = ps ∧ (rc .ready none).fn = fn ∧ (rc .ready none).tmps = tmps ∧ (rc .ready none).assign = assign ∧ (rc .ready none).body = body := by rw [R.eq]; exact ⟨rfl, rfl, rfl, rfl, rfl⟩
  have hy := run_yield (P := P) (args := encs x) hl (by rw [fld.1]; exact hps x)
  rw [fld.1, fld.2.1, fld.2.2.1, fld.2.2.2.1, fld.2.2.2.2] at hy
  refine ⟨fn, _, assign, body, hy, roundIn_of_wpIn trivial (hassign W _ ?_)⟩
  have hlt := (Array.getElem?_eq_some_iff.1 hl).1
  refine ⟨_, run_beginRound hl (by rw [R.eq]), ?_⟩
  obtain ⟨busy, hbusy⟩ : ∃ b, ({ rc .ready none with state := .busy } : Loop) = b := ⟨_, rfl⟩
  rw [hbusy]
  have hend : ∀ j : Option Code, ({ busy with state := if j.isNone then .ready else .done, pending := j } : Loop) = rc (if j.isNone then .ready else .done) j := fun j => by rw [← hbusy, R.eq]
  have lb : (W.putObj l (.loop busy)).heap[l]? = some (.loop busy) := World.putObj_heap_same hlt
  have k0 : KeepsFrom B' W (W.putObj l (.loop busy)) := keepsFrom_put hB' W _
  have p0 : Kp W (W.putObj l (.loop busy)) := hKb _ _ _ _ hB hl rfl rfl
  refine wpIn_mono (hbody _ ⟨busy, lb⟩ (hI.putObj _ hi hB hl rfl) (hOk.putObj (s := ()) _ hok hB hl rfl)) ?_
  -- a round's end
  have fin : ∀ (j : Option Code) (W3 : World), KeepsFrom B (W.putObj l (.loop busy)) W3 → W3.heap[l]? = some (.loop busy) ∧ (Instr.endRound l j).run P W3 = .ok (.bool j.isNone) (W3.putObj l (.loop (rc (if j.isNone then .ready else .done) j))) ∧ KeepsFrom B' W (W3.putObj l (.loop (rc (if j.isNone then .ready else .done) j))) := fun j W3 k3 => by
    have l3 := k3.same l _ hB lb rfl
    have e := run_endRound (P := P) j l3
    rw [hend] at e
    exact ⟨l3, e, keepsFrom_trans (keepsFrom_trans k0 (keepsFrom_up (by omega) k3)) (keepsFrom_put hB' _ _)⟩
  have leave : ∀ (c : Code) (W3 : World), KeepsFrom B (W.putObj l (.loop busy)) W3 → Ix c (pre ++ [x]) W3 → ∃ v W4, (Instr.endRound l (some c)).run P W3 = .ok v W4 ∧ (KeepsFrom B' W W4 ∧ ((Ending.returned v = .returned (.bool true) ∧ (I (pre ++ [x]) W4 ∧ W4.heap[l]? = some (.loop (rc .ready none))) ∧ Kp W W4) ∨ (Ending.returned v = .returned (.bool false) ∧ ∃ c, Ix c (pre ++ [x]) W4 ∧ W4.heap[l]? = some (.loop (rc .done (some c)))))) := fun c W3 k3 hx => by
    obtain ⟨l3, e, k4⟩ := fin (some c) W3 k3
    exact ⟨_, _, e, k4, .inr ⟨rfl, c, (hIx c).putObj _ hx hB l3 rfl, World.putObj_heap_same (Array.getElem?_eq_some_iff.1 l3).1⟩⟩
  rintro e a3 W3 hp
  cases e with
  | normal =>
    obtain ⟨k3, p3, i3⟩ := hp
    obtain ⟨l3, e, k4⟩ := fin none W3 k3
    exact ⟨_, _, e, k4, .inl ⟨rfl, ⟨hI.putObj _ i3 hB l3 rfl, World.putObj_heap_same (Array.getElem?_eq_some_iff.1 l3).1⟩, hKt (hKt p0 p3) (hKb _ _ _ _ hB l3 rfl rfl)⟩⟩
  | ret => exact leave .ret W3 hp.1 hp.2
  | exit id => exact leave (.exit id) W3 hp.1 hp.2
  | goto t => exact leave (.goto t) W3 hp.1 hp.2
  | panic ch => exact hp.elim
  | outgrown => exact hp.elim

variable {n : Nat} {g : Operand} {ps : Array Tmp} {assign body : Code} {Q : Exit → Act → World → Prop} {a : Act} {w : World}

theorem range_o {gf : Nat} {lb : Array Value} (hg : a.eval g = .func (.func gf) #[] lb) (eg : ∀ args w, (callFunc gf args).run P w = .ok (.enter gf args) w)
    {encs : α → Array Value} {Ok : α → World → Prop} {Kp : World → World → Prop} {S Sp : List α → Prop} {N : Nat} {w0 : World} (hseq : SeqOk P gf lb encs Ok Kp S Sp N w0) (hOk : ∀ x, OwnFrom w.heap.size (fun (_ : Unit) W => Ok x W))
    (hKt : ∀ {A B C : World}, Kp A B → Kp B C → Kp A C) (hKb : ∀ (W : World) (l : Nat) (o o' : Obj), w.heap.size ≤ l → W.heap[l]? = some o → o.isCells = false → o.isWalk = false → Kp W (W.putObj l o')) (hb0 : Below w0.heap.size w0 w) (hps : ∀ x, (encs x).size = ps.size)
    (I : List α → World → Prop) (Ix : Code → List α → World → Prop) (hI : OwnFrom w.heap.size I) (hIx : ∀ c, OwnFrom w.heap.size (Ix c)) (h0 : I [] w) (a₁ : α → Act)
    (hassign : ∀ (l : Nat) (x : α) (W : World) (K : Act → World → Prop), K (a₁ x) W → assign.wpIn (Fence.wide.inRound l) 0 P (Exit.then K (fun _ _ _ => False)) { tmps := (ps.zip (encs x)).foldl (fun t (p, v) => t.setIfInBounds p v) a.tmps, defers := [] } W)
    (hbody : ∀ (l : Nat) (pre : List α) (x : α) (W : World), w.heap.size ≤ l → (∃ r, W.heap[l]? = some (.loop r)) → I pre W → pre.length < N → Ok x W → body.wpIn (Fence.wide.inRound l) 0 P (ownPostG w.heap.size Kp I Ix (pre ++ [x]) W) (a₁ x) W)
    (hdone : ∀ (D : Nat) (xs : List α) (W : World), w.heap.size ≤ D → S xs → I xs W → W.heap[D]? = some (.deferred (some [])) → Q .normal { a with defers := { target := .collected D, args := #[] } :: a.defers } W)
    (hstop : ∀ (D : Nat) (c : Code) (pre : List α) (W : World), w.heap.size ≤ D → Sp pre → Ix c pre W → W.heap[D]? = some (.deferred (some [])) → c.wpIn Fence.wide n P Q { a with defers := { target := .collected D, args := #[] } :: a.defers } W) :
    (Code.rangeFunc g ps assign body).wpIn Fence.wide n P Q a w := by
  refine wpIn_rangeFunc fun fn _ => ?_
  obtain ⟨rc, hrc⟩ : ∃ rc : LoopState → Option Code → Loop, RecOf rc fn a.tmps ps assign body w.heap.size := ⟨_, ⟨rfl⟩⟩
  obtain ⟨W1, hW1⟩ : ∃ W1, (w.alloc (.deferred (some []))).alloc (.loop (rc .ready none)) = W1 := ⟨_, rfl⟩
  have z1 : W1.heap.size = w.heap.size + 2 := by rw [← hW1]; simp
  have hl1 : W1.heap[w.heap.size + 1]? = some (.loop (rc .ready none)) := by
    have := World.alloc_heap_new (w.alloc (.deferred (some []))) (.loop (rc .ready none))
    rw [World.size_alloc] at this
    rw [← hW1]
    exact this
  have hd1 : W1.heap[w.heap.size]? = some (.deferred (some [])) := by
    rw [← hW1]
    exact (Below.heap_alloc _ _ _ (by simp)).trans (World.alloc_heap_new w _)
  have hi1 : I [] W1 := by rw [← hW1]; exact hI.alloc _ (hI.alloc _ h0)
  have hb1 : Below w0.heap.size w0 W1 := by
    rw [← hW1]
    exact hb0.trans ((((Below.refl _ w).alloc (Nat.le_refl _) _).alloc (by simp) _).mono hb0.size)
  have tail : ∀ {A : World} {row : Option Nat}, (∀ r, row = some r → W1.heap.size ≤ r ∧ ∃ o : Obj, A.heap[r]? = some o ∧ o.isCells = false) → ∀ r, row = some r → w.heap.size ≤ r ∧ ∃ o : Obj, A.heap[r]? = some o ∧ o.isCells = false := fun hr r e => ⟨by have := (hr r e).1; omega, (hr r e).2⟩
  have stays : ∀ {A B : World} {row : Option Nat} {k : Nat} {o : Obj}, A.grownBy B row → (∀ r, row = some r → W1.heap.size ≤ r ∧ ∃ o : Obj, A.heap[r]? = some o ∧ o.isCells = false) → k < W1.heap.size → A.heap[k]? = some o → B.heap[k]? = some o := fun {A B row k o} hg hr hk ho =>
    (hg.block k (Array.getElem?_eq_some_iff.1 ho).1 (fun e => by have := (hr k e.symm).1; omega)).trans ho
  refine ⟨w.heap.size + 1, [{ target := .collected w.heap.size, args := #[] }], W1, { target := .fn (.func gf) lb, args := #[.func (.yield (w.heap.size + 1)) #[] #[]] }, W1, gf, #[.func (.yield (w.heap.size + 1)) #[] #[]] ++ lb, W1, ?_, ?_, fun _ _ => trivial, ?_, fun h => (by cases h), ?_⟩
  · have := run_enterLoop_outer (P := P) (w := w) fn a.tmps ps assign body
    rw [← hW1, hrc.eq]
    exact this
  · simp only [resolve, hg]
    simp [go_sem]
  · simp [invoke, go_sem, eg]
  · refine callsIn_wide.2 ((hseq (w.heap.size + 1)
      (fun pre W => (I pre W ∧ W.heap[w.heap.size + 1]? = some (.loop (rc .ready none))) ∧ W.heap[w.heap.size]? = some (.deferred (some [])))
      (fun pre W => (∃ c, Ix c pre W ∧ W.heap[w.heap.size + 1]? = some (.loop (rc .done (some c)))) ∧ W.heap[w.heap.size]? = some (.deferred (some [])))
      W1 hb1
      (fun s A B row hs hg' hr => ⟨⟨hI s A B row hs.1.1 hg' (tail hr), stays hg' hr (by omega) hs.1.2⟩, stays hg' hr (by omega) hs.2⟩)
      (fun s A B row hs hg' hr => by
        obtain ⟨⟨c, hc, hl⟩, hd⟩ := hs
        exact ⟨⟨c, hIx c s A B row hc hg' (tail hr), stays hg' hr (by omega) hl⟩, stays hg' hr (by omega) hd⟩)
      ?_ ⟨⟨hi1, hl1⟩, hd1⟩).mono ?_)
    · rintro pre x W ⟨⟨hi, hl⟩, hd⟩ hlen hok
      have dn : ∀ {K : List α → World → Prop}, OwnFrom w.heap.size K → OwnFrom (w.heap.size + 1) (fun s W => K s W ∧ W.heap[w.heap.size]? = some (.deferred (some []))) := fun hK s A B row hs hg' hr =>
        ⟨hK s A B row hs.1 hg' (fun r e => ⟨by have := (hr r e).1; omega, (hr r e).2⟩), (hg'.block _ (Array.getElem?_eq_some_iff.1 hs.2).1 (fun e => by have := (hr _ e.symm).1; omega)).trans hs.2⟩
      refine YieldAt.mono (round_o (P := P) (m := 0) hrc (Nat.le_refl _) (show w.heap.size + 1 < W1.heap.size by omega) (encs := encs) (Kp := Kp) (fun h k => hKt h k) (fun W l o o' h => hKb W l o o' (by omega)) hps (dn hI) (fun c => dn (hIx c)) (a₁ := a₁) (pre := pre) (x := x) (Ok := Ok) (fun s A B row hs hg' hr => hOk x s A B row hs hg' (fun r e => ⟨by have := (hr r e).1; omega, (hr r e).2⟩)) hok ⟨hi, hd⟩ hl (fun W K hK => hassign _ x W K hK) (fun W hr ⟨hi, hd⟩ hok => wpIn_mono (hbody _ pre x W (by omega) hr hi hlen hok) ?_)) ?_
      · rintro e a3 W3 hp
        cases e with
        | normal => exact ⟨keepsFrom_up (by omega) hp.1, hp.2.1, hp.2.2, hp.1.same _ _ (Nat.le_refl _) hd rfl⟩
        | ret => exact ⟨keepsFrom_up (by omega) hp.1, hp.2, hp.1.same _ _ (Nat.le_refl _) hd rfl⟩
        | exit id => exact ⟨keepsFrom_up (by omega) hp.1, hp.2, hp.1.same _ _ (Nat.le_refl _) hd rfl⟩
        | goto t => exact ⟨keepsFrom_up (by omega) hp.1, hp.2, hp.1.same _ _ (Nat.le_refl _) hd rfl⟩
        | panic ch => exact hp.elim
        | outgrown => exact hp.elim
      · rintro e W' ⟨hk, ⟨he, ⟨⟨h1, h2⟩, h3⟩, h4⟩ | ⟨he, c, ⟨h1, h2⟩, h3⟩⟩
        · exact ⟨hk, .inl ⟨he, ⟨⟨h1, h3⟩, h2⟩, h4⟩⟩
        · exact ⟨hk, .inr ⟨he, ⟨c, h1, h3⟩, h2⟩⟩
    · rintro e W2 ⟨⟨v, rfl⟩, (⟨xs, hS, ⟨hi, hl⟩, hd⟩ | ⟨pre, hSp, ⟨c, hi, hl⟩, hd⟩)⟩
      · refine ⟨none, _, by have := run_endLoop (P := P) hl (by rw [hrc.eq]; simp); rw [hrc.eq] at this; exact this, hdone _ xs _ (Nat.le_refl _) hS (hI.putObj _ hi (by omega) hl rfl) ((World.putObj_heap_other (by omega)).trans hd)⟩
      · refine ⟨some c, _, by have := run_endLoop (P := P) hl (by rw [hrc.eq]; simp); rw [hrc.eq] at this; exact this, hstop _ c pre _ (Nat.le_refl _) hSp ((hIx c).putObj _ hi (by omega) hl rfl) ((World.putObj_heap_other (by omega)).trans hd)⟩

theorem range_oN {l₀ : Nat} {r₀ : Loop} (hl₀ : w.heap[l₀]? = some (.loop r₀)) {gf : Nat} {lb : Array Value} (hg : a.eval g = .func (.func gf) #[] lb) (eg : ∀ args w, (callFunc gf args).run P w = .ok (.enter gf args) w)
    {encs : α → Array Value} {Ok : α → World → Prop} {Kp : World → World → Prop} {S Sp : List α → Prop} {N : Nat} {w0 : World} (hseq : SeqOk P gf lb encs Ok Kp S Sp N w0) (hOk : ∀ x, OwnFrom w.heap.size (fun (_ : Unit) W => Ok x W))
    (hKt : ∀ {A B C : World}, Kp A B → Kp B C → Kp A C) (hKb : ∀ (W : World) (l : Nat) (o o' : Obj), w.heap.size ≤ l → W.heap[l]? = some o → o.isCells = false → o.isWalk = false → Kp W (W.putObj l o')) (hb0 : Below w0.heap.size w0 w) (hps : ∀ x, (encs x).size = ps.size)
    (I : List α → World → Prop) (Ix : Code → List α → World → Prop) (hI : OwnFrom w.heap.size I) (hIx : ∀ c, OwnFrom w.heap.size (Ix c)) (h0 : I [] w) (a₁ : α → Act)
    (hassign : ∀ (l : Nat) (x : α) (W : World) (K : Act → World → Prop), K (a₁ x) W → assign.wpIn (Fence.wide.inRound l) 0 P (Exit.then K (fun _ _ _ => False)) { tmps := (ps.zip (encs x)).foldl (fun t (p, v) => t.setIfInBounds p v) a.tmps, defers := [] } W)
    (hbody : ∀ (l : Nat) (pre : List α) (x : α) (W : World), w.heap.size ≤ l → (∃ r, W.heap[l]? = some (.loop r)) → I pre W → pre.length < N → Ok x W → body.wpIn (Fence.wide.inRound l) 0 P (ownPostG w.heap.size Kp I Ix (pre ++ [x]) W) (a₁ x) W)
    (hdone : ∀ (xs : List α) (W : World), S xs → I xs W → Q .normal a W)
    (hstop : ∀ (c : Code) (pre : List α) (W : World), Sp pre → Ix c pre W → c.wpIn (Fence.wide.inRound l₀) n P Q a W) :
    (Code.rangeFunc g ps assign body).wpIn (Fence.wide.inRound l₀) n P Q a w := by
  refine wpIn_rangeFunc fun fn _ => ?_
  obtain ⟨rc, hrc⟩ : ∃ rc : LoopState → Option Code → Loop, RecOf rc fn a.tmps ps assign body r₀.defers := ⟨_, ⟨rfl⟩⟩
  obtain ⟨W1, hW1⟩ : ∃ W1, w.alloc (.loop (rc .ready none)) = W1 := ⟨_, rfl⟩
  have z1 : W1.heap.size = w.heap.size + 1 := by rw [← hW1]; simp
  have hl1 : W1.heap[w.heap.size]? = some (.loop (rc .ready none)) := by rw [← hW1]; exact World.alloc_heap_new w _
  have hi1 : I [] W1 := by rw [← hW1]; exact hI.alloc _ h0
  have hb1 : Below w0.heap.size w0 W1 := by
    rw [← hW1]
    exact hb0.trans (((Below.refl _ w).alloc (Nat.le_refl _) _).mono hb0.size)
  have tail : ∀ {A : World} {row : Option Nat}, (∀ r, row = some r → W1.heap.size ≤ r ∧ ∃ o : Obj, A.heap[r]? = some o ∧ o.isCells = false) → ∀ r, row = some r → w.heap.size ≤ r ∧ ∃ o : Obj, A.heap[r]? = some o ∧ o.isCells = false := fun hr r e => ⟨by have := (hr r e).1; omega, (hr r e).2⟩
  have stays : ∀ {A B : World} {row : Option Nat} {k : Nat} {o : Obj}, A.grownBy B row → (∀ r, row = some r → W1.heap.size ≤ r ∧ ∃ o : Obj, A.heap[r]? = some o ∧ o.isCells = false) → k < W1.heap.size → A.heap[k]? = some o → B.heap[k]? = some o := fun {A B row k o} hg hr hk ho =>
    (hg.block k (Array.getElem?_eq_some_iff.1 ho).1 (fun e => by have := (hr k e.symm).1; omega)).trans ho
  refine ⟨w.heap.size, [], W1, { target := .fn (.func gf) lb, args := #[.func (.yield w.heap.size) #[] #[]] }, W1, gf, #[.func (.yield w.heap.size) #[] #[]] ++ lb, W1, ?_, ?_, fun _ _ => trivial, ?_, fun h => (by cases h), ?_⟩
  · have := run_enterLoop_inner (P := P) hl₀ fn a.tmps ps assign body
    rw [← hW1, hrc.eq]
    exact this
  · simp only [resolve, hg]
    simp [go_sem]
  · simp [invoke, go_sem, eg]
  · refine CallsIn.inRound l₀ (callsIn_wide.2 ((hseq w.heap.size
      (fun pre W => I pre W ∧ W.heap[w.heap.size]? = some (.loop (rc .ready none)))
      (fun pre W => ∃ c, Ix c pre W ∧ W.heap[w.heap.size]? = some (.loop (rc .done (some c))))
      W1 hb1
      (fun s A B row hs hg' hr => ⟨hI s A B row hs.1 hg' (tail hr), stays hg' hr (by omega) hs.2⟩)
      (fun s A B row hs hg' hr => by
        obtain ⟨c, hc, hl⟩ := hs
        exact ⟨c, hIx c s A B row hc hg' (tail hr), stays hg' hr (by omega) hl⟩)
      ?_ ⟨hi1, hl1⟩).mono ?_))
    · rintro pre x W ⟨hi, hl⟩ hlen hok
      exact round_o (P := P) (m := 0) hrc (Nat.le_refl _) (show w.heap.size < W1.heap.size by omega) (encs := encs) (Kp := Kp) (fun h k => hKt h k) hKb hps hI hIx (a₁ := a₁) (pre := pre) (x := x) (Ok := Ok) (hOk x) hok hi hl (fun W K hK => hassign _ x W K hK) (fun W hr hi hok => hbody _ pre x W (Nat.le_refl _) hr hi hlen hok)
    · rintro e W2 ⟨⟨v, rfl⟩, (⟨xs, hS, hi, hl⟩ | ⟨pre, hSp, c, hi, hl⟩)⟩
      · refine ⟨none, _, by have := run_endLoop (P := P) hl (by rw [hrc.eq]; simp); rw [hrc.eq] at this; exact this, ?_⟩
        simpa using hdone xs _ hS (hI.putObj _ hi (by omega) hl rfl)
      · refine ⟨some c, _, by have := run_endLoop (P := P) hl (by rw [hrc.eq]; simp); rw [hrc.eq] at this; exact this, ?_⟩
        simpa using hstop c pre _ hSp ((hIx c).putObj _ hi (by omega) hl rfl)

theorem ownFrom_cells {β : Type} (B : Nat) (k : Nat) (c : Array Value) (t : TypeId) (m : Nat × Nat) : OwnFrom B (fun (_ : β) W => W.heap[k]? = some (.cells c t m)) := fun _ A C row hs hg hr =>
  (hg.block k (Array.getElem?_eq_some_iff.1 hs).1 (fun e => by
    obtain ⟨_, o, ho, hc⟩ := hr k e.symm
    rw [hs] at ho
    cases ho
    cases hc)).trans hs

theorem range_o2 {p q d1 d2 : Tmp} {gf : Nat} {lb : Array Value} (hg : a.eval g = .func (.func gf) #[] lb) (eg : ∀ args w, (callFunc gf args).run P w = .ok (.enter gf args) w)
    {e1 e2 : α → Value} {Kp : World → World → Prop} {S Sp : List α → Prop} {N : Nat} {w0 : World} (hseq : SeqO P gf lb (fun x => #[e1 x, e2 x]) Kp S Sp N w0)
    (hKt : ∀ {A B C : World}, Kp A B → Kp B C → Kp A C) (hKb : ∀ (W : World) (l : Nat) (o o' : Obj), w.heap.size ≤ l → W.heap[l]? = some o → o.isCells = false → o.isWalk = false → Kp W (W.putObj l o')) (hb0 : Below w0.heap.size w0 w)
    (I : List α → World → Prop) (Ix : Code → List α → World → Prop) (hI : OwnFrom w.heap.size I) (hIx : ∀ c, OwnFrom w.heap.size (Ix c)) (h0 : I [] w)
    (hassign : ∀ (l : Nat) (x : α) (W : World) (K : Act → World → Prop), K { tmps := (((a.tmps.setIfInBounds p (e1 x)).setIfInBounds q (e2 x)).setIfInBounds d1 (e1 x)).setIfInBounds d2 (e2 x), defers := [] } W →
      assign.wpIn (Fence.wide.inRound l) 0 P (Exit.then K (fun _ _ _ => False)) { tmps := (a.tmps.setIfInBounds p (e1 x)).setIfInBounds q (e2 x), defers := [] } W)
    (hbody : ∀ (l : Nat) (pre : List α) (x : α) (W : World), w.heap.size ≤ l → (∃ r, W.heap[l]? = some (.loop r)) → I pre W → pre.length < N → body.wpIn (Fence.wide.inRound l) 0 P (ownPostG w.heap.size Kp I Ix (pre ++ [x]) W) { tmps := (((a.tmps.setIfInBounds p (e1 x)).setIfInBounds q (e2 x)).setIfInBounds d1 (e1 x)).setIfInBounds d2 (e2 x), defers := [] } W)
    (hdone : ∀ (D : Nat) (xs : List α) (W : World), w.heap.size ≤ D → S xs → I xs W → W.heap[D]? = some (.deferred (some [])) → Q .normal { a with defers := { target := .collected D, args := #[] } :: a.defers } W)
    (hstop : ∀ (D : Nat) (c : Code) (pre : List α) (W : World), w.heap.size ≤ D → Sp pre → Ix c pre W → W.heap[D]? = some (.deferred (some [])) → c.wpIn Fence.wide n P Q { a with defers := { target := .collected D, args := #[] } :: a.defers } W) :
    (Code.rangeFunc g #[p, q] assign body).wpIn Fence.wide n P Q a w :=
  range_o hg eg hseq (fun _ _ _ _ _ hs _ _ => hs) (fun h k => hKt h k) hKb hb0 (fun _ => rfl) I Ix hI hIx h0 (fun x => { tmps := (((a.tmps.setIfInBounds p (e1 x)).setIfInBounds q (e2 x)).setIfInBounds d1 (e1 x)).setIfInBounds d2 (e2 x), defers := [] })
    (fun l x W K hK => by simpa using hassign l x W K hK) (fun l pre x W h1 h2 h3 h4 _ => hbody l pre x W h1 h2 h3 h4) hdone hstop

theorem range_ok2 {p q d1 d2 : Tmp} {gf : Nat} {lb : Array Value} (hg : a.eval g = .func (.func gf) #[] lb) (eg : ∀ args w, (callFunc gf args).run P w = .ok (.enter gf args) w)
    {e1 e2 : α → Value} {Ok : α → World → Prop} {Kp : World → World → Prop} {S Sp : List α → Prop} {N : Nat} {w0 : World} (hseq : SeqOk P gf lb (fun x => #[e1 x, e2 x]) Ok Kp S Sp N w0) (hOk : ∀ x, OwnFrom w.heap.size (fun (_ : Unit) W => Ok x W))
    (hKt : ∀ {A B C : World}, Kp A B → Kp B C → Kp A C) (hKb : ∀ (W : World) (l : Nat) (o o' : Obj), w.heap.size ≤ l → W.heap[l]? = some o → o.isCells = false → o.isWalk = false → Kp W (W.putObj l o')) (hb0 : Below w0.heap.size w0 w)
    (I : List α → World → Prop) (Ix : Code → List α → World → Prop) (hI : OwnFrom w.heap.size I) (hIx : ∀ c, OwnFrom w.heap.size (Ix c)) (h0 : I [] w)
    (hassign : ∀ (l : Nat) (x : α) (W : World) (K : Act → World → Prop), K { tmps := (((a.tmps.setIfInBounds p (e1 x)).setIfInBounds q (e2 x)).setIfInBounds d1 (e1 x)).setIfInBounds d2 (e2 x), defers := [] } W →
      assign.wpIn (Fence.wide.inRound l) 0 P (Exit.then K (fun _ _ _ => False)) { tmps := (a.tmps.setIfInBounds p (e1 x)).setIfInBounds q (e2 x), defers := [] } W)
    (hbody : ∀ (l : Nat) (pre : List α) (x : α) (W : World), w.heap.size ≤ l → (∃ r, W.heap[l]? = some (.loop r)) → I pre W → pre.length < N → Ok x W → body.wpIn (Fence.wide.inRound l) 0 P (ownPostG w.heap.size Kp I Ix (pre ++ [x]) W) { tmps := (((a.tmps.setIfInBounds p (e1 x)).setIfInBounds q (e2 x)).setIfInBounds d1 (e1 x)).setIfInBounds d2 (e2 x), defers := [] } W)
    (hdone : ∀ (D : Nat) (xs : List α) (W : World), w.heap.size ≤ D → S xs → I xs W → W.heap[D]? = some (.deferred (some [])) → Q .normal { a with defers := { target := .collected D, args := #[] } :: a.defers } W)
    (hstop : ∀ (D : Nat) (c : Code) (pre : List α) (W : World), w.heap.size ≤ D → Sp pre → Ix c pre W → W.heap[D]? = some (.deferred (some [])) → c.wpIn Fence.wide n P Q { a with defers := { target := .collected D, args := #[] } :: a.defers } W) :
    (Code.rangeFunc g #[p, q] assign body).wpIn Fence.wide n P Q a w :=
  range_o hg eg hseq hOk (fun h k => hKt h k) hKb hb0 (fun _ => rfl) I Ix hI hIx h0 (fun x => { tmps := (((a.tmps.setIfInBounds p (e1 x)).setIfInBounds q (e2 x)).setIfInBounds d1 (e1 x)).setIfInBounds d2 (e2 x), defers := [] })
    (fun l x W K hK => by simpa using hassign l x W K hK) hbody hdone hstop

theorem range_o1 {p d1 : Tmp} {gf : Nat} {lb : Array Value} (hg : a.eval g = .func (.func gf) #[] lb) (eg : ∀ args w, (callFunc gf args).run P w = .ok (.enter gf args) w)
    {e1 : α → Value} {Kp : World → World → Prop} {S Sp : List α → Prop} {N : Nat} {w0 : World} (hseq : SeqO P gf lb (fun x => #[e1 x]) Kp S Sp N w0)
    (hKt : ∀ {A B C : World}, Kp A B → Kp B C → Kp A C) (hKb : ∀ (W : World) (l : Nat) (o o' : Obj), w.heap.size ≤ l → W.heap[l]? = some o → o.isCells = false → o.isWalk = false → Kp W (W.putObj l o')) (hb0 : Below w0.heap.size w0 w)
    (I : List α → World → Prop) (Ix : Code → List α → World → Prop) (hI : OwnFrom w.heap.size I) (hIx : ∀ c, OwnFrom w.heap.size (Ix c)) (h0 : I [] w)
    (hassign : ∀ (l : Nat) (x : α) (W : World) (K : Act → World → Prop), K { tmps := (a.tmps.setIfInBounds p (e1 x)).setIfInBounds d1 (e1 x), defers := [] } W →
      assign.wpIn (Fence.wide.inRound l) 0 P (Exit.then K (fun _ _ _ => False)) { tmps := a.tmps.setIfInBounds p (e1 x), defers := [] } W)
    (hbody : ∀ (l : Nat) (pre : List α) (x : α) (W : World), w.heap.size ≤ l → (∃ r, W.heap[l]? = some (.loop r)) → I pre W → pre.length < N → body.wpIn (Fence.wide.inRound l) 0 P (ownPostG w.heap.size Kp I Ix (pre ++ [x]) W) { tmps := (a.tmps.setIfInBounds p (e1 x)).setIfInBounds d1 (e1 x), defers := [] } W)
    (hdone : ∀ (D : Nat) (xs : List α) (W : World), w.heap.size ≤ D → S xs → I xs W → W.heap[D]? = some (.deferred (some [])) → Q .normal { a with defers := { target := .collected D, args := #[] } :: a.defers } W)
    (hstop : ∀ (D : Nat) (c : Code) (pre : List α) (W : World), w.heap.size ≤ D → Sp pre → Ix c pre W → W.heap[D]? = some (.deferred (some [])) → c.wpIn Fence.wide n P Q { a with defers := { target := .collected D, args := #[] } :: a.defers } W) :
    (Code.rangeFunc g #[p] assign body).wpIn Fence.wide n P Q a w :=
  range_o hg eg hseq (fun _ _ _ _ _ hs _ _ => hs) (fun h k => hKt h k) hKb hb0 (fun _ => rfl) I Ix hI hIx h0 (fun x => { tmps := (a.tmps.setIfInBounds p (e1 x)).setIfInBounds d1 (e1 x), defers := [] })
    (fun l x W K hK => by simpa using hassign l x W K hK) (fun l pre x W h1 h2 h3 h4 _ => hbody l pre x W h1 h2 h3 h4) hdone hstop

theorem ownFrom_grown {β : Type} (W1 : World) {B : Nat} (hB : W1.heap.size ≤ B) : OwnFrom B (fun (_ : β) X => W1.grownBy X none) := fun _ X Y row hs hg hr =>
  ⟨hg.os.trans hs.os, hg.tape.trans hs.tape, hg.output.trans hs.output, Nat.le_trans hs.size hg.size, fun k hk _ => (hg.block k (Nat.lt_of_lt_of_le hk hs.size) (fun e => by have := (hr k e.symm).1; omega)).trans (hs.block k hk (by simp))⟩

theorem keepsFrom_grown {B : Nat} {A C : World} (hg : A.grownBy C none) : KeepsFrom B A C := ⟨hg.size, fun k _ _ hk _ => (hg.block k (Array.getElem?_eq_some_iff.1 hk).1 (by simp)).trans hk⟩

theorem keepsFrom_cell {B : Nat} (W : World) (a : Addr) (v : Value) : KeepsFrom B W (W.setCell a v) := (KeepsOthers.setCell W a v).from B

structure Set1 (W1 : World) (rb : Nat) (v : Value) (ty : TypeId) (X : World) : Prop where
  res : X.heap[rb]? = some (.cells #[v] ty (0, 0))
  old : ∀ k, k < W1.heap.size → k ≠ rb → X.heap[k]? = W1.heap[k]?
  size : W1.heap.size ≤ X.heap.size
  os : X.os = W1.os
  tape : X.tape = W1.tape
  output : X.output = W1.output

theorem Set1.own {β : Type} {W1 : World} {rb : Nat} {v : Value} {ty : TypeId} {B : Nat} (hB : W1.heap.size ≤ B) (hrb : rb < W1.heap.size) : OwnFrom B (fun (_ : β) X => Set1 W1 rb v ty X) := fun _ X Y row hs hg hr => by
  have hz := hs.size
  have key : ∀ k, k < W1.heap.size → Y.heap[k]? = X.heap[k]? := fun k hk => hg.block k (by omega) (fun e => by have := (hr k e.symm).1; omega)
  exact ⟨(key rb hrb).trans hs.res, fun k hk hn => (key k hk).trans (hs.old k hk hn), Nat.le_trans hz hg.size, hg.os.trans hs.os, hg.tape.trans hs.tape, hg.output.trans hs.output⟩

theorem Set1.of_set {W1 X : World} (hg : W1.grownBy X none) {rb : Nat} {u : Value} {ty : TypeId} (hr : X.heap[rb]? = some (.cells #[u] ty (0, 0))) (v : Value) : Set1 W1 rb v ty (X.setCell ⟨rb, 0, none⟩ v) := by
  have hb := grownBy_setCell' X rb v
  refine ⟨?_, fun k hk hn => ?_, Nat.le_trans hg.size hb.size, hb.os.trans hg.os, hb.tape.trans hg.tape, hb.output.trans hg.output⟩
  · unfold World.setCell
    simp only
    rw [Array.getElem?_modify]
    simp [hr]
  · exact (hb.block k (Nat.lt_of_lt_of_le hk hg.size) (fun e => hn (by cases e; rfl))).trans (hg.block k hk (by simp))

end Go.Proofs.YtckhafpejefbbaaGreatDoor

/- tree.parts of names and binders; tree.BinderOf. -/
namespace Go.Proofs.YtckhafpejefbbaaGreatDoor
open Go.RowKit

set_option maxRecDepth 100000 in
set_option maxHeartbeats 2000000 in
theorem parts_Name (w : World) (b : Nat) :
    Calls Tryz.prog 162 #[.iface 83 (.pointer (some ⟨b, 0, none⟩))] w (PartsPost w []) := by
  have q0 := ta_Name_Bracket
  have q1 := ta_Name_Pair
  have q2 := ta_Name_Call
  have q3 := ta_Name_Binary
  have q4 := ta_Name_If
  have q5 := ta_Name_Fun
  have q6 := ta_Name_Let
  go_enter Tryz.func162, Tryz.ntmps162
  go_wp2_with fail
  go_ret
  exact ⟨grown_refl _, .inl ⟨rfl, rfl⟩⟩

set_option maxRecDepth 100000 in
set_option maxHeartbeats 2000000 in
theorem parts_Fun {w : World} {b : Nat} {c0 c1 c2 c3 : Value} {v1 : Value} (h0 : ∃ T n, v1 = .iface T (.pointer (some ⟨n, 0, none⟩))) (hb : w.heap[b]? = some (.cells #[c0, c1, c2, c3, v1] 235 (0, 0))) :
    Calls Tryz.prog 162 #[.iface 215 (.pointer (some ⟨b, 0, none⟩))] w (PartsPost w [v1]) := by
  obtain ⟨T0, n0, rfl⟩ := h0
  have c0 : w.cell? ⟨b, 4, none⟩ = some (.iface T0 (.pointer (some ⟨n0, 0, none⟩))) := by rw [cell_of_row _ _ _ _ _ _ hb]; rfl
  have q0 := ta_Fun_Bracket
  have q1 := ta_Fun_Pair
  have q2 := ta_Fun_Call
  have q3 := ta_Fun_Binary
  have q4 := ta_Fun_If
  have q5 := ta_Fun_Fun
  have q6 := ta_Fun_Let
  clear hb
  go_enter Tryz.func162, Tryz.ntmps162
  go_wp2_with fail
  go_ret
  exact ⟨World.grownBy_alloc _ _ none, .inr ⟨_, rfl, new_block w _⟩⟩

set_option maxRecDepth 100000 in
set_option maxHeartbeats 2000000 in
theorem parts_Let {w : World} {b : Nat} {c0 c1 c2 c3 c4 : Value} {v1 v2 : Value} (h0 : ∃ T n, v1 = .iface T (.pointer (some ⟨n, 0, none⟩))) (h1 : ∃ T n, v2 = .iface T (.pointer (some ⟨n, 0, none⟩))) (hb : w.heap[b]? = some (.cells #[c0, c1, c2, c3, c4, v1, v2] 140 (0, 0))) :
    Calls Tryz.prog 162 #[.iface 136 (.pointer (some ⟨b, 0, none⟩))] w (PartsPost w [v1, v2]) := by
  obtain ⟨T0, n0, rfl⟩ := h0
  obtain ⟨T1, n1, rfl⟩ := h1
  have c0 : w.cell? ⟨b, 5, none⟩ = some (.iface T0 (.pointer (some ⟨n0, 0, none⟩))) := by rw [cell_of_row _ _ _ _ _ _ hb]; rfl
  have c1 : w.cell? ⟨b, 6, none⟩ = some (.iface T1 (.pointer (some ⟨n1, 0, none⟩))) := by rw [cell_of_row _ _ _ _ _ _ hb]; rfl
  have q0 := ta_Let_Bracket
  have q1 := ta_Let_Pair
  have q2 := ta_Let_Call
  have q3 := ta_Let_Binary
  have q4 := ta_Let_If
  have q5 := ta_Let_Fun
  have q6 := ta_Let_Let
  clear hb
  go_enter Tryz.func162, Tryz.ntmps162
  go_wp2_with fail
  go_region
  go_wp2_with fail
  go_ret
  exact ⟨grown_drew (World.grownBy_alloc _ _ none), .inr ⟨_, rfl, new_block w _⟩⟩

set_option maxRecDepth 100000 in
theorem binderOf_Name (w : World) (b : Nat) : Calls Tryz.prog 58 #[.iface 83 (.pointer (some ⟨b, 0, none⟩))] w fun e w' => e = .returned (.pointer none) ∧ w = w' := by
  have q0 := ta_Name_Fun
  have q1 := ta_Name_Let
  go_enter Tryz.func58, Tryz.ntmps58
  go_wp2_with fail
  go_ret
  exact ⟨rfl, rfl⟩

set_option maxRecDepth 100000 in
theorem binderOf_Int (w : World) (b : Nat) : Calls Tryz.prog 58 #[.iface 191 (.pointer (some ⟨b, 0, none⟩))] w fun e w' => e = .returned (.pointer none) ∧ w = w' := by
  have q0 := ta_Int_Fun
  have q1 := ta_Int_Let
  go_enter Tryz.func58, Tryz.ntmps58
  go_wp2_with fail
  go_ret
  exact ⟨rfl, rfl⟩

set_option maxRecDepth 100000 in
theorem binderOf_Truth (w : World) (b : Nat) : Calls Tryz.prog 58 #[.iface 195 (.pointer (some ⟨b, 0, none⟩))] w fun e w' => e = .returned (.pointer none) ∧ w = w' := by
  have q0 := ta_Truth_Fun
  have q1 := ta_Truth_Let
  go_enter Tryz.func58, Tryz.ntmps58
  go_wp2_with fail
  go_ret
  exact ⟨rfl, rfl⟩

set_option maxRecDepth 100000 in
theorem binderOf_Side (w : World) (b : Nat) : Calls Tryz.prog 58 #[.iface 199 (.pointer (some ⟨b, 0, none⟩))] w fun e w' => e = .returned (.pointer none) ∧ w = w' := by
  have q0 := ta_Side_Fun
  have q1 := ta_Side_Let
  go_enter Tryz.func58, Tryz.ntmps58
  go_wp2_with fail
  go_ret
  exact ⟨rfl, rfl⟩

set_option maxRecDepth 100000 in
theorem binderOf_Bracket (w : World) (b : Nat) : Calls Tryz.prog 58 #[.iface 204 (.pointer (some ⟨b, 0, none⟩))] w fun e w' => e = .returned (.pointer none) ∧ w = w' := by
  have q0 := ta_Bracket_Fun
  have q1 := ta_Bracket_Let
  go_enter Tryz.func58, Tryz.ntmps58
  go_wp2_with fail
  go_ret
  exact ⟨rfl, rfl⟩

set_option maxRecDepth 100000 in
theorem binderOf_Pair (w : World) (b : Nat) : Calls Tryz.prog 58 #[.iface 207 (.pointer (some ⟨b, 0, none⟩))] w fun e w' => e = .returned (.pointer none) ∧ w = w' := by
  have q0 := ta_Pair_Fun
  have q1 := ta_Pair_Let
  go_enter Tryz.func58, Tryz.ntmps58
  go_wp2_with fail
  go_ret
  exact ⟨rfl, rfl⟩

set_option maxRecDepth 100000 in
theorem binderOf_Call (w : World) (b : Nat) : Calls Tryz.prog 58 #[.iface 209 (.pointer (some ⟨b, 0, none⟩))] w fun e w' => e = .returned (.pointer none) ∧ w = w' := by
  have q0 := ta_Call_Fun
  have q1 := ta_Call_Let
  go_enter Tryz.func58, Tryz.ntmps58
  go_wp2_with fail
  go_ret
  exact ⟨rfl, rfl⟩

set_option maxRecDepth 100000 in
theorem binderOf_Binary (w : World) (b : Nat) : Calls Tryz.prog 58 #[.iface 211 (.pointer (some ⟨b, 0, none⟩))] w fun e w' => e = .returned (.pointer none) ∧ w = w' := by
  have q0 := ta_Binary_Fun
  have q1 := ta_Binary_Let
  go_enter Tryz.func58, Tryz.ntmps58
  go_wp2_with fail
  go_ret
  exact ⟨rfl, rfl⟩

set_option maxRecDepth 100000 in
theorem binderOf_If (w : World) (b : Nat) : Calls Tryz.prog 58 #[.iface 213 (.pointer (some ⟨b, 0, none⟩))] w fun e w' => e = .returned (.pointer none) ∧ w = w' := by
  have q0 := ta_If_Fun
  have q1 := ta_If_Let
  go_enter Tryz.func58, Tryz.ntmps58
  go_wp2_with fail
  go_ret
  exact ⟨rfl, rfl⟩

set_option maxRecDepth 100000 in
theorem binderOf_Fun (w : World) (b : Nat) : Calls Tryz.prog 58 #[.iface 215 (.pointer (some ⟨b, 0, none⟩))] w fun e w' => e = .returned (.pointer (some ⟨b, 2, none⟩)) ∧ w = w' := by
  have q0 := ta_Fun_Fun
  have q1 := ta_Fun_Let
  go_enter Tryz.func58, Tryz.ntmps58
  go_wp2_with fail
  go_ret
  exact ⟨rfl, rfl⟩

set_option maxRecDepth 100000 in
theorem binderOf_Let (w : World) (b : Nat) : Calls Tryz.prog 58 #[.iface 136 (.pointer (some ⟨b, 0, none⟩))] w fun e w' => e = .returned (.pointer (some ⟨b, 3, none⟩)) ∧ w = w' := by
  have q0 := ta_Let_Fun
  have q1 := ta_Let_Let
  go_enter Tryz.func58, Tryz.ntmps58
  go_wp2_with fail
  go_ret
  exact ⟨rfl, rfl⟩

end Go.Proofs.YtckhafpejefbbaaGreatDoor
