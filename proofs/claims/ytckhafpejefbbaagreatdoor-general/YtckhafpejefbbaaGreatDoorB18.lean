/- Texts of the proof, put together: DeepThy, PlcThy, Bound, RecThy, RecRun, Keep, Digits, RecFine, RecWalk, PlcWalk. -/
import Derived.Test.YtckhafpejefbbaaGreatDoorB17
import Derived.Test.YtckhafpejefbbaaGreatDoorB15
import Derived.Test.YtckhafpejefbbaaGreatDoorB13
import Derived.Deep.RegionHeld3

/- A tree that was read is not too deep. -/
namespace Go.Proofs.YtckhafpejefbbaaGreatDoor.Tw
open Go

theorem begin_deep {ts : List Tok} {s : Int} {st st' : PS} {k : Nat} (h : beginS ts s st = some (k, st')) (hs : st'.stuck = false) : st.depth ≠ 40 ∧ st'.depth = st.depth + 1 ∧ st.stuck = false := by
  have m := beginS_mild h
  refine ⟨fun e => ?_, m.2, m.1 hs⟩
  unfold beginS at h
  rw [if_pos e] at h
  obtain ⟨s1, h1, h⟩ := Option.bind_eq_some_iff.1 h
  split at h
  · obtain ⟨⟨t1, s2⟩, h2, h⟩ := Option.bind_eq_some_iff.1 h
    cases h
    have := (takeS_mild h2).1 hs
    simp only at this
    rw [(failS_stuck h1).1] at this
    cases this
  · cases h

theorem leaf_deep {l : List UInt8} {t : Tok} {x : T} (h : leafS l t = some x) : x.deep = 0 := by
  unfold leafS at h
  split at h
  · split at h
    · obtain ⟨v, _, h⟩ := Option.bind_eq_some_iff.1 h
      cases h; rfl
    · cases h
  · split at h
    · cases h; rfl
    · split at h
      · cases h; rfl
      · split at h
        · cases h; rfl
        · cases h

structure DAll (l : List UInt8) (ts : List Tok) (n : Nat) : Prop where
  expr : ∀ {st st' t}, exprS l ts n st = some (t, st') → st'.stuck = false → st.depth ≤ 40 → st.depth + t.deep ≤ 40
  lett : ∀ {st st' t}, letS l ts n st = some (t, st') → st'.stuck = false → st.depth ≤ 40 → st.depth + t.deep ≤ 40
  fn : ∀ {st st' t}, funS l ts n st = some (t, st') → st'.stuck = false → st.depth ≤ 40 → st.depth + t.deep ≤ 40
  cond : ∀ {st st' t}, condS l ts n st = some (t, st') → st'.stuck = false → st.depth ≤ 40 → st.depth + t.deep ≤ 40
  cmp : ∀ {st st' t}, cmpS l ts n st = some (t, st') → st'.stuck = false → st.depth ≤ 40 → st.depth + t.deep ≤ 40
  sum : ∀ {st st' t}, sumS l ts n st = some (t, st') → st'.stuck = false → st.depth ≤ 40 → st.depth + t.deep ≤ 40
  term : ∀ {st st' t}, termS l ts n st = some (t, st') → st'.stuck = false → st.depth ≤ 40 → st.depth + t.deep ≤ 40
  part : ∀ {p st st' t}, partS l ts n p st = some (t, st') → st'.stuck = false → st.depth ≤ 40 → st.depth + t.deep ≤ 40
  chain : ∀ {p g st st' t}, chainS l ts n p g st = some (t, st') → st'.stuck = false → st.depth ≤ 40 → st.depth + t.deep ≤ 40
  chainFrom : ∀ {p g a st st' t}, chainFromS l ts n p g a st = some (t, st') → st'.stuck = false → st.depth ≤ 40 → st.depth + a.deep ≤ 40 → st.depth + t.deep ≤ 40
  call : ∀ {st st' t}, callS l ts n st = some (t, st') → st'.stuck = false → st.depth ≤ 40 → st.depth + t.deep ≤ 40
  callFrom : ∀ {a st st' t}, callFromS l ts n a st = some (t, st') → st'.stuck = false → st.depth ≤ 40 → st.depth + a.deep ≤ 40 → st.depth + t.deep ≤ 40
  atom : ∀ {st st' t}, atomS l ts n st = some (t, st') → st'.stuck = false → st.depth ≤ 40 → st.depth + t.deep ≤ 40
  bracket : ∀ {st st' t}, bracketS l ts n st = some (t, st') → st'.stuck = false → st.depth ≤ 40 → st.depth + t.deep ≤ 40

theorem deep_all (l : List UInt8) (ts : List Tok) : ∀ n, DAll l ts n
  | 0 => by constructor <;> intros <;> first | (rename_i h _ _; simp [exprS, letS, funS, condS, cmpS, sumS, termS, partS, chainS, callS, atomS, bracketS] at h) | (rename_i h _ _ _; simp [chainFromS, callFromS] at h)
  | n + 1 => by
    have ih := deep_all l ts n
    have hM := mild_all l ts n
    constructor
    · intro st st' t h hs hd
      rw [exprS] at h
      obtain ⟨k, _, h⟩ := Option.bind_eq_some_iff.1 h
      split at h
      · exact ih.lett h hs hd
      · split at h
        · exact ih.fn h hs hd
        · split at h
          · exact ih.cond h hs hd
          · exact ih.cmp h hs hd
    · intro st st' t h hs hd
      rw [letS] at h
      obtain ⟨⟨b, s1⟩, h1, h⟩ := Option.bind_eq_some_iff.1 h
      obtain ⟨⟨rc, s2⟩, h2, h⟩ := Option.bind_eq_some_iff.1 h
      obtain ⟨⟨bd, s3⟩, h3, h⟩ := Option.bind_eq_some_iff.1 h
      obtain ⟨⟨e, s4⟩, h4, h⟩ := Option.bind_eq_some_iff.1 h
      obtain ⟨⟨d, s5⟩, h5, h⟩ := Option.bind_eq_some_iff.1 h
      obtain ⟨⟨i, s6⟩, h6, h⟩ := Option.bind_eq_some_iff.1 h
      obtain ⟨⟨x, s7⟩, h7, h⟩ := Option.bind_eq_some_iff.1 h
      obtain ⟨s8, h8, h⟩ := Option.bind_eq_some_iff.1 h
      simp only [Option.some.injEq, Prod.mk.injEq] at h h2 h3 h4 h5 h6 h7 h8
      obtain ⟨rfl, rfl⟩ := h
      have k7 : s7.stuck = false := by rw [← (endS_mild h8).1]; exact hs
      have k6 := (hM.expr h7).1 k7
      have k5 := (takeS_mild h6).1 k6
      have k4 := (hM.expr h5).1 k5
      have k3 := (takeS_mild h4).1 k4
      have k2 := (binderS_mild h3).1 k3
      have k1 := (takeAnyS_mild h2).1 k2
      obtain ⟨b1, b2, _⟩ := begin_deep h1 k1
      have e2 := (takeAnyS_mild h2).2
      have e3 := (binderS_mild h3).2
      have e4 := (takeS_mild h4).2
      have e5 := (hM.expr h5).2
      have e6 := (takeS_mild h6).2
      have D1 := ih.expr h5 k5 (by omega)
      have D2 := ih.expr h7 k7 (by omega)
      simp only [T.deep]
      omega
    · intro st st' t h hs hd
      rw [funS] at h
      obtain ⟨⟨b, s1⟩, h1, h⟩ := Option.bind_eq_some_iff.1 h
      obtain ⟨⟨bd, s3⟩, h3, h⟩ := Option.bind_eq_some_iff.1 h
      obtain ⟨⟨e, s4⟩, h4, h⟩ := Option.bind_eq_some_iff.1 h
      obtain ⟨⟨d, s5⟩, h5, h⟩ := Option.bind_eq_some_iff.1 h
      obtain ⟨s8, h8, h⟩ := Option.bind_eq_some_iff.1 h
      simp only [Option.some.injEq, Prod.mk.injEq] at h h3 h4 h5 h8
      obtain ⟨rfl, rfl⟩ := h
      have k5 : s5.stuck = false := by rw [← (endS_mild h8).1]; exact hs
      have k4 := (hM.expr h5).1 k5
      have k3 := (takeS_mild h4).1 k4
      have k1 := (binderS_mild h3).1 k3
      obtain ⟨b1, b2, _⟩ := begin_deep h1 k1
      have e3 := (binderS_mild h3).2
      have e4 := (takeS_mild h4).2
      have D1 := ih.expr h5 k5 (by omega)
      simp only [T.deep]
      omega
    · intro st st' t h hs hd
      rw [condS] at h
      obtain ⟨⟨b, s1⟩, h1, h⟩ := Option.bind_eq_some_iff.1 h
      obtain ⟨⟨c, s2⟩, h2, h⟩ := Option.bind_eq_some_iff.1 h
      obtain ⟨⟨e, s3⟩, h3, h⟩ := Option.bind_eq_some_iff.1 h
      obtain ⟨⟨d, s4⟩, h4, h⟩ := Option.bind_eq_some_iff.1 h
      obtain ⟨⟨i, s5⟩, h5, h⟩ := Option.bind_eq_some_iff.1 h
      obtain ⟨⟨x, s6⟩, h6, h⟩ := Option.bind_eq_some_iff.1 h
      obtain ⟨s8, h8, h⟩ := Option.bind_eq_some_iff.1 h
      simp only [Option.some.injEq, Prod.mk.injEq] at h h2 h3 h4 h5 h6 h8
      obtain ⟨rfl, rfl⟩ := h
      have k6 : s6.stuck = false := by rw [← (endS_mild h8).1]; exact hs
      have k5 := (hM.expr h6).1 k6
      have k4 := (takeS_mild h5).1 k5
      have k3 := (hM.expr h4).1 k4
      have k2 := (takeS_mild h3).1 k3
      have k1 := (hM.expr h2).1 k2
      obtain ⟨b1, b2, _⟩ := begin_deep h1 k1
      have e2 := (hM.expr h2).2
      have e3 := (takeS_mild h3).2
      have e4 := (hM.expr h4).2
      have e5 := (takeS_mild h5).2
      have D1 := ih.expr h2 k2 (by omega)
      have D2 := ih.expr h4 k4 (by omega)
      have D3 := ih.expr h6 k6 (by omega)
      simp only [T.deep]
      omega
    · intro st st' t h hs hd
      rw [cmpS] at h
      obtain ⟨⟨a, s1⟩, h1, h⟩ := Option.bind_eq_some_iff.1 h
      obtain ⟨⟨k, s2⟩, h2, h⟩ := Option.bind_eq_some_iff.1 h
      simp only at h2 h
      split at h
      · cases h
        exact ih.sum h1 ((takeAnyS_mild h2).1 hs) hd
      · obtain ⟨⟨b, s3⟩, h3, h⟩ := Option.bind_eq_some_iff.1 h
        cases h
        have k2 := (hM.sum h3).1 hs
        have k1 := (takeAnyS_mild h2).1 k2
        have e1 := (hM.sum h1).2
        have e2 := (takeAnyS_mild h2).2
        have D1 := ih.sum h1 k1 hd
        have D2 := ih.sum h3 hs (by omega)
        simp only [T.deep]
        omega
    · intro st st' t h hs hd
      rw [sumS] at h
      exact ih.chain h hs hd
    · intro st st' t h hs hd
      rw [termS] at h
      exact ih.chain h hs hd
    · intro p st st' t h hs hd
      cases p with
      | term => rw [partS] at h; exact ih.term h hs hd
      | call => rw [partS] at h; exact ih.call h hs hd
    · intro p g st st' t h hs hd
      rw [chainS] at h
      obtain ⟨⟨a, s1⟩, h1, h⟩ := Option.bind_eq_some_iff.1 h
      have k1 := (hM.chainFrom h).1 hs
      have e1 := (hM.part h1).2
      have D1 := ih.part h1 k1 hd
      have D2 := ih.chainFrom h hs (by simp only; omega) (by simp only; omega)
      simp only at D2
      omega
    · intro p g a st st' t h hs hd ha
      rw [chainFromS] at h
      obtain ⟨⟨k, s1⟩, h1, h⟩ := Option.bind_eq_some_iff.1 h
      simp only at h
      split at h
      · cases h; exact ha
      · obtain ⟨⟨b, s2⟩, h2, h⟩ := Option.bind_eq_some_iff.1 h
        have k2 := (hM.chainFrom h).1 hs
        have e1 := (takeAnyS_mild h1).2
        have e2 := (hM.part h2).2
        have D1 := ih.part h2 k2 (by omega)
        have D2 := ih.chainFrom h hs (by simp only; omega) (by simp only [T.deep]; omega)
        simp only at D2
        omega
    · intro st st' t h hs hd
      rw [callS] at h
      obtain ⟨⟨a, s1⟩, h1, h⟩ := Option.bind_eq_some_iff.1 h
      have k1 := (hM.callFrom h).1 hs
      have e1 := (hM.atom h1).2
      have D1 := ih.atom h1 k1 hd
      have D2 := ih.callFrom h hs (by simp only; omega) (by simp only; omega)
      simp only at D2
      omega
    · intro a st st' t h hs hd ha
      rw [callFromS] at h
      obtain ⟨k, _, h⟩ := Option.bind_eq_some_iff.1 h
      split at h
      · obtain ⟨⟨b, s2⟩, h2, h⟩ := Option.bind_eq_some_iff.1 h
        have k2 := (hM.callFrom h).1 hs
        have e2 := (hM.atom h2).2
        have D1 := ih.atom h2 k2 hd
        have D2 := ih.callFrom h hs (by simp only; omega) (by simp only [T.deep]; omega)
        simp only at D2
        omega
      · cases h; exact ha
    · intro st st' t h hs hd
      rw [atomS] at h
      obtain ⟨k, _, h⟩ := Option.bind_eq_some_iff.1 h
      split at h
      · exact ih.bracket h hs hd
      · split at h
        · obtain ⟨⟨r, s1⟩, h1, h⟩ := Option.bind_eq_some_iff.1 h
          obtain ⟨x, h2, h⟩ := Option.bind_eq_some_iff.1 h
          cases h
          rw [leaf_deep h2]
          exact hd
        · obtain ⟨s1, h1, h⟩ := Option.bind_eq_some_iff.1 h
          cases h
          exact hd
    · intro st st' t h hs hd
      rw [bracketS] at h
      obtain ⟨⟨b, s1⟩, h1, h⟩ := Option.bind_eq_some_iff.1 h
      obtain ⟨⟨x, s2⟩, h2, h⟩ := Option.bind_eq_some_iff.1 h
      obtain ⟨⟨c, s3⟩, h3, h⟩ := Option.bind_eq_some_iff.1 h
      simp only at h h2 h3
      have e2 := (hM.expr h2).2
      have e3 := (takeAnyS_mild h3).2
      split at h
      · obtain ⟨⟨y, s4⟩, h4, h⟩ := Option.bind_eq_some_iff.1 h
        obtain ⟨⟨r, s5⟩, h5, h⟩ := Option.bind_eq_some_iff.1 h
        obtain ⟨s8, h8, h⟩ := Option.bind_eq_some_iff.1 h
        simp only [Option.some.injEq, Prod.mk.injEq] at h h4 h5 h8
        obtain ⟨rfl, rfl⟩ := h
        have k5 : s5.stuck = false := by rw [← (endS_mild h8).1]; exact hs
        have k4 := (takeS_mild h5).1 k5
        have k3 := (hM.expr h4).1 k4
        have k2 := (takeAnyS_mild h3).1 k3
        have k1 := (hM.expr h2).1 k2
        obtain ⟨b1, b2, _⟩ := begin_deep h1 k1
        have D1 := ih.expr h2 k2 (by omega)
        have D2 := ih.expr h4 k4 (by omega)
        simp only [T.deep]
        omega
      · obtain ⟨⟨r, s5⟩, h5, h⟩ := Option.bind_eq_some_iff.1 h
        obtain ⟨s8, h8, h⟩ := Option.bind_eq_some_iff.1 h
        simp only [Option.some.injEq, Prod.mk.injEq] at h h5 h8
        obtain ⟨rfl, rfl⟩ := h
        have k5 : s5.stuck = false := by rw [← (endS_mild h8).1]; exact hs
        have k3 := (takeS_mild h5).1 k5
        have k2 := (takeAnyS_mild h3).1 k3
        have k1 := (hM.expr h2).1 k2
        obtain ⟨b1, b2, _⟩ := begin_deep h1 k1
        have D1 := ih.expr h2 k2 (by omega)
        simp only [T.deep]
        omega

/-- **A tree that was read is at most 40 deep.** -/
theorem parse_deep {l : List UInt8} {ts : List Tok} {n : Nat} {t : T} (h : parseS l ts n = some (.ok t)) : t.deep ≤ 40 := by
  unfold parseS at h
  obtain ⟨⟨x, s1⟩, hx, h⟩ := Option.bind_eq_some_iff.1 h
  obtain ⟨⟨k, s2⟩, hk, h⟩ := Option.bind_eq_some_iff.1 h
  simp only [Option.some.injEq] at h hk
  have hs2 : s2.stuck = false := by
    cases hq : s2.stuck
    · rfl
    · rw [hq] at h; simp at h
  rw [hs2] at h
  simp only [Bool.false_eq_true, if_false, Except.ok.injEq] at h
  subst h
  have := (deep_all l ts n).expr hx ((takeS_mild hk).1 hs2) (by simp)
  simpa using this

end Go.Proofs.YtckhafpejefbbaaGreatDoor.Tw

/- Open's twin answers; what cannot stand behind a text is told at its place. -/
namespace Go.Proofs.YtckhafpejefbbaaGreatDoor.Tw
open Go

/-- Every name is bound: the tree has a weight. -/
theorem weight_tot : ∀ (t : T) (env : List (List UInt8)) (we : WEn), t.freeS env = none → (∀ x, env.contains x = true → ∃ k, we.look x = some k) → ∃ w, weightS t we = some w
  | .name fr to x, env, we, h, hE => by
    simp only [T.freeS] at h
    split at h
    · rename_i hx
      obtain ⟨k, hk⟩ := hE x hx
      exact ⟨_, by simp only [weightS]; rw [hk]; rfl⟩
    · cases h
  | .int .., _, _, _, _ => ⟨_, rfl⟩
  | .truth .., _, _, _, _ => ⟨_, rfl⟩
  | .side .., _, _, _, _ => ⟨_, rfl⟩
  | .bracket _ _ i, env, we, h, hE => by
    obtain ⟨w, hw⟩ := weight_tot i env we h hE
    exact ⟨_, by simp only [weightS]; rw [hw]; rfl⟩
  | .pair _ _ l r, env, we, h, hE => by
    simp only [T.freeS, Option.or_eq_none_iff] at h
    obtain ⟨w1, h1⟩ := weight_tot l env we h.1 hE
    obtain ⟨w2, h2⟩ := weight_tot r env we h.2 hE
    exact ⟨_, by simp only [weightS]; rw [h1, h2]; rfl⟩
  | .call _ _ l r, env, we, h, hE => by
    simp only [T.freeS, Option.or_eq_none_iff] at h
    obtain ⟨w1, h1⟩ := weight_tot l env we h.1 hE
    obtain ⟨w2, h2⟩ := weight_tot r env we h.2 hE
    exact ⟨_, by simp only [weightS]; rw [h1, h2]; rfl⟩
  | .binary _ _ _ l r, env, we, h, hE => by
    simp only [T.freeS, Option.or_eq_none_iff] at h
    obtain ⟨w1, h1⟩ := weight_tot l env we h.1 hE
    obtain ⟨w2, h2⟩ := weight_tot r env we h.2 hE
    exact ⟨_, by simp only [weightS]; rw [h1, h2]; rfl⟩
  | .cond _ _ c t f, env, we, h, hE => by
    simp only [T.freeS, Option.or_eq_none_iff] at h
    obtain ⟨w1, h1⟩ := weight_tot c env we h.1.1 hE
    obtain ⟨w2, h2⟩ := weight_tot t env we h.1.2 hE
    obtain ⟨w3, h3⟩ := weight_tot f env we h.2 hE
    exact ⟨_, by simp only [weightS]; rw [h1, h2, h3]; rfl⟩
  | .fn _ _ bn _ b, env, we, h, hE => by
    have hE' : ∀ x, (bn :: env).contains x = true → ∃ k, (WEn.cons bn 1 we).look x = some k := fun x hx => by
      simp only [WEn.look]
      by_cases hb : bn = x
      · exact ⟨1, by rw [if_pos hb]⟩
      · rw [if_neg hb]
        simp only [List.contains_cons, Bool.or_eq_true, beq_iff_eq] at hx
        exact hx.elim (fun h => absurd h.symm hb) (hE x)
    obtain ⟨w, hw⟩ := weight_tot b (bn :: env) _ h hE'
    exact ⟨_, by simp only [weightS]; rw [hw]; rfl⟩
  | .lett _ _ rc bn _ d b, env, we, h, hE => by
    have hE' : ∀ k x, (bn :: env).contains x = true → ∃ k', (WEn.cons bn k we).look x = some k' := fun k x hx => by
      simp only [WEn.look]
      by_cases hb : bn = x
      · exact ⟨k, by rw [if_pos hb]⟩
      · rw [if_neg hb]
        simp only [List.contains_cons, Bool.or_eq_true, beq_iff_eq] at hx
        exact hx.elim (fun h => absurd h.symm hb) (hE x)
    simp only [T.freeS, Option.or_eq_none_iff] at h
    obtain ⟨w1, h1⟩ : ∃ w, weightS d (if rc then .cons bn 1 we else we) = some w := by
      cases rc with
      | true => exact weight_tot d (bn :: env) _ h.1 (hE' 1)
      | false => exact weight_tot d env _ h.1 hE
    obtain ⟨w2, h2⟩ := weight_tot b (bn :: env) (.cons bn w1 we) h.2 (hE' w1)
    exact ⟨_, by simp only [weightS]; rw [h1]; simp only [Option.bind_some]; rw [h2]; rfl⟩

theorem tree_tot (t : T) : ∃ n0 res, ∀ n, n0 ≤ n → treeS n t = some res := by
  cases hf : t.freeS [] with
  | some p => exact ⟨0, .fault 4 p, fun n _ => by rw [treeS, hf]⟩
  | none =>
    obtain ⟨w, hw⟩ := weight_tot t [] .nil hf (by simp)
    by_cases hl : 2000 < w
    · exact ⟨0, .fault 10 0, fun n _ => by rw [treeS, hf]; simp only; rw [hw]; simp only [Option.bind_some]; rw [if_pos hl]⟩
    · obtain ⟨n0, r, g, _⟩ := of_spec hw (by omega)
      cases r with
      | none => exact ⟨n0, .fault 5 0, fun n hn => by rw [treeS, hf]; simp only; rw [hw]; simp only [Option.bind_some]; rw [if_neg hl, g n hn]; rfl⟩
      | some sh => exact ⟨n0, .fine t sh, fun n hn => by rw [treeS, hf]; simp only; rw [hw]; simp only [Option.bind_some]; rw [if_neg hl, g n hn]; rfl⟩

/-- **Open answers, of whatever text.** -/
theorem open_tot (l : List UInt8) : ∃ fo res, ∀ n, fo ≤ n → openS 6100 n l = some res := by
  by_cases hl : 300 < l.length
  · exact ⟨0, .fault 1 0, fun n _ => by rw [openS, if_pos hl]⟩
  · cases hs : split l with
    | error p => exact ⟨0, .fault 2 p, fun n _ => by rw [openS, if_neg hl, readS, hs]⟩
    | ok ts =>
      obtain ⟨r, hr⟩ := parse_tot (split_good hs (by omega)) 6100 (by omega)
      cases r with
      | error p => exact ⟨0, .fault 3 p, fun n _ => by rw [openS, if_neg hl, readS, hs]; simp only; rw [hr]; rfl⟩
      | ok t =>
        obtain ⟨n0, res, g⟩ := tree_tot t
        exact ⟨n0, res, fun n hn => by rw [openS, if_neg hl, readS, hs]; simp only; rw [hr]; exact g n hn⟩

/-- Nothing is moved. -/
def mv0 : Mv := ⟨fun p => p, fun q => q, fun _ v => v, fun _ x => x⟩

theorem re0_tok (t : Tok) : t.re mv0 = t := rfl
theorem re0_map (l : List Tok) : l.map (Tok.re mv0) = l := by
  rw [show (Tok.re mv0) = id from funext re0_tok]
  simp

theorem piece_append {l r : List UInt8} {a b : Nat} (h : b ≤ l.length) : piece (l ++ r) a b = piece l a b := by
  unfold piece
  rcases Nat.lt_or_ge a l.length with h1 | h1
  · rw [List.drop_append_of_le_length (by omega), List.take_append_of_le_length (by simp; omega)]
  · have : b - a = 0 := by omega
    rw [this]
    simp

/-- A token that no expr goes on with, behind a text: the parser is stuck there. -/
theorem parse_stop {l r : List UInt8} {body : List Tok} {e1 e2 : Tok} {post : List Tok} (h : ∀ t ∈ body, t.sort ≠ 0 ∧ t.fr ≤ t.to ∧ t.to ≤ l.length) (h1 : e1.sort = 0) (h2 : stopSort e2.sort = true) (h0 : e2.sort ≠ 0) (hf : body.length ≤ 300) {fuel : Nat} {t : T} (hp : parseS l (body ++ [e1]) fuel = some (.ok t)) :
    parseS (l ++ r) (body ++ e2 :: post) fuel = some (.error e2.fr) := by
  have hd := parse_deep hp
  have E : Emb l (l ++ r) (body ++ [e1]) (body ++ e2 :: post) 0 mv0 body.length := by
    have := Emb.of_map (l1 := l) (l2 := l ++ r) (m := mv0) (body := body) (fun t ht => ⟨(h t ht).1, ⟨(h t ht).2.1, by simp only [mv0, List.length_append]; have := (h t ht).2.2; omega⟩, fun _ v hv => by rw [show mv0.fr t.fr = t.fr from rfl, show mv0.to t.to = t.to from rfl, piece_append (h t ht).2.2]; exact hv, fun _ => piece_append (h t ht).2.2⟩) h1 (e2 := e2) h2 [] post (by simpa using hf)
    simpa [re0_map] using this
  unfold parseS at hp
  obtain ⟨⟨x, s1⟩, hx, hp⟩ := Option.bind_eq_some_iff.1 hp
  obtain ⟨⟨k, s2⟩, hk, hp⟩ := Option.bind_eq_some_iff.1 hp
  simp only [Option.some.injEq] at hp hk
  have hs2 : s2.stuck = false := by
    cases hq : s2.stuck
    · rfl
    · rw [hq] at hp; simp at hp
  rw [hs2] at hp
  simp only [Bool.false_eq_true, if_false, Except.ok.injEq] at hp
  subst hp
  have hs1 := (takeS_mild hk).1 hs2
  have S0 : Sim 0 0 body.length ⟨0, 0, false, 0⟩ ⟨0, 0, false, 0⟩ := ⟨rfl, rfl, rfl, rfl, Nat.zero_le _⟩
  obtain ⟨s3, e3, S3⟩ := (sim_all E fuel).expr S0 hx hs1 (by simpa using hd)
  have hN : s1.next = body.length := by
    rcases S3.toks E with ⟨_, tt, q1, _, q3, _⟩ | ⟨hN, _⟩
    · exfalso
      unfold takeS at hk
      rw [q1, Option.bind_some] at hk
      rw [if_neg q3] at hk
      obtain ⟨s9, q9, hk⟩ := Option.bind_eq_some_iff.1 hk
      cases hk
      rw [(failS_stuck q9).1] at hs2
      cases hs2
    · exact hN
  have ht : tokS (body ++ e2 :: post) s3 = some e2 := by
    unfold tokS
    rw [S3.k2, S3.nx, hN]
    simp
  unfold parseS
  rw [e3, Option.bind_some]
  have hk3 : takeS (body ++ e2 :: post) 0 s3 = some (e2, { s3 with stuck := true, fault := e2.fr }) := by
    unfold takeS
    rw [ht, Option.bind_some, if_neg h0]
    unfold failS
    rw [S3.k2, ht]
    rfl
  rw [hk3, Option.bind_some]
  rfl

/-- A text that Open takes: its tokens, its tree. -/
theorem fine_parts {fp fo : Nat} {l : List UInt8} {t : T} {sh : List UInt8} (h : openS fp fo l = some (.fine t sh)) : l.length ≤ 300 ∧ ∃ body, Lex 0 l body ∧ split l = .ok (body ++ [⟨0, l.length, l.length⟩]) ∧ parseS l (body ++ [⟨0, l.length, l.length⟩]) fp = some (.ok t) ∧ treeS fo t = some (.fine t sh) := by
  unfold openS at h
  split at h
  · cases h
  · rename_i hl
    refine ⟨by omega, ?_⟩
    unfold readS at h
    cases hs : split l with
    | error p => rw [hs] at h; cases h
    | ok ts =>
      rw [hs] at h
      simp only [Option.bind_eq_some_iff] at h
      obtain ⟨r, hr, h⟩ := h
      cases r with
      | error p => cases h
      | ok t' =>
        obtain ⟨body, hL, rfl⟩ := split_ok_iff.1 hs
        have e : t' = t := by
          simp only at h
          unfold treeS at h
          split at h
          · cases h
          · simp only [Option.bind_eq_some_iff] at h
            obtain ⟨k, _, h⟩ := h
            split at h
            · cases h
            · simp only [Option.bind_eq_some_iff] at h
              obtain ⟨o, _, h⟩ := h
              cases o with
              | none => cases h
              | some s => cases h; rfl
        subst e
        exact ⟨body, hL, rfl, hr, h⟩

/-- What cannot stand behind a text: a token. -/
theorem placed_form {fp fo : Nat} {l : List UInt8} {t : T} {sh : List UInt8} (h : openS fp fo l = some (.fine t sh)) {tail : List UInt8} {e : Tok} {post : List Tok} (ht : split tail = .ok (e :: post ++ [⟨0, tail.length, tail.length⟩])) (hsep : sepH tail) (hstop : stopSort e.sort = true) (h0 : e.sort ≠ 0) (hfr : e.fr = 1) (hl : l.length + tail.length ≤ 300) (fo' : Nat) :
    openS fp fo' (l ++ tail) = some (.fault 3 (l.length + 1)) := by
  obtain ⟨hl3, body, hL, hs, hp, _⟩ := fine_parts h
  obtain ⟨b2, hL2, hb2⟩ := split_ok_iff.1 ht
  have hb : b2 = e :: post := by
    have := List.append_inj_left hb2 (by simpa using congrArg List.length hb2)
    exact this.symm
  subst hb
  have hLL := hL.append hsep (by simpa using hL2.shift l.length)
  have hgood := hL.toks
  have hspl : split (l ++ tail) = .ok ((body ++ (e.shift l.length :: post.map (Tok.shift l.length))) ++ [⟨0, (l ++ tail).length, (l ++ tail).length⟩]) := split_ok_iff.2 ⟨_, by simpa using hLL, rfl⟩
  have hps := parse_stop (r := tail) (e2 := e.shift l.length) (post := post.map (Tok.shift l.length) ++ [⟨0, (l ++ tail).length, (l ++ tail).length⟩]) (fun t ht' => by
    have := hgood.1 t ht'
    exact ⟨this.sort, Nat.le_of_lt this.lt, by have := this.high; omega⟩) rfl (by simpa [Tok.shift] using hstop) (by simpa [Tok.shift] using h0) (by have := hgood.2; omega) hp
  unfold openS
  rw [if_neg (by simp; omega)]
  unfold readS
  rw [hspl]
  simp only
  rw [List.append_assoc, List.cons_append, hps]
  simp [Tok.shift, hfr, Nat.add_comm]

/-- What cannot stand behind a text: no token. -/
theorem placed_token {fp fo : Nat} {l : List UInt8} {t : T} {sh : List UInt8} (h : openS fp fo l = some (.fine t sh)) {tail : List UInt8} (ht : split tail = .error 1) (hsep : sepH tail) (hl : l.length + tail.length ≤ 300) (fp' fo' : Nat) :
    openS fp' fo' (l ++ tail) = some (.fault 2 (l.length + 1)) := by
  obtain ⟨hl3, body, hL, hs, hp, _⟩ := fine_parts h
  have hE := split_error_iff.1 ht
  have hLL := hL.append_err hsep (by simpa using hE.shift l.length)
  unfold openS
  rw [if_neg (by simp; omega)]
  unfold readS
  rw [split_error_iff.2 (by simpa using hLL)]
  simp [Nat.add_comm]

/-- The tails of Placed. -/
def plcTail : Nat → List UInt8
  | 0 => [32, 41]
  | 1 => [32, 105, 110]
  | 2 => [32, 45, 62]
  | 3 => [32, 44, 32, 49]
  | 4 => [32, 123]
  | 5 => [32, 59]
  | _ => [32, 46, 46]

theorem placed {fp fo : Nat} {l : List UInt8} {t : T} {sh : List UInt8} (h : openS fp fo l = some (.fine t sh)) (hl : l.length + 4 ≤ 300) (k : Nat) (hk : k < 7) (fo' : Nat) :
    openS fp fo' (l ++ plcTail k) = some (.fault (if k < 4 then 3 else 2) (l.length + 1)) := by
  match k, hk with
  | 0, _ => exact placed_form h (tail := [32, 41]) (e := ⟨17, 1, 2⟩) (post := []) (by kernel_rfl) ⟨by decide, by decide⟩ (by decide) (by decide) rfl (by simp; omega) fo'
  | 1, _ => exact placed_form h (tail := [32, 105, 110]) (e := ⟨5, 1, 3⟩) (post := []) (by kernel_rfl) ⟨by decide, by decide⟩ (by decide) (by decide) rfl (by simp; omega) fo'
  | 2, _ => exact placed_form h (tail := [32, 45, 62]) (e := ⟨14, 1, 3⟩) (post := []) (by kernel_rfl) ⟨by decide, by decide⟩ (by decide) (by decide) rfl (by simp; omega) fo'
  | 3, _ => exact placed_form h (tail := [32, 44, 32, 49]) (e := ⟨18, 1, 2⟩) (post := [⟨2, 3, 4⟩]) (by kernel_rfl) ⟨by decide, by decide⟩ (by decide) (by decide) rfl (by simp; omega) fo'
  | 4, _ => exact placed_token h (tail := [32, 123]) (by kernel_rfl) ⟨by decide, by decide⟩ (by simp; omega) fp fo'
  | 5, _ => exact placed_token h (tail := [32, 59]) (by kernel_rfl) ⟨by decide, by decide⟩ (by simp; omega) fp fo'
  | 6, _ => exact placed_token h (tail := [32, 46, 46]) (by kernel_rfl) ⟨by decide, by decide⟩ (by simp; omega) fp fo'

end Go.Proofs.YtckhafpejefbbaaGreatDoor.Tw

/- Every name is bound: by a plain function. -/
namespace Go.Proofs.YtckhafpejefbbaaGreatDoor
open Go.RowKit

theorem look_cons {e : Tw.BEn} {env : List (List UInt8)} (hE : ∀ x, env.contains x = true → ∃ a, e.look x = some a) (bn : List UInt8) (k : Addr) : ∀ x, (bn :: env).contains x = true → ∃ a, (Tw.BEn.cons bn k e).look x = some a := by
  intro x hx
  simp only [Tw.BEn.look]
  by_cases h : bn = x
  · exact ⟨k, by rw [if_pos h]⟩
  · rw [if_neg h]
    refine hE x ?_
    simp only [List.contains_cons, Bool.or_eq_true, beq_iff_eq] at hx
    rcases hx with hx | hx
    · exact absurd hx.symm h
    · exact hx

theorem NL.bound {w : World} {hi : Nat} : ∀ {t : Tw.T} {v : Value} {e : Tw.BEn} {L : List NB} {env : List (List UInt8)}, NL w hi t v e L → t.boundS env = true → (∀ x, env.contains x = true → ∃ a, e.look x = some a) → ∀ y ∈ L, ∃ a, y.k = some a
  | .name fr to x, _, _, _, _, ⟨b, _, rfl⟩, h, hE => by
    intro y hy
    simp only [List.mem_singleton] at hy
    subst hy
    exact hE x h
  | .int .., _, _, _, _, ⟨_, rfl⟩, _, _ => by simp
  | .truth .., _, _, _, _, ⟨_, rfl⟩, _, _ => by simp
  | .side .., _, _, _, _, ⟨_, rfl⟩, _, _ => by simp
  | .bracket _ _ i, _, _, _, _, ⟨v1, _, r1⟩, h, hE => NL.bound r1 (by simpa [Tw.T.boundS] using h) hE
  | .pair .., _, _, _, _, ⟨v1, v2, L1, L2, _, r1, r2, rfl⟩, h, hE => by
    simp only [Tw.T.boundS, Bool.and_eq_true] at h
    intro y hy
    rcases List.mem_append.1 hy with hy | hy
    · exact NL.bound r1 h.1 hE y hy
    · exact NL.bound r2 h.2 hE y hy
  | .call .., _, _, _, _, ⟨v1, v2, L1, L2, _, r1, r2, rfl⟩, h, hE => by
    simp only [Tw.T.boundS, Bool.and_eq_true] at h
    intro y hy
    rcases List.mem_append.1 hy with hy | hy
    · exact NL.bound r1 h.1 hE y hy
    · exact NL.bound r2 h.2 hE y hy
  | .binary .., _, _, _, _, ⟨v1, v2, L1, L2, _, r1, r2, rfl⟩, h, hE => by
    simp only [Tw.T.boundS, Bool.and_eq_true] at h
    intro y hy
    rcases List.mem_append.1 hy with hy | hy
    · exact NL.bound r1 h.1 hE y hy
    · exact NL.bound r2 h.2 hE y hy
  | .cond .., _, _, _, _, ⟨v1, v2, v3, L1, L2, L3, _, r1, r2, r3, rfl⟩, h, hE => by
    simp only [Tw.T.boundS, Bool.and_eq_true] at h
    intro y hy
    rcases List.mem_append.1 hy with hy | hy
    · rcases List.mem_append.1 hy with hy | hy
      · exact NL.bound r1 h.1 hE y hy
      · exact NL.bound r2 h.2.1 hE y hy
    · exact NL.bound r3 h.2.2 hE y hy
  | .fn .., _, _, _, _, ⟨k, v1, _, r1⟩, h, hE => NL.bound r1 (by simpa [Tw.T.boundS] using h) (look_cons hE _ _)
  | .lett fr to rc bn bat d b, _, _, _, _, ⟨k, v1, v2, L1, L2, _, r1, r2, rfl⟩, h, hE => by
    simp only [Tw.T.boundS, Bool.and_eq_true] at h
    intro y hy
    rcases List.mem_append.1 hy with hy | hy
    · cases rc
      · exact NL.bound r1 h.1 hE y hy
      · exact NL.bound r1 h.1 (look_cons hE _ _) y hy
    · exact NL.bound r2 h.2 (look_cons hE _ _) y hy

theorem allBound_of {t : Tw.T} (h : t.boundS [] = true) : AllBound t := fun _ _ _ _ hn => hn.bound h (by simp)

end Go.Proofs.YtckhafpejefbbaaGreatDoor

/- The text of Recursive: its tokens, its tree, its runs. -/
namespace Go.Proofs.YtckhafpejefbbaaGreatDoor.Tw
open Go Go.RowKit

def pA : List UInt8 := [108, 101, 116, 32, 114, 101, 99, 32, 102, 32, 61, 32, 102, 117, 110, 32, 110, 32, 45, 62, 32, 105, 102, 32, 110, 32, 60, 32, 49, 32, 116, 104, 101, 110]
def pB : List UInt8 := [32, 101, 108, 115, 101, 32, 110, 32, 43, 32, 102, 32, 40, 110, 32, 45, 32, 49, 41, 32, 105, 110, 32, 102]

theorem lA : pA.length = 34 := by decide +kernel
theorem lB : pB.length = 24 := by decide +kernel

/-- The text: k's digits, n's digits. -/
def textR (dk dn : List UInt8) : List UInt8 := pA ++ (32 :: (dk ++ (pB ++ (32 :: dn))))

def tsA : List Tok := [⟨3, 0, 3⟩, ⟨4, 4, 7⟩, ⟨1, 8, 9⟩, ⟨15, 10, 11⟩, ⟨6, 12, 15⟩, ⟨1, 16, 17⟩, ⟨14, 18, 20⟩, ⟨7, 21, 23⟩, ⟨1, 24, 25⟩, ⟨23, 26, 27⟩, ⟨2, 28, 29⟩, ⟨8, 30, 34⟩]
def tsB : List Tok := [⟨9, 1, 5⟩, ⟨1, 6, 7⟩, ⟨19, 8, 9⟩, ⟨1, 10, 11⟩, ⟨16, 12, 13⟩, ⟨1, 13, 14⟩, ⟨20, 15, 16⟩, ⟨2, 17, 18⟩, ⟨17, 18, 19⟩, ⟨5, 20, 22⟩, ⟨1, 23, 24⟩]

theorem split_pA : split pA = .ok (tsA ++ [⟨0, pA.length, pA.length⟩]) := by kernel_rfl
theorem split_pB : split pB = .ok (tsB ++ [⟨0, pB.length, pB.length⟩]) := by kernel_rfl

theorem lex_of_split {l : List UInt8} {ts : List Tok} (h : split l = .ok (ts ++ [⟨0, l.length, l.length⟩])) : Lex 0 l ts := by
  obtain ⟨body, hL, he⟩ := split_ok_iff.1 h
  rw [List.append_cancel_right he]
  exact hL

theorem Lex.blank {off : Nat} {m : List UInt8} {ts : List Tok} (h : Lex (off + 1) m ts) : Lex off (32 :: m) ts := by
  have hg : gapL (32 :: m) = 1 := by
    unfold gapL
    rw [if_pos (.inl rfl)]
  exact .gap (by simp) (by omega) (by rw [hg]; exact h)

/-- The tokens of the text. -/
def bodyR (lk ln : Nat) : List Tok := tsA ++ (⟨2, 35, 35 + lk⟩ :: (tsB.map (Tok.shift (35 + lk)) ++ [⟨2, 60 + lk, 60 + lk + ln⟩]))

theorem lexR {dk dn : List UInt8} (k0 : dk ≠ []) (kd : ∀ c ∈ dk, digitI c.toNat = true) (kl : dk.length ≤ 9) (n0 : dn ≠ []) (nd : ∀ c ∈ dn, digitI c.toNat = true) (nl : dn.length ≤ 9) : Lex 0 (textR dk dn) (bodyR dk.length dn.length) := by
  have hA := lex_of_split split_pA
  have hB := (lex_of_split split_pB).shift (35 + dk.length)
  have sB : sepH (pB ++ (32 :: dn)) := by
    have : pB ++ (32 :: dn) = 32 :: (pB.tail ++ (32 :: dn)) := by
      have : pB = 32 :: pB.tail := by decide +kernel
      exact congrArg (· ++ (32 :: dn)) this
    rw [this]
    exact ⟨by decide, by decide⟩
  have s32 : ∀ m : List UInt8, sepH (32 :: m) := fun m => ⟨by decide, by decide⟩
  unfold textR bodyR
  refine hA.append (s32 _) (Lex.blank ?_)
  rw [lA]
  have hk := Lex.number 35 k0 kd kl
  have hn := Lex.number (60 + dk.length) n0 nd nl
  refine Lex.append (ts := [_]) sB hk ?_
  refine Lex.append (s32 _) (by simpa using hB) (Lex.blank ?_)
  rw [lB, show 35 + dk.length + 24 + 1 = 60 + dk.length from by omega]
  exact hn

theorem splitR {dk dn : List UInt8} (k0 : dk ≠ []) (kd : ∀ c ∈ dk, digitI c.toNat = true) (kl : dk.length ≤ 9) (n0 : dn ≠ []) (nd : ∀ c ∈ dn, digitI c.toNat = true) (nl : dn.length ≤ 9) :
    split (textR dk dn) = .ok (bodyR dk.length dn.length ++ [⟨0, (textR dk dn).length, (textR dk dn).length⟩]) := split_ok_iff.2 ⟨_, lexR k0 kd kl n0 nd nl, rfl⟩

/-- The tree of the text with 0 and 0. -/
def tR0 : T := .lett 0 62 true [102] 8
  (.fn 12 55 [110] 16 (.cond 21 55 (.binary 24 29 23 (.name 24 25 [110]) (.int 28 29 1)) (.int 35 36 0) (.binary 42 55 19 (.name 42 43 [110]) (.call 46 55 (.name 46 47 [102]) (.bracket 48 55 (.binary 49 54 20 (.name 49 50 [110]) (.int 53 54 1)))))))
  (.call 59 62 (.name 59 60 [102]) (.int 61 62 0))

theorem parseR0 : parseS (textR [48] [48]) (bodyR 1 1 ++ [⟨0, 62, 62⟩]) 200 = some (.ok tR0) := by kernel_rfl

/-- Where its places and numbers lie in the text with k and n. -/
def mR (lk ln : Nat) (K N : Int) : Mv := ⟨fun p => if p ≤ 35 then p else p + (lk - 1), fun q => if q ≤ 35 then q else if q ≤ 61 then q + (lk - 1) else q + (lk - 1) + (ln - 1), fun f v => if f = 35 then K else if f = 61 then N else v, fun _ x => x⟩

theorem textR_len (dk dn : List UInt8) : (textR dk dn).length = 60 + dk.length + dn.length := by
  unfold textR
  simp only [List.length_append, List.length_cons, lA, lB]
  omega

theorem piece_A (dk dn : List UInt8) {a b : Nat} (h : b ≤ 34) : piece (textR dk dn) a b = piece pA a b := by
  have := piece_mid [] pA (32 :: (dk ++ (pB ++ (32 :: dn)))) (a := a) (b := b) (by rw [lA]; exact h)
  simpa [textR] using this

theorem piece_B (dk dn : List UInt8) {a b : Nat} (h : b ≤ 24) : piece (textR dk dn) (35 + dk.length + a) (35 + dk.length + b) = piece pB a b := by
  have := piece_mid (pA ++ (32 :: dk)) pB (32 :: dn) (a := a) (b := b) (by rw [lB]; exact h)
  have e : (pA ++ (32 :: dk)).length = 35 + dk.length := by simp [lA]; omega
  rw [e] at this
  simpa [textR, List.append_assoc] using this

theorem piece_all (y : List UInt8) : piece y 0 y.length = y := by simp [piece]

theorem piece_k (dk dn : List UInt8) : piece (textR dk dn) 35 (35 + dk.length) = dk := by
  have := piece_mid (pA ++ [32]) dk (pB ++ (32 :: dn)) (a := 0) (b := dk.length) (Nat.le_refl _)
  have e : (pA ++ [32]).length = 35 := by simp [lA]
  rw [e, piece_all] at this
  simpa [textR, List.append_assoc] using this

theorem piece_n (dk dn : List UInt8) : piece (textR dk dn) (60 + dk.length) (60 + dk.length + dn.length) = dn := by
  have := piece_mid (pA ++ (32 :: (dk ++ (pB ++ [32])))) dn [] (a := 0) (b := dn.length) (Nat.le_refl _)
  have e : (pA ++ (32 :: (dk ++ (pB ++ [32])))).length = 60 + dk.length := by simp [lA, lB]; omega
  rw [e, piece_all] at this
  simpa [textR, List.append_assoc] using this

theorem tokR {dk dn : List UInt8} (k1 : 1 ≤ dk.length) (n1 : 1 ≤ dn.length) {K N : Int} (hK : valueS dk = some K) (hN : valueS dn = some N) : ∀ t ∈ bodyR 1 1, t.sort ≠ 0 ∧ TokIn (textR [48] [48]) (textR dk dn) (mR dk.length dn.length K N) t := by
  have hlen := textR_len dk dn
  have qA : ∀ t ∈ tsA, t.sort ≠ 0 ∧ t.to ≤ 34 ∧ t.fr ≤ t.to := by decide
  have qB : ∀ t ∈ tsB, t.sort ≠ 0 ∧ t.to ≤ 24 ∧ t.fr ≤ t.to ∧ 1 ≤ t.fr ∧ t.fr ≤ 24 := by decide
  intro t ht
  unfold bodyR at ht
  simp only [List.mem_append, List.mem_cons, List.mem_map, List.not_mem_nil, or_false] at ht
  rcases ht with ht | rfl | ⟨t0, ht, rfl⟩ | rfl
  · obtain ⟨h1, h2, h3⟩ := qA t ht
    have e1 : (mR dk.length dn.length K N).fr t.fr = t.fr := by simp [mR]; omega
    have e2 : (mR dk.length dn.length K N).to t.to = t.to := by simp [mR]; omega
    have e3 : ∀ v, (mR dk.length dn.length K N).val t.fr v = v := fun v => by simp only [mR]; rw [if_neg (by omega), if_neg (by omega)]
    refine ⟨h1, ⟨by rw [e1, e2]; omega, by rw [e2, hlen]; omega⟩, fun _ v hv => ?_, fun _ => ?_⟩
    · rw [e1, e2, e3, piece_A dk dn h2]
      rw [piece_A _ _ h2] at hv
      exact hv
    · rw [e1, e2, piece_A dk dn h2, piece_A _ _ h2]
      rfl
  · have e1 : (mR dk.length dn.length K N).fr 35 = 35 := by simp [mR]
    have e2 : (mR dk.length dn.length K N).to (35 + 1) = 35 + dk.length := by simp [mR]; omega
    refine ⟨by decide, ⟨by rw [e1, e2]; omega, by rw [e2, hlen]; omega⟩, fun _ v _ => ?_, fun h => absurd rfl h⟩
    rw [e1, e2, piece_k, hK]
    rfl
  · obtain ⟨h1, h2, h3, h4, h5⟩ := qB t0 ht
    have e0 : (Tok.shift (35 + 1) t0).fr = t0.fr + 36 := rfl
    have e0' : (Tok.shift (35 + 1) t0).to = t0.to + 36 := rfl
    have e1 : (mR dk.length dn.length K N).fr (t0.fr + 36) = 35 + dk.length + t0.fr := by simp only [mR]; rw [if_neg (by omega)]; omega
    have e2 : (mR dk.length dn.length K N).to (t0.to + 36) = 35 + dk.length + t0.to := by simp only [mR]; rw [if_neg (by omega), if_pos (by omega)]; omega
    have e3 : ∀ v, (mR dk.length dn.length K N).val (t0.fr + 36) v = v := fun v => by simp only [mR]; rw [if_neg (by omega), if_neg (by omega)]
    have e4 : piece (textR [48] [48]) (t0.fr + 36) (t0.to + 36) = piece pB t0.fr t0.to := by
      have := piece_B [48] [48] (a := t0.fr) (b := t0.to) h2
      rw [show 35 + ([48] : List UInt8).length + t0.fr = t0.fr + 36 from by simp; omega, show 35 + ([48] : List UInt8).length + t0.to = t0.to + 36 from by simp; omega] at this
      exact this
    refine ⟨h1, ⟨by rw [e0, e0', e1, e2]; omega, by rw [e0', e2, hlen]; omega⟩, fun _ v hv => ?_, fun _ => ?_⟩
    · rw [e0, e0'] at hv ⊢
      rw [e1, e2, e3, piece_B dk dn h2]
      rw [e4] at hv
      exact hv
    · rw [e0, e0', e1, e2, piece_B dk dn h2, e4]
      rfl
  · have e1 : (mR dk.length dn.length K N).fr (60 + 1) = 60 + dk.length := by simp [mR]; omega
    have e2 : (mR dk.length dn.length K N).to (60 + 1 + 1) = 60 + dk.length + dn.length := by simp [mR]; omega
    refine ⟨by decide, ⟨by rw [e1, e2]; omega, by rw [e2, hlen]; omega⟩, fun _ v _ => ?_, fun h => absurd rfl h⟩
    rw [e1, e2, piece_n, hN]
    rfl

theorem bodyR_re {lk ln : Nat} (k1 : 1 ≤ lk) (n1 : 1 ≤ ln) (K N : Int) : (bodyR 1 1).map (Tok.re (mR lk ln K N)) = bodyR lk ln := by
  simp [bodyR, tsA, tsB, Tok.shift, Tok.re, mR]
  omega

/-- The tree of the text with k and n. -/
def tR (lk ln : Nat) (K N : Int) : T := tR0.re (mR lk ln K N)

theorem parseR {dk dn : List UInt8} (k1 : 1 ≤ dk.length) (n1 : 1 ≤ dn.length) {K N : Int} (hK : valueS dk = some K) (hN : valueS dn = some N) (e : Tok) (he : e.sort = 0) : parseS (textR dk dn) (bodyR dk.length dn.length ++ [e]) 200 = some (.ok (tR dk.length dn.length K N)) := by
  have := parse_re (tokR k1 n1 hK hN) (e1 := ⟨0, 62, 62⟩) rfl he (by decide) parseR0 (by decide)
  rw [bodyR_re k1 n1] at this
  exact this

theorem weightR (lk ln : Nat) (K N : Int) : weightS (tR lk ln K N) .nil = weightS tR0 .nil := weightS_re _ (fun _ _ => rfl) _ _
theorem weightR0 : weightS tR0 .nil = some 31 := by kernel_rfl
theorem boundR (lk ln : Nat) (K N : Int) : (tR lk ln K N).boundS [] = true := by rw [tR, boundS_re _ (fun _ _ => rfl)]; kernel_rfl

end Go.Proofs.YtckhafpejefbbaaGreatDoor.Tw

/- The runs of Recursive's text. -/
namespace Go.Proofs.YtckhafpejefbbaaGreatDoor.Tw
open Go Go.RowKit

theorem wrap64_small {n : Int} (h0 : -1000000 ≤ n) (h1 : n ≤ 1000000) : wrap64 n = n := by
  unfold wrap64
  omega

/-- The body of f, wherever its parts stand. -/
def bodyT (a : Nat → Nat) (K : Int) : T :=
  .cond (a 0) (a 1) (.binary (a 2) (a 3) 23 (.name (a 4) (a 5) [110]) (.int (a 6) (a 7) 1)) (.int (a 8) (a 9) K) (.binary (a 10) (a 11) 19 (.name (a 12) (a 13) [110]) (.call (a 14) (a 15) (.name (a 16) (a 17) [102]) (.bracket (a 18) (a 19) (.binary (a 20) (a 21) 20 (.name (a 22) (a 23) [110]) (.int (a 24) (a 25) 1)))))

def cloF (a : Nat → Nat) (K : Int) (x y z : Nat) : Val := .clo x y [110] z (bodyT a K) [([102], 0)]

def tri (K : Int) : Nat → Int
  | 0 => K
  | j + 1 => (j + 1 : Nat) + tri K j

theorem tri_le {K : Int} (h0 : 0 ≤ K) (h1 : K ≤ 100) : ∀ j : Nat, j ≤ 300 → 0 ≤ tri K j ∧ tri K j ≤ 100 + j * 300
  | 0, _ => ⟨h0, by simpa [tri] using h1⟩
  | j + 1, h => by
    have := tri_le h0 h1 j (by omega)
    simp only [tri]
    omega

theorem rec_step {a : Nat → Nat} {K : Int} {B : T} {x y z bud j s i n : Nat} {slots : List (Option Val)} (hs0 : slots[0]? = some (some (.clo x y [110] z B [([102], 0)]))) (hsi : slots[i]? = some (some (.num ((j + 1 : Nat) : Int)))) (hj : j ≤ 300) :
    evalS bud (n + 10) (bodyT a K) [([110], i), ([102], 0)] ⟨slots, s, 0⟩ = (if s = bud then some (none, ⟨slots, s, 2⟩) else (evalS bud (n + 7) B [([110], slots.length), ([102], 0)] ⟨slots ++ [some (.num j)], s + 1, 0⟩).bind fun r => match r.1 with
      | none => some (none, r.2)
      | some v => some (some (.num (wrap64 (((j + 1 : Nat) : Int) + asNum v))), r.2)) := by
  have hlt : ¬ ((j + 1 : Nat) : Int) < 1 := by omega
  have e1 : wrap64 (((j + 1 : Nat) : Int) - 1) = (j : Int) := by rw [wrap64_small (by omega) (by omega)]; omega
  have l1 : lookV [([110], i), ([102], 0)] [110] = some i := by simp [lookV]
  have l2 : lookV [([110], i), ([102], 0)] [102] = some 0 := by simp [lookV]
  have hn : ∀ q f t, evalS bud (q + 1) (.name f t [110]) [([110], i), ([102], 0)] ⟨slots, s, 0⟩ = some (some (.num ((j + 1 : Nat) : Int)), ⟨slots, s, 0⟩) := fun q f t => by
    rw [evalS, l1, Option.bind_some, hsi]
  have hf : ∀ q f t, evalS bud (q + 1) (.name f t [102]) [([110], i), ([102], 0)] ⟨slots, s, 0⟩ = some (some (.clo x y [110] z B [([102], 0)]), ⟨slots, s, 0⟩) := fun q f t => by
    rw [evalS, l2, Option.bind_some, hs0]
  have h1 : ∀ q f t, evalS bud (q + 1) (.int f t 1) [([110], i), ([102], 0)] ⟨slots, s, 0⟩ = some (some (.num 1), ⟨slots, s, 0⟩) := fun q f t => by
    rw [evalS, if_pos (by omega)]
  unfold bodyT
  rw [evalS, evalS_binary, bothS, hn, Option.bind_some]
  simp only
  rw [h1, Option.bind_some]
  simp only [Option.bind_some, asNum, reckonS]
  simp only [show ¬ (23 : Int) = 19 from by decide, show ¬ (23 : Int) = 20 from by decide, show ¬ (23 : Int) = 21 from by decide, if_true, if_false, hlt, decide_false]
  rw [if_neg (by decide), evalS_binary, bothS, hn, Option.bind_some]
  simp only
  rw [evalS_call, bothS, hf, Option.bind_some]
  simp only
  rw [evalS, evalS_binary, bothS, hn, Option.bind_some]
  simp only
  rw [h1, Option.bind_some]
  simp only [Option.bind_some, asNum, reckonS, show ¬ (20 : Int) = 19 from by decide, if_true, if_false, e1, applyS]
  by_cases hsb : s = bud
  · rw [if_pos hsb, if_pos hsb]
    rfl
  · rw [if_neg hsb, if_neg hsb]
    cases evalS bud (n + 7) B [([110], slots.length), ([102], 0)] ⟨slots ++ [some (.num j)], s + 1, 0⟩ with
    | none => rfl
    | some r =>
      obtain ⟨r1, r2⟩ := r
      cases r1 <;> rfl

theorem rec_run {a : Nat → Nat} {K : Int} (h0 : 0 ≤ K) (h1 : K ≤ 100) {x y z bud : Nat} : ∀ (j s i fuel : Nat) (slots : List (Option Val)), slots[0]? = some (some (cloF a K x y z)) → slots[i]? = some (some (.num j)) → s ≤ bud → j ≤ 300 → 10 + 10 * j ≤ fuel →
    ∃ slots', evalS bud fuel (bodyT a K) [([110], i), ([102], 0)] ⟨slots, s, 0⟩ = (if s + j ≤ bud then some (some (.num (tri K j)), ⟨slots', s + j, 0⟩) else some (none, ⟨slots', bud, 2⟩))
  | 0, s, i, fuel, slots, hs0, hsi, hs, hj, hf => by
    obtain ⟨n, rfl⟩ : ∃ n, fuel = n + 6 := ⟨fuel - 6, by omega⟩
    refine ⟨slots, ?_⟩
    rw [if_pos (by omega)]
    have hK : -9223372036854775808 ≤ K ∧ K ≤ 9223372036854775807 := by omega
    simp [bodyT, evalS, lookV, hsi, asNum, reckonS, hK, tri]
  | j + 1, s, i, fuel, slots, hs0, hsi, hs, hj, hf => by
    obtain ⟨n, rfl⟩ : ∃ n, fuel = n + 10 := ⟨fuel - 10, by omega⟩
    have hb := tri_le h0 h1 j (by omega)
    have e2 : wrap64 (((j + 1 : Nat) : Int) + tri K j) = tri K (j + 1) := by rw [wrap64_small (by omega) (by omega)]; rfl
    rw [rec_step hs0 hsi (by omega)]
    by_cases hsb : s = bud
    · refine ⟨slots, ?_⟩
      rw [if_pos hsb, if_neg (by omega), hsb]
    · rw [if_neg hsb]
      have hl0 : 0 < slots.length := (List.getElem?_eq_some_iff.1 hs0).1
      obtain ⟨slots', ih⟩ := rec_run (x := x) (y := y) (z := z) (bud := bud) h0 h1 j (s + 1) slots.length (n + 7) (slots ++ [some (.num j)]) (by rw [List.getElem?_append_left hl0]; exact hs0) (by simp) (by omega) (by omega) (by omega)
      refine ⟨slots', ?_⟩
      rw [ih]
      by_cases hle : s + 1 + j ≤ bud
      · rw [if_pos hle, if_pos (by omega), Option.bind_some]
        simp only [asNum, e2]
        rw [show s + 1 + j = s + (j + 1) from by omega]
      · rw [if_neg hle, if_neg (by omega), Option.bind_some]

/-- The whole text. -/
def wholeT (a : Nat → Nat) (K N : Int) : T := .lett (a 30) (a 31) true [102] (a 32) (.fn (a 33) (a 34) [110] (a 35) (bodyT a K)) (.call (a 36) (a 37) (.name (a 38) (a 39) [102]) (.int (a 40) (a 41) N))

theorem rec_whole {a : Nat → Nat} {K : Int} (h0 : 0 ≤ K) (h1 : K ≤ 100) {N bud : Nat} (hN : N ≤ 300) : ∃ slots' : List (Option Val), evalS bud 4000 (wholeT a K N) [] ⟨[], 0, 0⟩ = (if 1 + N ≤ bud then some (some (.num (tri K N)), ⟨slots', 1 + N, 0⟩) else some (none, ⟨slots', bud, 2⟩)) := by
  have hNr : -9223372036854775808 ≤ (N : Int) ∧ (N : Int) ≤ 9223372036854775807 := by omega
  have e : evalS bud 4000 (wholeT a K N) [] ⟨[], 0, 0⟩ = (if 0 = bud then some (none, ⟨[some (cloF a K (a 33) (a 34) (a 35))], 0, 2⟩) else evalS bud 3998 (bodyT a K) [([110], 1), ([102], 0)] ⟨[some (cloF a K (a 33) (a 34) (a 35)), some (.num N)], 1, 0⟩) := by
    unfold wholeT
    rw [show (4000 : Nat) = 3999 + 1 from rfl, evalS]
    simp only [if_true]
    rw [show (3999 : Nat) = 3998 + 1 from rfl, evalS, Option.bind_some]
    simp only
    rw [evalS_call, bothS, show (3998 : Nat) = 3997 + 1 from rfl, evalS]
    simp only [lookV, if_true, Option.bind_some, List.length_nil, List.nil_append, List.set_cons_zero, List.getElem?_cons_zero]
    rw [evalS, if_pos hNr]
    rfl
  rw [e]
  by_cases hb : 0 = bud
  · rw [if_pos hb]
    subst hb
    exact ⟨_, by rw [if_neg (by omega)]⟩
  · rw [if_neg hb]
    exact rec_run h0 h1 N 1 1 3998 _ rfl rfl (by omega) hN (by omega)

end Go.Proofs.YtckhafpejefbbaaGreatDoor.Tw

/- Package tailorkeep: pick, open, awake. -/
namespace Go.Proofs.YtckhafpejefbbaaGreatDoor
open Go.RowKit

theorem tmod_nat (x : Int) (n : Nat) (hx : 0 ≤ x) (hn : 0 < n) : ∃ r : Nat, x.tmod n = r ∧ r < n := by
  refine ⟨(x.tmod n).toNat, ?_, ?_⟩
  · rw [Int.tmod_eq_emod_of_nonneg hx]
    have := Int.emod_nonneg x (show (n : Int) ≠ 0 by omega)
    omega
  · rw [Int.tmod_eq_emod_of_nonneg hx]
    have := Int.emod_nonneg x (show (n : Int) ≠ 0 by omega)
    have := Int.emod_lt_of_pos x (show (0 : Int) < n by omega)
    omega

set_option maxRecDepth 100000 in
set_option maxHeartbeats 1000000 in
theorem pick_any (c : Int) (n : Nat) (h0 : -9223372036854775808 ≤ c) (h1 : c ≤ 9223372036854775807) (hn : 0 < n) (hn2 : n ≤ 1000000) (w : World) :
    Calls Tryz.prog 17 #[.int .i64 c, .int .i64 n] w fun e w' => ∃ r : Nat, e = .returned (.int .i64 r) ∧ r < n ∧ w = w' := by
  have hz : ((n : Int) == 0) = false := by simp; omega
  have hn0 : (n : Int) ≠ 0 := by omega
  by_cases hc : c < 0
  · obtain ⟨r, hr, hr2⟩ := tmod_nat (-(c + 1)) n (by omega) hn
    rw [Int.neg_tmod] at hr
    go_enter Tryz.func17, Tryz.ntmps17
    go_wp2_with fail
    go_ret
    exact ⟨r, rfl, hr2, rfl⟩
  · obtain ⟨r, hr, hr2⟩ := tmod_nat c n (by omega) hn
    go_enter Tryz.func17, Tryz.ntmps17
    go_wp2_with fail
    go_ret
    exact ⟨r, rfl, hr2, rfl⟩

set_option maxRecDepth 100000 in
set_option maxHeartbeats 1000000 in
theorem kopen_fine (hIB : Said.IndexByte) (hPI : Said.ParseInt) {S : List TypeId} {t : Tw.T} {shown : List UInt8} {s : ByteArray} (hF : Fine S s t shown) (w : World) :
    Calls Tryz.prog 19 #[.string s] w fun e w' => ∃ bt, e = .returned (.pointer (some ⟨bt, 0, none⟩)) ∧ TextAt w' bt s t ∧ TK w.heap.size S w w' := by
  go_enter Tryz.func19, Tryz.ntmps19
  go_wp2_with fail
  refine (Open_fine hIB hPI hF w).mono ?_
  rintro e1 w1 ⟨bt, rfl, hT, hk⟩
  have T1 := hide hT
  have K1 := hide hk
  clear hT hk
  go_wp2_with fail
  refine (Source_any (unhide T1)).mono ?_
  rintro e1 w2 ⟨rfl, rfl⟩
  go_wp2_with fail
  go_ret
  exact ⟨bt, rfl, unhide T1, unhide K1⟩

/-- The library's contracts that are used. -/
structure Lib4 : Prop where
  ib : Said.IndexByte
  pi : Said.ParseInt
  fi : Said.FormatInt
  fb : Said.FormatBool

def intB (fuel : Nat) (t : Tw.T) : Bool :=
  match Tw.inferS fuel t .nil ss0 with
  | some (r, st1) => !st1.clash && (match Tw.endlessS fuel st1 with
    | some (false, st2) => (match Tw.findS fuel st2 r with
      | some (p, st3) => (match st3.shs[p]? with
        | some x => decide (x.sort = 1)
        | none => false)
      | none => false)
    | _ => false)
  | none => false

theorem intTyped_of {fuel : Nat} {t : Tw.T} (h : intB fuel t = true) : IntTyped t := by
  unfold intB at h
  split at h
  · rename_i r st1 h1
    simp only [Bool.and_eq_true, Bool.not_eq_true'] at h
    obtain ⟨h2, h⟩ := h
    split at h
    · rename_i st2 h3
      split at h
      · rename_i p st3 h4
        split at h
        · rename_i x h5
          exact ⟨fuel, r, p, st1, st2, st3, x, h1, h2, h3, h4, h5, of_decide_eq_true h⟩
        · cases h
      · cases h
    · cases h
  · cases h

def txA : ByteArray := ⟨#[40, 102, 117, 110, 32, 120, 32, 45, 62, 32, 120, 32, 43, 32, 49, 41, 32, 52]⟩
def tA : Tw.T := .call 0 18 (.bracket 0 16 (.fn 1 15 [120] 5 (.binary 10 15 19 (.name 10 11 [120]) (.int 14 15 1)))) (.int 17 18 4)
def toksA : List Tw.Tok := [⟨16, 0, 1⟩, ⟨6, 1, 4⟩, ⟨1, 5, 6⟩, ⟨14, 7, 9⟩, ⟨1, 10, 11⟩, ⟨19, 12, 13⟩, ⟨2, 14, 15⟩, ⟨17, 15, 16⟩, ⟨2, 17, 18⟩, ⟨0, 18, 18⟩]

theorem splitA : Tw.split txA.data.toList = .ok toksA := by kernel_rfl
theorem parseA : Tw.parseS txA.data.toList toksA 100 = some (.ok tA) := by kernel_rfl
theorem weightA : Tw.weightS tA .nil = some 7 := by kernel_rfl
theorem boundA : tA.boundS [] = true := by kernel_rfl
theorem intA : intB 100 tA = true := by kernel_rfl
theorem told_num {v : Nat} (hv : v < 10 ^ 18) : Tw.toldS 400 (Tw.writeV (.num v) []) = Lib.decDigits v := by
  have hl := decDigits_len 17 v hv
  have e : Lib.itoa (v : Int) = Lib.decDigits v := by
    unfold Lib.itoa
    rw [if_neg (by omega)]
    simp
  unfold Tw.writeV
  rw [if_neg (by simp), Tw.putS, if_neg (by simp), List.nil_append, e, Tw.toldS, if_neg (by omega)]

theorem runA : Tw.runS 100 tA 5 = some (0, 1, [53]) := by
  have : Tw.evalS 5 100 tA [] ⟨[], 0, 0⟩ = some (some (.num (5 : Nat)), ⟨[some (.num 4)], 1, 0⟩) := by kernel_rfl
  rw [Tw.runS, this, Option.bind_some]
  simp only
  rw [told_num (by decide), show Lib.decDigits 5 = [53] from by unfold Lib.decDigits; rfl]

theorem fineA : Fine ShS txA tA [105, 110, 116] := ⟨by decide, ⟨toksA, 100, splitA, parseA⟩, allBound_of boundA, ⟨7, weightA, by omega⟩, (intTyped_of intA).said, by decide⟩

/-- What a law's calls may turn of blocks of their own. -/
abbrev LawS : List TypeId := [128, 334, 329, 5, 311, 117]

theorem three_new (w : World) (x y z : Value) (t : TypeId) : (w.alloc (.cells #[x, y, z] t)).heap[w.heap.size]? = some (.cells #[x, y, z] t (0, 0)) := new_block w _

set_option maxRecDepth 100000 in
set_option maxHeartbeats 2000000 in
theorem awake_any (L : Lib4) {w : World} (hT : Tab w) (hG : 1 < w.heap.size) :
    Calls Tryz.prog 15 #[] w fun e w' => e = .returned (.bool true) ∧ TK w.heap.size LawS w w' := by
  have HT := hide hT
  clear hT
  go_enter Tryz.func15, Tryz.ntmps15
  go_wp2_with fail
  refine (kopen_fine L.ib L.pi fineA w).mono ?_
  rintro e1 w1 ⟨bt, rfl, hX, hk⟩
  have X1 := hide hX
  have K1 := hide (hk.sub (S' := LawS) (by decide))
  have z1 := hk.size
  clear hX hk
  go_wp2_with fail
  refine (Run_any L.fi L.fb 5 (unhide X1) ((unhide HT).tk (unhide K1) hG) (by omega) (show Tw.runS 100 tA (budget 5) = some (0, 1, [53]) from runA)).mono ?_
  rintro e1 w2 ⟨rfl, hk⟩
  have z2 := hk.size
  have K2 := hide ((unhide K1).trans ((hk.base z1).sub (by decide)))
  have X2 := hide ((unhide X1).tk hk (by decide))
  clear hk
  go_wp2_with fail
  have G2 : Hid (w2.grownBy (w2.alloc (.cells #[.int .i64 0, .int .i64 1, .string ⟨#[53]⟩] 39)) none) := World.grownBy_alloc _ _ none
  refine (Type_any (S := ShS) ((unhide X2).tk (TK.of_grown 0 ShS G2.out) (by decide)) fineA.of).mono ?_
  rintro e1 w3 ⟨rfl, hk⟩
  have K3 := hide (((unhide K2).trans (TK.of_grown _ _ G2.out)).trans ((hk.base (by have := G2.out.size; omega)).sub (S' := LawS) (by decide)))
  have C3 := hk.cells (three_new w2 (.int .i64 0) (.int .i64 1) (.string ⟨#[53]⟩) 39) (by decide)
  obtain ⟨c0, c1, c2, _, _, _⟩ := three_cells C3
  clear hk C3
  go_wp2_with fail
  go_ret
  exact ⟨rfl, unhide K3⟩

end Go.Proofs.YtckhafpejefbbaaGreatDoor

/- tailorkeep.digits. -/
namespace Go.Proofs.YtckhafpejefbbaaGreatDoor
open Go.RowKit

theorem byte_string (w : World) (c : UInt8) : (convert 66 9 (.slice (some ⟨w.heap.size, 0, none⟩) 1 1)).run Tryz.prog (w.alloc (.cells #[.int .u8 c.toNat] 5)) = .ok (bytesV [c]) (w.alloc (.cells #[.int .u8 c.toNat] 5)) := by
  have := run_convert_bytes_back (P := Tryz.prog) (w.alloc (.cells #[.int .u8 c.toNat] 5)) 66 9 5 ⟨w.heap.size, 0, none⟩ 1 [c] Tryz.underlying66 Tryz.underlying5 Tryz.underlying9 (by
    intro j hj
    have : j = 0 := by simpa using hj
    subst this
    rw [show (Addr.add ⟨w.heap.size, 0, none⟩ 0) = (⟨w.heap.size, 0, none⟩ : Addr) from by simp [Addr.add]]
    exact (one_cell (new_block w _)).1)
  exact this

/-- What digits has come to: x is left, acc stands. -/
def DigRel (u x : Nat) (acc : List UInt8) : Prop := (acc = [] ∧ x = u) ∨ (acc ≠ [] ∧ Lib.decDigits u = (if x = 0 then acc else Lib.decDigits x ++ acc))

theorem DigRel.step {u x : Nat} {acc : List UInt8} (h : DigRel u x acc) (hx : 0 < x ∨ acc = []) : DigRel u (x / 10) (UInt8.ofNat (48 + x % 10) :: acc) := by
  refine .inr ⟨by simp, ?_⟩
  have e : Lib.decDigits u = Lib.decDigits x ++ acc := by
    rcases h with ⟨rfl, rfl⟩ | ⟨ha, h⟩
    · simp
    · rcases hx with hx | hx
      · rw [h, if_neg (by omega)]
      · exact absurd hx ha
  rw [e]
  by_cases h10 : x < 10
  · rw [if_pos (by omega)]
    have : Lib.decDigits x = [UInt8.ofNat (48 + x)] := by unfold Lib.decDigits; rw [dif_pos h10]
    rw [this, show x % 10 = x from by omega]
    rfl
  · rw [if_neg (by omega)]
    have : Lib.decDigits x = Lib.decDigits (x / 10) ++ [UInt8.ofNat (48 + x % 10)] := by
      conv => lhs; unfold Lib.decDigits
      rw [dif_neg h10]
    rw [this, List.append_assoc]
    rfl

theorem DigRel.done {u x : Nat} {acc : List UInt8} (h : DigRel u x acc) (hx : x = 0) (ha : acc ≠ []) : acc = Lib.decDigits u := by
  rcases h with ⟨h, _⟩ | ⟨_, h⟩
  · exact absurd h ha
  · rw [h, if_pos hx]

theorem DigRel.len {u x : Nat} {acc : List UInt8} (h : DigRel u x acc) (hu : u < 9223372036854775808) : acc.length ≤ 19 := by
  have hl := (decDigits_len 18 u (by omega)).2
  rcases h with ⟨rfl, _⟩ | ⟨_, h⟩
  · simp
  · rw [h] at hl
    split at hl
    · exact hl
    · simp at hl
      omega

theorem push_byte (c : Nat) (acc : List UInt8) : Value.string ({ data := #[48 + UInt8.ofNat c] } ++ { data := acc.toArray }) = bytesV (UInt8.ofNat (48 + c) :: acc) := by
  have e : (48 + UInt8.ofNat c : UInt8) = UInt8.ofNat (48 + c) := by simp [UInt8.ofNat_add]
  rw [e]
  rfl

set_option maxRecDepth 100000 in
set_option maxHeartbeats 2000000 in
theorem digits_big (u : Nat) (hu : u < 9223372036854775808) (w : World) : Calls Tryz.prog 20 #[.int .i64 u] w fun e w' => e = .returned (bytesV (Lib.decDigits u)) ∧ w.grownBy w' none := by
  go_enter Tryz.func20, Tryz.ntmps20
  go_wp2_with fail
  go_loopg [0, 3] (u + 2) (fun j nv sv wr => ∃ (x : Nat) (acc : List UInt8), nv = .int .i64 x ∧ sv = bytesV acc ∧ x ≤ u ∧ j = x + (if acc = [] then 2 else 1) ∧ Hid (DigRel u x acc) ∧ Hid (w.grownBy wr none))
  case atStart => exact ⟨u, [], rfl, rfl, Nat.le_refl _, by simp, .inl ⟨rfl, rfl⟩, grown_refl _⟩
  case round =>
    obtain ⟨x, acc, rfl, rfl, hxu, hj, HD, HG⟩ := hrel
    have hcv := byte_string wr (UInt8.ofNat (48 + x % 10))
    have hc : ((UInt8.ofNat (48 + x % 10)).toNat : Int) = 48 + (x : Int) % 10 := by
      simp [UInt8.toNat_ofNat]
      omega
    rw [hc] at hcv
    have hxs : x < 9223372036854775808 := by omega
    have hal := (unhide HD).len hu
    have has : acc.toArray.size ≤ 19 := by simpa using hal
    have GA : Hid (w.grownBy (wr.alloc (.cells #[.int .u8 (48 + (x : Int) % 10)] 5)) none) := grown_alloc HG.out _
    by_cases hx : 0 < x
    · have hxi : (0 : Int) < x := by omega
      have D2 := hide ((unhide HD).step (.inl hx))
      go_wp2_with fail
      go_roundg (x / 10 + 1)
      case measure => subst hj; split <;> omega
      case rel => exact ⟨x / 10, UInt8.ofNat (48 + x % 10) :: acc, by go_num, push_byte _ _, by omega, by simp, D2, GA⟩
    · have hx0 : x = 0 := by omega
      subst hx0
      cases acc with
      | nil =>
        have D2 := hide ((unhide HD).step (.inr rfl))
        have hcv0 : (convert 66 9 (.slice (some ⟨wr.heap.size, 0, none⟩) 1 1)).run Tryz.prog (wr.alloc (.cells #[.int .u8 48] 5)) = .ok (bytesV [48]) (wr.alloc (.cells #[.int .u8 48] 5)) := byte_string wr 48
        have GA0 : Hid (w.grownBy (wr.alloc (.cells #[.int .u8 48] 5)) none) := grown_alloc HG.out _
        clear hcv GA
        go_wp2_with fail
        go_roundg 1
        case measure => subst hj; simp
        case rel => exact ⟨0, UInt8.ofNat (48 + 0 % 10) :: [], rfl, rfl, by omega, by simp, D2, GA0⟩
      | cons b l =>
        have R := hide ((unhide HD).done rfl (by simp))
        go_wp2_with fail
        go_ret
        exact ⟨by rw [← unhide R]; rfl, HG.out⟩

theorem digits_any (u : Nat) (hu : u < 10 ^ 18) (w : World) : Calls Tryz.prog 20 #[.int .i64 u] w fun e w' => e = .returned (bytesV (Lib.decDigits u)) ∧ w.grownBy w' none := digits_big u (by omega) w

end Go.Proofs.YtckhafpejefbbaaGreatDoor

/- The text of Recursive is fine: its type, its two runs. -/
namespace Go.Proofs.YtckhafpejefbbaaGreatDoor
open Go.RowKit

def dig3 (u : Nat) : List UInt8 := if u < 10 then [UInt8.ofNat (48 + u)] else if u < 100 then [UInt8.ofNat (48 + u / 10), UInt8.ofNat (48 + u % 10)] else [UInt8.ofNat (48 + u / 100), UInt8.ofNat (48 + u / 10 % 10), UInt8.ofNat (48 + u % 10)]

theorem decDigits_dig3 {u : Nat} (h : u < 1000) : Lib.decDigits u = dig3 u := by
  unfold dig3
  by_cases h1 : u < 10
  · rw [if_pos h1]
    unfold Lib.decDigits
    rw [dif_pos h1]
  · rw [if_neg h1]
    unfold Lib.decDigits
    rw [dif_neg h1]
    by_cases h2 : u < 100
    · rw [if_pos h2]
      unfold Lib.decDigits
      rw [dif_pos (by omega)]
      rfl
    · rw [if_neg h2]
      unfold Lib.decDigits
      rw [dif_neg (by omega)]
      unfold Lib.decDigits
      rw [dif_pos (by omega), show u / 10 / 10 = u / 100 from by omega]
      rfl

theorem dig3_value : ∀ u : Fin 200, Tw.valueS (dig3 u.1) = some (u.1 : Int) := by decide +kernel
theorem dig3_digits : ∀ u : Fin 200, (dig3 u.1).all (fun c => Tw.digitI c.toNat) = true := by decide +kernel
theorem dig3_len (u : Nat) : 1 ≤ (dig3 u).length ∧ (dig3 u).length ≤ 3 := by
  unfold dig3
  split
  · simp
  · split <;> simp

structure Dig (u : Nat) (d : List UInt8) : Prop where
  val : Tw.valueS d = some (u : Int)
  dig : ∀ c ∈ d, Tw.digitI c.toNat = true
  pos : 1 ≤ d.length
  len : d.length ≤ 3
  ne : d ≠ []

theorem dig_of {u : Nat} (h : u < 200) : Dig u (Lib.decDigits u) := by
  rw [decDigits_dig3 (by omega)]
  have hl := dig3_len u
  exact ⟨dig3_value ⟨u, h⟩, List.all_eq_true.1 (dig3_digits ⟨u, h⟩), hl.1, hl.2, by intro e; rw [e] at hl; simp at hl⟩

theorem tR_whole (lk ln : Nat) (K N : Int) : ∃ a, Tw.tR lk ln K N = Tw.wholeT a K N := by
  let m := Tw.mR lk ln K N
  exact ⟨fun i => ([m.fr 21, m.to 55, m.fr 24, m.to 29, m.fr 24, m.to 25, m.fr 28, m.to 29, m.fr 35, m.to 36, m.fr 42, m.to 55, m.fr 42, m.to 43, m.fr 46, m.to 55, m.fr 46, m.to 47, m.fr 48, m.to 55, m.fr 49, m.to 54, m.fr 49, m.to 50, m.fr 53, m.to 54, 0, 0, 0, 0, m.fr 0, m.to 62, m.fr 8, m.fr 12, m.to 55, m.fr 16, m.fr 59, m.to 62, m.fr 59, m.to 60, m.fr 61, m.to 62] : List Nat).getD i 0, rfl⟩

theorem tri_eq (K : Nat) : ∀ j : Nat, Tw.tri K j = ((K + j * (j + 1) / 2 : Nat) : Int)
  | 0 => by simp [Tw.tri]
  | j + 1 => by
    simp only [Tw.tri, tri_eq K j]
    have : (j + 1) * (j + 1 + 1) = j * (j + 1) + 2 * (j + 1) := by rw [Nat.add_mul, Nat.mul_add, Nat.mul_add]; omega
    rw [this]
    omega

theorem run_done {lk ln K N : Nat} (hK : K < 50) (hN : N < 200) : Tw.runS 4000 (Tw.tR lk ln K N) (N + 1) = some (0, N + 1, Lib.decDigits (K + N * (N + 1) / 2)) := by
  obtain ⟨a, ha⟩ := tR_whole lk ln K N
  obtain ⟨sl, h⟩ := Tw.rec_whole (a := a) (K := (K : Int)) (by omega) (by omega) (N := N) (bud := N + 1) (by omega)
  have hv : K + N * (N + 1) / 2 < 10 ^ 18 := by
    have : N * (N + 1) ≤ 200 * 200 := Nat.mul_le_mul (by omega) (by omega)
    omega
  rw [Tw.runS, ha, h, if_pos (by omega), Option.bind_some]
  simp only
  rw [tri_eq, told_num hv, Nat.add_comm 1 N]

theorem run_ends {lk ln K N : Nat} (hK : K < 50) (hN : N < 200) : Tw.runS 4000 (Tw.tR lk ln K N) N = some (2, N, []) := by
  obtain ⟨a, ha⟩ := tR_whole lk ln K N
  obtain ⟨sl, h⟩ := Tw.rec_whole (a := a) (K := (K : Int)) (by omega) (by omega) (N := N) (bud := N) (by omega)
  rw [Tw.runS, ha, h, if_neg (by omega), Option.bind_some]

theorem intR0 : intB 300 Tw.tR0 = true := by kernel_rfl
theorem intR (lk ln : Nat) (K N : Int) : IntTyped (Tw.tR lk ln K N) := by
  refine intTyped_of (fuel := 300) ?_
  have e : Tw.inferS 300 (Tw.tR lk ln K N) .nil ss0 = Tw.inferS 300 Tw.tR0 .nil ss0 := (Tw.inferS_re (Tw.mR lk ln K N) (fun _ _ => rfl) 300).1 Tw.tR0 .nil ss0
  have h := intR0
  unfold intB at h ⊢
  rw [e]
  exact h

/-- The text of Recursive, as it is put together. -/
def txR (dk dn : List UInt8) : ByteArray := ⟨(Tw.textR dk dn).toArray⟩

theorem fineR {K N : Nat} (hK : K < 50) (hN : N < 200) : Fine ShS (txR (Lib.decDigits K) (Lib.decDigits N)) (Tw.tR (Lib.decDigits K).length (Lib.decDigits N).length K N) [105, 110, 116] := by
  have dK := dig_of (u := K) (by omega)
  have dN := dig_of (u := N) hN
  have hlen := Tw.textR_len (Lib.decDigits K) (Lib.decDigits N)
  have hk := dK.len
  have hn := dN.len
  refine ⟨?_, ?_, allBound_of (Tw.boundR _ _ _ _), ⟨31, by rw [Tw.weightR, Tw.weightR0], by omega⟩, (intR _ _ _ _).said, by decide⟩
  · show (Tw.textR _ _).toArray.size ≤ 300
    rw [List.size_toArray, hlen]
    omega
  · refine ⟨_, 200, Tw.splitR dK.ne dK.dig (by omega) dN.ne dN.dig (by omega), ?_⟩
    exact Tw.parseR dK.pos dN.pos dK.val dN.val _ rfl

end Go.Proofs.YtckhafpejefbbaaGreatDoor

/- tailorkeep.Recursive. -/
namespace Go.Proofs.YtckhafpejefbbaaGreatDoor
open Go.RowKit

theorem budget_nat (n : Nat) (h : n ≤ 3000) : budget (n : Int) = n := by unfold budget; omega

theorem txR_eq (dk dn : List UInt8) : (((⟨#[108, 101, 116, 32, 114, 101, 99, 32, 102, 32, 61, 32, 102, 117, 110, 32, 110, 32, 45, 62, 32, 105, 102, 32, 110, 32, 60, 32, 49, 32, 116, 104, 101, 110, 32]⟩ : ByteArray) ++ ⟨dk.toArray⟩) ++ ⟨#[32, 101, 108, 115, 101, 32, 110, 32, 43, 32, 102, 32, 40, 110, 32, 45, 32, 49, 41, 32, 105, 110, 32, 102, 32]⟩) ++ ⟨dn.toArray⟩ = txR dk dn := by
  have hA : Tw.pA ++ [32] = [108, 101, 116, 32, 114, 101, 99, 32, 102, 32, 61, 32, 102, 117, 110, 32, 110, 32, 45, 62, 32, 105, 102, 32, 110, 32, 60, 32, 49, 32, 116, 104, 101, 110, 32] := by decide +kernel
  have hB : Tw.pB ++ [32] = [32, 101, 108, 115, 101, 32, 110, 32, 43, 32, 102, 32, 40, 110, 32, 45, 32, 49, 41, 32, 105, 110, 32, 102, 32] := by decide +kernel
  have e : Tw.textR dk dn = (Tw.pA ++ [32]) ++ dk ++ (Tw.pB ++ [32]) ++ dn := by simp [Tw.textR, List.append_assoc]
  apply ba_ext
  rw [txR, e, hA, hB]
  simp

theorem wrap_in {n : Int} (h0 : -9223372036854775808 ≤ n) (h1 : n ≤ 9223372036854775807) : IntKind.i64.wrap n = n := IntWalk.i64_in n ⟨h0, h1⟩

set_option maxRecDepth 100000 in
set_option maxHeartbeats 4000000 in
theorem Recursive_any (L : Lib4) {w : World} (hT : Tab w) (hG : 1 < w.heap.size) (n k : Int) (hn0 : -9223372036854775808 ≤ n) (hn1 : n ≤ 9223372036854775807) (hk0 : -9223372036854775808 ≤ k) (hk1 : k ≤ 9223372036854775807) :
    Calls Tryz.prog 8 #[.int .i64 n, .int .i64 k] w fun e w' => e = .returned (.bool true) ∧ w.grownBy w' none := by
  have HT := hide hT
  clear hT
  go_enter Tryz.func8, Tryz.ntmps8
  go_wp2_with fail
  refine (awake_any L (unhide HT) hG).mono ?_
  rintro e1 w1 ⟨rfl, hk⟩
  have K1 := hide hk
  have z1 := hk.size
  clear hk
  go_wp2_with fail
  refine (pick_any n 200 hn0 hn1 (by omega) (by omega) w1).mono ?_
  rintro e1 w1' ⟨N, rfl, hN, rfl⟩
  go_wp2_with fail
  refine (pick_any k 50 hk0 hk1 (by omega) (by omega) w1).mono ?_
  rintro e1 w1' ⟨K, rfl, hK, rfl⟩
  go_wp2_with fail
  refine (digits_any K (by omega) w1).mono ?_
  rintro e1 w2 ⟨rfl, hg⟩
  have K2 := hide ((unhide K1).trans (TK.of_grown _ _ hg))
  have z2 := hg.size
  have dK := (dig_of (u := K) (by omega)).len
  have dN := (dig_of (u := N) hN).len
  have sK : (Lib.decDigits K).toArray.size ≤ 3 := by simpa using dK
  have sN : (Lib.decDigits N).toArray.size ≤ 3 := by simpa using dN
  clear hg
  go_wp2_with fail
  refine (digits_any N (by omega) w2).mono ?_
  rintro e1 w3 ⟨rfl, hg⟩
  have K3 := hide ((unhide K2).trans (TK.of_grown _ _ hg))
  have z3 := hg.size
  clear hg
  go_wp2_with fail
  rw [txR_eq]
  refine (kopen_fine L.ib L.pi (fineR hK hN) w3).mono ?_
  rintro e1 w4 ⟨bt, rfl, hX, hk⟩
  have X4 := hide hX
  have K4 := hide ((unhide K3).trans ((hk.base (by omega)).sub (S' := LawS) (by decide)))
  have z4 := hk.size
  clear hX hk
  go_wp2_with fail
  have b1 : budget ((N : Int) + 1) = N + 1 := by unfold budget; omega
  refine (Run_any L.fi L.fb ((N : Int) + 1) (unhide X4) ((unhide HT).tk (unhide K4) hG) (by omega) (by rw [b1]; exact run_done hK hN)).mono ?_
  rintro e1 w5 ⟨rfl, hk⟩
  have z5 := hk.size
  have K5 := hide ((unhide K4).trans ((hk.base (by omega)).sub (S' := LawS) (by decide)))
  have X5 := hide ((unhide X4).tk hk (by decide))
  clear hk
  obtain ⟨V, hV⟩ : ∃ V, Lib.decDigits (K + N * (N + 1) / 2) = V := ⟨_, rfl⟩
  rw [hV]
  have HV := hide hV
  clear hV
  go_wp2_with fail
  have G5 : Hid (w5.grownBy (w5.alloc (.cells #[.int .i64 0, .int .i64 ((N + 1 : Nat) : Int), bytesV V] 39)) none) := World.grownBy_alloc _ _ none
  have b2 : budget (N : Int) = N := budget_nat N (by omega)
  refine (Run_any L.fi L.fb (N : Int) ((unhide X5).tk (TK.of_grown 0 [] G5.out) (by decide)) (((unhide HT).tk (unhide K5) hG).tk (TK.of_grown w.heap.size [] G5.out) hG) (by have := G5.out.size; omega) (by rw [b2]; exact run_ends hK hN)).mono ?_
  rintro e1 w6 ⟨rfl, hk⟩
  have z6 := hk.size
  have z6' := G5.out.size
  have K6 := hide (((unhide K5).trans (TK.of_grown _ _ G5.out)).trans ((hk.base (by omega)).sub (S' := LawS) (by decide)))
  have X6 := hide (((unhide X5).tk (TK.of_grown 0 [] G5.out) (by decide)).tk hk (by decide))
  have C6 := hide (hk.cells (three_new w5 (.int .i64 0) (.int .i64 ((N + 1 : Nat) : Int)) (bytesV V) 39) (by decide))
  clear hk
  go_wp2_with fail
  have G6 : Hid (w6.grownBy (w6.alloc (.cells #[.int .i64 2, .int .i64 N, .string ⟨#[]⟩] 39)) none) := World.grownBy_alloc _ _ none
  refine (Type_any (S := ShS) ((unhide X6).tk (TK.of_grown 0 [] G6.out) (by decide)) (fineR hK hN).of).mono ?_
  rintro e1 w7 ⟨rfl, hk⟩
  have z7' := G6.out.size
  have z7 := hk.size
  have K7 := hide (((unhide K6).trans (TK.of_grown _ _ G6.out)).trans ((hk.base (by omega)).sub (S' := LawS) (by decide)))
  have C7 := hide (hk.cells ((G6.out.block _ (Array.getElem?_eq_some_iff.1 (unhide C6)).1 (by simp)).trans (unhide C6)) (by decide))
  have P7 := hide (hk.cells (three_new w6 (.int .i64 2) (.int .i64 N) (.string ⟨#[]⟩) 39) (by decide))
  obtain ⟨o0, o1, o2, _, _, _⟩ := three_cells (unhide C7)
  obtain ⟨p0, p1, p2, _, _, _⟩ := three_cells (unhide P7)
  have l5 : w5.heap.size < w7.heap.size := (Array.getElem?_eq_some_iff.1 (unhide C7)).1
  have l6 : w6.heap.size < w7.heap.size := (Array.getElem?_eq_some_iff.1 (unhide P7)).1
  have hmul : N * (N + 1) ≤ 200 * 200 := Nat.mul_le_mul (by omega) (by omega)
  have hw1 : IntKind.i64.wrap ((N : Int) + 1) = (N : Int) + 1 := wrap_in (by omega) (by omega)
  have hw2 : IntKind.i64.wrap ((N : Int) * ((N : Int) + 1)) = ((N * (N + 1) : Nat) : Int) := by
    rw [show (N : Int) * ((N : Int) + 1) = ((N * (N + 1) : Nat) : Int) from by push_cast; rfl]
    exact wrap_in (by omega) (by omega)
  have hw3' : ((N : Int) * ((N : Int) + 1)) = ((N * (N + 1) : Nat) : Int) := by push_cast; rfl
  have hw3 : IntKind.i64.wrap (((N * (N + 1) : Nat) : Int).tdiv 2) = ((N * (N + 1) / 2 : Nat) : Int) := by
    rw [Int.tdiv_eq_ediv_of_nonneg (by omega), show ((N * (N + 1) : Nat) : Int) / 2 = ((N * (N + 1) / 2 : Nat) : Int) from by omega]
    exact wrap_in (by omega) (by omega)
  have hw4 : IntKind.i64.wrap ((K : Int) + ((N * (N + 1) / 2 : Nat) : Int)) = ((K + N * (N + 1) / 2 : Nat) : Int) := by
    rw [show (K : Int) + ((N * (N + 1) / 2 : Nat) : Int) = ((K + N * (N + 1) / 2 : Nat) : Int) from by omega]
    exact wrap_in (by omega) (by omega)
  have hwA : IntKind.i64.wrap ((K : Int) + IntKind.i64.wrap (((N : Int) * ((N : Int) + 1)).tdiv 2)) = ((K + N * (N + 1) / 2 : Nat) : Int) := by rw [hw3', hw3, hw4]
  have HWA := hide hwA
  have HVL : Hid (K + N * (N + 1) / 2 < 10 ^ 18) := by show _ < _; omega
  clear hwA hw3 hw4 hw3'
  have D7 : Hid (w7.grownBy w7.drew none) := grown_drew (grown_refl _)
  clear hk C6 X6 X5 X4 K2 K3 K4 K5 K6
  have o1' : w7.cell? ⟨w5.heap.size, 1, none⟩ = some (.int .i64 ((N : Int) + 1)) := by rw [o1]; simp
  clear o1
  generalize hR5 : w5.heap.size = r5 at *
  generalize hR6 : w6.heap.size = r6 at *
  clear hR5 hR6
  go_wp2_with fail
  go_region_held3 (fun W => W.cell? ⟨r5, 0, none⟩ = some (.int .i64 0) ∧ W.cell? ⟨r5, 1, none⟩ = some (.int .i64 ((N : Int) + 1)) ∧ W.cell? ⟨r5, 2, none⟩ = some (bytesV V) ∧ W.cell? ⟨r6, 0, none⟩ = some (.int .i64 2) ∧ W.cell? ⟨r6, 1, none⟩ = some (.int .i64 N) ∧ W.cell? ⟨r6, 2, none⟩ = some (.string ⟨#[]⟩)) (go_keep)
    ((go_at_call 20; rw [unhide HWA]; refine (digits_any _ (unhide HVL) _).mono ?_; rintro e1 w8 ⟨rfl, hg⟩
      rw [unhide HV]
      have K8 : Hid (TK w.heap.size LawS w w8) := (unhide K7).trans (TK.of_grown _ _ (grown_trans D7.out hg))
      have g8 := grown_trans D7.out hg
      obtain ⟨q0, q1, q2, _, _, _⟩ := three_cells ((g8.block r5 l5 (by simp)).trans (unhide C7))
      obtain ⟨q3, q4, q5, _, _, _⟩ := three_cells ((g8.block r6 l6 (by simp)).trans (unhide P7))
      have q1' : w8.cell? ⟨r5, 1, none⟩ = some (.int .i64 ((N : Int) + 1)) := by rw [q1]; simp
      clear hg g8 q1))
  go_wp2_with fail
  go_ret
  exact ⟨rfl, (unhide K8).grown⟩

end Go.Proofs.YtckhafpejefbbaaGreatDoor

/- tailorkeep.Placed. -/
namespace Go.Proofs.YtckhafpejefbbaaGreatDoor
open Go.RowKit

set_option maxRecDepth 100000 in
set_option maxHeartbeats 1000000 in
theorem pick_det (c : Int) (n : Nat) (h0 : -9223372036854775808 ≤ c) (h1 : c ≤ 9223372036854775807) (hn : 0 < n) (hn2 : n ≤ 1000000) :
    ∃ r : Nat, r < n ∧ ∀ w : World, Calls Tryz.prog 17 #[.int .i64 c, .int .i64 n] w fun e w' => e = .returned (.int .i64 r) ∧ w = w' := by
  have hz : ((n : Int) == 0) = false := by simp; omega
  have hn0 : (n : Int) ≠ 0 := by omega
  by_cases hc : c < 0
  · obtain ⟨r, hr, hr2⟩ := tmod_nat (-(c + 1)) n (by omega) hn
    rw [Int.neg_tmod] at hr
    refine ⟨r, hr2, fun w => ?_⟩
    go_enter Tryz.func17, Tryz.ntmps17
    go_wp2_with fail
    go_ret
    exact ⟨rfl, rfl⟩
  · obtain ⟨r, hr, hr2⟩ := tmod_nat c n (by omega) hn
    refine ⟨r, hr2, fun w => ?_⟩
    go_enter Tryz.func17, Tryz.ntmps17
    go_wp2_with fail
    go_ret
    exact ⟨rfl, rfl⟩

/-- The library's contracts, one more. -/
structure Lib5 : Prop extends Lib4 where
  it : Said.ItoaSmall

set_option maxRecDepth 100000 in
set_option maxHeartbeats 4000000 in
theorem Placed_any (L : Lib5) {w : World} (hT : Tab w) (hG : 1 < w.heap.size) (s : ByteArray) (c : Int) (hc0 : -9223372036854775808 ≤ c) (hc1 : c ≤ 9223372036854775807) :
    Calls Tryz.prog 6 #[.string s, .int .i64 c] w fun e w' => e = .returned (.bool true) ∧ w.grownBy w' none := by
  have HT := hide hT
  obtain ⟨fo, res, hres⟩ := Tw.open_tot s.data.toList
  have HRes := hide (hres fo (Nat.le_refl _))
  obtain ⟨K, hK7, hpick⟩ := pick_det c 7 hc0 hc1 (by omega) (by omega)
  have HP := hide hpick
  clear hT hres hpick
  cases res with
  | fault k p =>
    have hk0 : k ≠ 0 := by
      have := unhide HRes
      unfold Tw.openS at this
      split at this
      · cases this; omega
      · exact fault_ne this
    have hki : ¬ (k : Int) = 0 := by omega
    have hkb : ((k : Int) != 0) = true := by simp; omega
    go_enter Tryz.func6, Tryz.ntmps6
    go_wp2_with fail
    refine (awake_any L.toLib4 (unhide HT) hG).mono ?_
    rintro e1 w1 ⟨rfl, hk⟩
    have K1 := hide hk.grown
    clear hk
    go_wp2_with fail
    refine (Open_any L.ib L.pi L.it (unhide HRes) w1).mono ?_
    rintro e1 w2 ⟨rfl, hk⟩
    have K2 := hide (grown_trans (unhide K1) hk.grown)
    clear hk
    go_wp2_with fail
    go_ret
    exact ⟨rfl, unhide K2⟩
  | fine t sh =>
    have hl := (Tw.fine_parts (unhide HRes)).1
    rw [show s.data.toList.length = s.size from Array.length_toList] at hl
    by_cases hlen : 300 < s.size + 4
    · have hli : (300 : Int) < (s.size : Int) + 4 := by omega
      go_enter Tryz.func6, Tryz.ntmps6
      go_wp2_with fail
      refine (awake_any L.toLib4 (unhide HT) hG).mono ?_
      rintro e1 w1 ⟨rfl, hk⟩
      have K1 := hide hk.grown
      clear hk
      go_wp2_with fail
      refine (Open_any L.ib L.pi L.it (unhide HRes) w1).mono ?_
      rintro e1 w2 ⟨bt, rfl, _, hk⟩
      have K2 := hide (grown_trans (unhide K1) hk.grown)
      clear hk
      go_wp2_with fail
      go_ret
      exact ⟨rfl, unhide K2⟩
    · have hli : ¬ (300 : Int) < (s.size : Int) + 4 := by omega
      have P := Tw.placed (unhide HRes) (by rw [show s.data.toList.length = s.size from Array.length_toList]; omega) K hK7 0
      rw [show s.data.toList.length = s.size from Array.length_toList] at P
      have PP := hide P
      clear P
      go_enter Tryz.func6, Tryz.ntmps6
      go_wp2_with fail
      refine (awake_any L.toLib4 (unhide HT) hG).mono ?_
      rintro e1 w1 ⟨rfl, hk⟩
      have K1 := hide hk.grown
      clear hk
      go_wp2_with fail
      refine (Open_any L.ib L.pi L.it (unhide HRes) w1).mono ?_
      rintro e1 w2 ⟨bt, rfl, _, hk⟩
      have K2 := hide (grown_trans (unhide K1) hk.grown)
      clear hk
      go_wp2_with fail
      have A3 : Hid (w2.grownBy (w2.alloc (.cells #[.string ⟨#[32, 41]⟩, .string ⟨#[32, 105, 110]⟩, .string ⟨#[32, 45, 62]⟩, .string ⟨#[32, 44, 32, 49]⟩, .string ⟨#[32, 123]⟩, .string ⟨#[32, 59]⟩, .string ⟨#[32, 46, 46]⟩] 9)) none) := World.grownBy_alloc _ _ none
      have hcell : (w2.alloc (.cells #[.string ⟨#[32, 41]⟩, .string ⟨#[32, 105, 110]⟩, .string ⟨#[32, 45, 62]⟩, .string ⟨#[32, 44, 32, 49]⟩, .string ⟨#[32, 123]⟩, .string ⟨#[32, 59]⟩, .string ⟨#[32, 46, 46]⟩] 9)).cell? ⟨w2.heap.size, K, none⟩ = some (bytesV (Tw.plcTail K)) := by
        rw [cell_of_row _ _ _ _ _ _ (new_block w2 _)]
        match K, hK7 with
        | 0, _ => rfl
        | 1, _ => rfl
        | 2, _ => rfl
        | 3, _ => rfl
        | 4, _ => rfl
        | 5, _ => rfl
        | 6, _ => rfl
      generalize w2.alloc (.cells #[.string ⟨#[32, 41]⟩, .string ⟨#[32, 105, 110]⟩, .string ⟨#[32, 45, 62]⟩, .string ⟨#[32, 44, 32, 49]⟩, .string ⟨#[32, 123]⟩, .string ⟨#[32, 59]⟩, .string ⟨#[32, 46, 46]⟩] 9) = w3 at *
      refine (unhide HP w3).mono ?_
      rintro e1 w4 ⟨rfl, rfl⟩
      have hKi : (K : Int) < 7 := by omega
      have htl : (Tw.plcTail K).length ≤ 4 := by
        match K, hK7 with
        | 0, _ => decide
        | 1, _ => decide
        | 2, _ => decide
        | 3, _ => decide
        | 4, _ => decide
        | 5, _ => decide
        | 6, _ => decide
      have hts : (Tw.plcTail K).toArray.size ≤ 4 := by simpa using htl
      obtain ⟨tl, htl'⟩ : ∃ tl, Tw.plcTail K = tl := ⟨_, rfl⟩
      rw [htl'] at hcell htl hts
      have HTL := hide htl'
      clear htl'
      have happ : (s ++ (⟨tl.toArray⟩ : ByteArray)).data.toList = s.data.toList ++ tl := by simp
      have PQ : Hid (Tw.openS 6100 0 (s ++ (⟨tl.toArray⟩ : ByteArray)).data.toList = some (.fault (if K < 4 then 3 else 2) (s.size + 1))) := by
        show _ = _
        rw [happ, ← unhide HTL]
        exact unhide PP
      clear happ PP
      by_cases h4 : K < 4
      · have h4i : (K : Int) < 4 := by omega
        go_wp2_with fail
        refine (Open_any L.ib L.pi L.it (unhide PQ) w3).mono ?_
        rintro e1 w5 ⟨rfl, hk⟩
        rw [if_pos h4]
        have K5 := hide (grown_trans (grown_trans (unhide K2) (unhide A3)) hk.grown)
        clear hk
        go_wp2_with fail
        refine (unhide HP w5).mono ?_
        rintro e1 w6 ⟨rfl, rfl⟩
        go_wp2_with fail
        go_ret
        exact ⟨ret_bool (by simp), unhide K5⟩
      · have h4i : ¬ (K : Int) < 4 := by omega
        go_wp2_with fail
        refine (Open_any L.ib L.pi L.it (unhide PQ) w3).mono ?_
        rintro e1 w5 ⟨rfl, hk⟩
        rw [if_neg h4]
        have K5 := hide (grown_trans (grown_trans (unhide K2) (unhide A3)) hk.grown)
        clear hk
        go_wp2_with fail
        refine (unhide HP w5).mono ?_
        rintro e1 w6 ⟨rfl, rfl⟩
        go_wp2_with fail
        go_ret
        exact ⟨ret_bool (by simp), unhide K5⟩

end Go.Proofs.YtckhafpejefbbaaGreatDoor
