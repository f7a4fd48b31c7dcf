/- Texts of the proof, put together: DeepThy, PlcThy, Bound, RecThy, RecRun, Keep, Digits, RecFine, RecWalk, PlcWalk. -/
import Derived.Test.YtckhafpejefbbaaGreatDoorB17
import Derived.Test.YtckhafpejefbbaaGreatDoorB15
import Derived.Test.YtckhafpejefbbaaGreatDoorB13
import Derived.Deep.RegionHeld3

/- A tree that was read is not too deep. -/
namespace Go.Proofs.YtckhafpejefbbaaGreatDoor.Tw
open Go

theorem begin_deep {ts : List Tok} {s : Int} {st st' : PS} {k : Nat} (h : beginS ts s st = some (k, st')) (hs : st'.stuck = false) : st.depth ≠ 40 ∧ st'.depth = st.depth + 1 ∧ st.stuck = false := by
  have m := beginS_mild h
  refine ⟨fun e => ?_, m.2, m.1 hs⟩
  unfold beginS at h
  rw [if_pos e] at h
  obtain ⟨s1, h1, h⟩ := Option.bind_eq_some_iff.1 h
  split at h
  · obtain ⟨⟨t1, s2⟩, h2, h⟩ := Option.bind_eq_some_iff.1 h
    cases h
    have := (takeS_mild h2).1 hs
    simp only at this
    rw [(failS_stuck h1).1] at this
    cases this
  · cases h

theorem leaf_deep {l : List UInt8} {t : Tok} {x : T} (h : leafS l t = some x) : x.deep = 0 := by
  unfold leafS at h
  split at h
  · split at h
    · obtain ⟨v, _, h⟩ := Option.bind_eq_some_iff.1 h
      cases h; rfl
    · cases h
  · split at h
    · cases h; rfl
    · split at h
      · cases h; rfl
      · split at h
        · cases h; rfl
        · cases h

structure DAll (l : List UInt8) (ts : List Tok) (n : Nat) : Prop where
  expr : ∀ {st st' t}, exprS l ts n st = some (t, st') → st'.stuck = false → st.depth ≤ 40 → st.depth + t.deep ≤ 40
  lett : ∀ {st st' t}, letS l ts n st = some (t, st') → st'.stuck = false → st.depth ≤ 40 → st.depth + t.deep ≤ 40
  fn : ∀ {st st' t}, funS l ts n st = some (t, st') → st'.stuck = false → st.depth ≤ 40 → st.depth + t.deep ≤ 40
  cond : ∀ {st st' t}, condS l ts n st = some (t, st') → st'.stuck = false → st.depth ≤ 40 → st.depth + t.deep ≤ 40
  cmp : ∀ {st st' t}, cmpS l ts n st = some (t, st') → st'.stuck = false → st.depth ≤ 40 → st.depth + t.deep ≤ 40
  sum : ∀ {st st' t}, sumS l ts n st = some (t, st') → st'.stuck = false → st.depth ≤ 40 → st.depth + t.deep ≤ 40
  term : ∀ {st st' t}, termS l ts n st = some (t, st') → st'.stuck = false → st.depth ≤ 40 → st.depth + t.deep ≤ 40
  part : ∀ {p st st' t}, partS l ts n p st = some (t, st') → st'.stuck = false → st.depth ≤ 40 → st.depth + t.deep ≤ 40
  chain : ∀ {p g st st' t}, chainS l ts n p g st = some (t, st') → st'.stuck = false → st.depth ≤ 40 → st.depth + t.deep ≤ 40
  chainFrom : ∀ {p g a st st' t}, chainFromS l ts n p g a st = some (t, st') → st'.stuck = false → st.depth ≤ 40 → st.depth + a.deep ≤ 40 → st.depth + t.deep ≤ 40
  call : ∀ {st st' t}, callS l ts n st = some (t, st') → st'.stuck = false → st.depth ≤ 40 → st.depth + t.deep ≤ 40
  callFrom : ∀ {a st st' t}, callFromS l ts n a st = some (t, st') → st'.stuck = false → st.depth ≤ 40 → st.depth + a.deep ≤ 40 → st.depth + t.deep ≤ 40
  atom : ∀ {st st' t}, atomS l ts n st = some (t, st') → st'.stuck = false → st.depth ≤ 40 → st.depth + t.deep ≤ 40
  bracket : ∀ {st st' t}, bracketS l ts n st = some (t, st') → st'.stuck = false → st.depth ≤ 40 → st.depth + t.deep ≤ 40

theorem deep_all (l : List UInt8) (ts : List Tok) : ∀ n, DAll l ts n
  | 0 => by constructor <;> intros <;> first | (rename_i h _ _; simp [exprS, letS, funS, condS, cmpS, sumS, termS, partS, chainS, callS, atomS, bracketS] at h) | (rename_i h _ _ _; simp [chainFromS, callFromS] at h)
  | n + 1 => by
    have ih := deep_all l ts n
    have hM := mild_all l ts n
    constructor
    · intro st st' t h hs hd
      rw [exprS] at h
      obtain ⟨k, _, h⟩ := Option.bind_eq_some_iff.1 h
      split at h
      · exact ih.lett h hs hd
      · split at h
        · exact ih.fn h hs hd
        · split at h
          · exact ih.cond h hs hd
          · exact ih.cmp h hs hd
    · intro st st' t h hs hd
      rw [letS] at h
      obtain ⟨⟨b, s1⟩, h1, h⟩ := Option.bind_eq_some_iff.1 h
      obtain ⟨⟨rc, s2⟩, h2, h⟩ := Option.bind_eq_some_iff.1 h
      obtain ⟨⟨bd, s3⟩, h3, h⟩ := Option.bind_eq_some_iff.1 h
      obtain ⟨⟨e, s4⟩, h4, h⟩ := Option.bind_eq_some_iff.1 h
      obtain ⟨⟨d, s5⟩, h5, h⟩ := Option.bind_eq_some_iff.1 h
      obtain ⟨⟨i, s6⟩, h6, h⟩ := Option.bind_eq_some_iff.1 h
      obtain ⟨⟨x, s7⟩, h7, h⟩ := Option.bind_eq_some_iff.1 h
      obtain ⟨s8, h8, h⟩ := Option.bind_eq_some_iff.1 h
      simp only [Option.some.injEq, Prod.mk.injEq] at h h2 h3 h4 h5 h6 h7 h8
      obtain ⟨rfl, rfl⟩ := h
      have k7 : s7.stuck = false := by rw [← (endS_mild h8).1]; exact hs
      have k6 := (hM.expr h7).1 k7
      have k5 := (takeS_mild h6).1 k6
      have k4 := (hM.expr h5).1 k5
      have k3 := (takeS_mild h4).1 k4
      have k2 := (binderS_mild h3).1 k3
      have k1 := (takeAnyS_mild h2).1 k2
      obtain ⟨b1, b2, _⟩ := begin_deep h1 k1
      have e2 := (takeAnyS_mild h2).2
      have e3 := (binderS_mild h3).2
      have e4 := (takeS_mild h4).2
      have e5 := (hM.expr h5).2
      have e6 := (takeS_mild h6).2
      have D1 := ih.expr h5 k5 (by omega)
      have D2 := ih.expr h7 k7 (by omega)
      simp only [T.deep]
      omega
    · intro st st' t h hs hd
      rw [funS] at h
      obtain ⟨⟨b, s1⟩, h1, h⟩ := Option.bind_eq_some_iff.1 h
      obtain ⟨⟨bd, s3⟩, h3, h⟩ := Option.bind_eq_some_iff.1 h
      obtain ⟨⟨e, s4⟩, h4, h⟩ := Option.bind_eq_some_iff.1 h
      obtain ⟨⟨d, s5⟩, h5, h⟩ := Option.bind_eq_some_iff.1 h
      obtain ⟨s8, h8, h⟩ := Option.bind_eq_some_iff.1 h
      simp only [Option.some.injEq, Prod.mk.injEq] at h h3 h4 h5 h8
      obtain ⟨rfl, rfl⟩ := h
      have k5 : s5.stuck = false := by rw [← (endS_mild h8).1]; exact hs
      have k4 := (hM.expr h5).1 k5
      have k3 := (takeS_mild h4).1 k4
      have k1 := (binderS_mild h3).1 k3
      obtain ⟨b1, b2, _⟩ := begin_deep h1 k1
      have e3 := (binderS_mild h3).2
      have e4 := (takeS_mild h4).2
      have D1 := ih.expr h5 k5 (by omega)
      simp only [T.deep]
      omega
    · intro st st' t h hs hd
      rw [condS] at h
      obtain ⟨⟨b, s1⟩, h1, h⟩ := Option.bind_eq_some_iff.1 h
      obtain ⟨⟨c, s2⟩, h2, h⟩ := Option.bind_eq_some_iff.1 h
      obtain ⟨⟨e, s3⟩, h3, h⟩ := Option.bind_eq_some_iff.1 h
      obtain ⟨⟨d, s4⟩, h4, h⟩ := Option.bind_eq_some_iff.1 h
      obtain ⟨⟨i, s5⟩, h5, h⟩ := Option.bind_eq_some_iff.1 h
      obtain ⟨⟨x, s6⟩, h6, h⟩ := Option.bind_eq_some_iff.1 h
      obtain ⟨s8, h8, h⟩ := Option.bind_eq_some_iff.1 h
      simp only [Option.some.injEq, Prod.mk.injEq] at h h2 h3 h4 h5 h6 h8
      obtain ⟨rfl, rfl⟩ := h
      have k6 : s6.stuck = false := by rw [← (endS_mild h8).1]; exact hs
      have k5 := (hM.expr h6).1 k6
      have k4 := (takeS_mild h5).1 k5
      have k3 := (hM.expr h4).1 k4
      have k2 := (takeS_mild h3).1 k3
      have k1 := (hM.expr h2).1 k2
      obtain ⟨b1, b2, _⟩ := begin_deep h1 k1
      have e2 := (hM.expr h2).2
      have e3 := (takeS_mild h3).2
      have e4 := (hM.expr h4).2
      have e5 := (takeS_mild h5).2
      have D1 := ih.expr h2 k2 (by omega)
      have D2 := ih.expr h4 k4 (by omega)
      have D3 := ih.expr h6 k6 (by omega)
      simp only [T.deep]
      omega
    · intro st st' t h hs hd
      rw [cmpS] at h
      obtain ⟨⟨a, s1⟩, h1, h⟩ := Option.bind_eq_some_iff.1 h
      obtain ⟨⟨k, s2⟩, h2, h⟩ := Option.bind_eq_some_iff.1 h
      simp only at h2 h
      split at h
      · cases h
        exact ih.sum h1 ((takeAnyS_mild h2).1 hs) hd
      · obtain ⟨⟨b, s3⟩, h3, h⟩ := Option.bind_eq_some_iff.1 h
        cases h
        have k2 := (hM.sum h3).1 hs
        have k1 := (takeAnyS_mild h2).1 k2
        have e1 := (hM.sum h1).2
        have e2 := (takeAnyS_mild h2).2
        have D1 := ih.sum h1 k1 hd
        have D2 := ih.sum h3 hs (by omega)
        simp only [T.deep]
        omega
    · intro st st' t h hs hd
      rw [sumS] at h
      exact ih.chain h hs hd
    · intro st st' t h hs hd
      rw [termS] at h
      exact ih.chain h hs hd
    · intro p st st' t h hs hd
      cases p with
      | term => rw [partS] at h; exact ih.term h hs hd
      | call => rw [partS] at h; exact ih.call h hs hd
    · intro p g st st' t h hs hd
      rw [chainS] at h
      obtain ⟨⟨a, s1⟩, h1, h⟩ := Option.bind_eq_some_iff.1 h
      have k1 := (hM.chainFrom h).1 hs
      have e1 := (hM.part h1).2
      have D1 := ih.part h1 k1 hd
      have D2 := ih.chainFrom h hs (by simp only; omega) (by simp only; omega)
      simp only at D2
      omega
    · intro p g a st st' t h hs hd ha
      rw [chainFromS] at h
      obtain ⟨⟨k, s1⟩, h1, h⟩ := Option.bind_eq_some_iff.1 h
      simp only at h
      split at h
      · cases h; exact ha
      · obtain ⟨⟨b, s2⟩, h2, h⟩ := Option.bind_eq_some_iff.1 h
        have k2 := (hM.chainFrom h).1 hs
        have e1 := (takeAnyS_mild h1).2
        have e2 := (hM.part h2).2
        have D1 := ih.part h2 k2 (by omega)
        have D2 := ih.chainFrom h hs (by simp only; omega) (by simp only [T.deep]; omega)
        simp only at D2
        omega
    · intro st st' t h hs hd
      rw [callS] at h
      obtain ⟨⟨a, s1⟩, h1, h⟩ := Option.bind_eq_some_iff.1 h
      have k1 := (hM.callFrom h).1 hs
      have e1 := (hM.atom h1).2
      have D1 := ih.atom h1 k1 hd
      have D2 := ih.callFrom h hs (by simp only; omega) (by simp only; omega)
      simp only at D2
      omega
    · intro a st st' t h hs hd ha
      rw [callFromS] at h
      obtain ⟨k, _, h⟩ := Option.bind_eq_some_iff.1 h
      split at h
      · obtain ⟨⟨b, s2⟩, h2, h⟩ := Option.bind_eq_some_iff.1 h
        have k2 := (hM.callFrom h).1 hs
        have e2 := (hM.atom h2).2
        have D1 := ih.atom h2 k2 hd
        have D2 := ih.callFrom h hs (by simp only; omega) (by simp only [T.deep]; omega)
        simp only at D2
        omega
      · cases h; exact ha
    · intro st st' t h hs hd
      rw [atomS] at h
      obtain ⟨k, _, h⟩ := Option.bind_eq_some_iff.1 h
      split at h
      · exact ih.bracket h hs hd
      · split at h
        · obtain ⟨⟨r, s1⟩, h1, h⟩ := Option.bind_eq_some_iff.1 h
          obtain ⟨x, h2, h⟩ := Option.bind_eq_some_iff.1 h
          cases h
          rw [leaf_deep h2]
          exact hd
        · obtain ⟨s1, h1, h⟩ := Option.bind_eq_some_iff.1 h
          cases h
          exact hd
    · intro st st' t h hs hd
      rw [bracketS] at h
      obtain ⟨⟨b, s1⟩, h1, h⟩ := Option.bind_eq_some_iff.1 h
      obtain ⟨⟨x, s2⟩, h2, h⟩ := Option.bind_eq_some_iff.1 h
      obtain ⟨⟨c, s3⟩, h3, h⟩ := Option.bind_eq_some_iff.1 h
      simp only at h h2 h3
      have e2 := (hM.expr h2).2
      have e3 := (takeAnyS_mild h3).2
      split at h
      · obtain ⟨⟨y, s4⟩, h4, h⟩ := Option.bind_eq_some_iff.1 h
        obtain ⟨⟨r, s5⟩, h5, h⟩ := Option.bind_eq_some_iff.1 h
        obtain ⟨s8, h8, h⟩ := Option.bind_eq_some_iff.1 h
        simp only [Option.some.injEq, Prod.mk.injEq] at h h4 h5 h8
        obtain ⟨rfl, rfl⟩ := h
        have k5 : s5.stuck = false := by rw [← (endS_mild h8).1]; exact hs
        have k4 := (takeS_mild h5).1 k5
        have k3 := (hM.expr h4).1 k4
        have k2 := (takeAnyS_mild h3).1 k3
        have k1 := (hM.expr h2).1 k2
        obtain ⟨b1, b2, _⟩ := begin_deep h1 k1
        have D1 := ih.expr h2 k2 (by omega)
        have D2 := ih.expr h4 k4 (by omega)
        simp only [T.deep]
        omega
      · obtain ⟨⟨r, s5⟩, h5, h⟩ := Option.bind_eq_some_iff.1 h
        obtain ⟨s8, h8, h⟩ := Option.bind_eq_some_iff.1 h
        simp only [Option.some.injEq, Prod.mk.injEq] at h h5 h8
        obtain ⟨rfl, rfl⟩ := h
        have k5 : s5.stuck = false := by rw [← (endS_mild h8).1]; exact hs
        have k3 := (takeS_mild h5).1 k5
        have k2 := (takeAnyS_mild h3).1 k3
        have k1 := (hM.expr h2).1 k2
        obtain ⟨b1, b2, _⟩ := begin_deep h1 k1
        have D1 := ih.expr h2 k2 (by omega)
        simp only [T.deep]
        omega

theorem parse_deep {l : List UInt8} {ts : List Tok} {n : Nat} {t : T} (h : parseS l ts n = some (.ok t)) : t.deep ≤ 40 := by
  unfold parseS at h
  obtain ⟨⟨x, s1⟩, hx, h⟩ := Option.bind_eq_some_iff.1 h
  obtain ⟨⟨k, s2⟩, hk, h⟩ := Option.bind_eq_some_iff.1 h
  simp only [Option.some.injEq] at h hk
  have hs2 : s2.stuck = false := by
    cases hq : s2.stuck
    · rfl
    · rw [hq] at h; simp at h
  rw [hs2] at h
  simp only [Bool.false_eq_true, if_false, Except.ok.injEq] at h
  subst h
  have := (deep_all l ts n).expr hx ((takeS_mild hk).1 hs2) (by simp)
  simpa using this

end Go.Proofs.YtckhafpejefbbaaGreatDoor.Tw

/- Open's twin answers; what cannot stand behind a text is told at its place. -/
namespace Go.Proofs.YtckhafpejefbbaaGreatDoor.Tw
open Go

theorem weight_tot : ∀ (t : T) (env : List (List UInt8)) (we : WEn), t.freeS env = none → (∀ x, env.contains x = true → ∃ k, we.look x = some k) → ∃ w, weightS t we = some w
  | .name fr to x, env, we, h, hE => by
    simp only [T.freeS] at h
    split at h
    · rename_i hx
      obtain ⟨k, hk⟩ := hE x hx
      exact ⟨_, by simp only [weightS]; rw [hk]; rfl⟩
    · cases h
  | .int .., _, _, _, _ => ⟨_, rfl⟩
  | .truth .., _, _, _, _ => ⟨_, rfl⟩
  | .side .., _, _, _, _ => ⟨_, rfl⟩
  | .bracket _ _ i, env, we, h, hE => by
    obtain ⟨w, hw⟩ := weight_tot i env we h hE
    exact ⟨_, by simp only [weightS]; rw [hw]; rfl⟩
  | .pair _ _ l r, env, we, h, hE => by
    simp only [T.freeS, Option.or_eq_none_iff] at h
    obtain ⟨w1, h1⟩ := weight_tot l env we h.1 hE
    obtain ⟨w2, h2⟩ := weight_tot r env we h.2 hE
    exact ⟨_, by simp only [weightS]; rw [h1, h2]; rfl⟩
  | .call _ _ l r, env, we, h, hE => by
    simp only [T.freeS, Option.or_eq_none_iff] at h
    obtain ⟨w1, h1⟩ := weight_tot l env we h.1 hE
    obtain ⟨w2, h2⟩ := weight_tot r env we h.2 hE
    exact ⟨_, by simp only [weightS]; rw [h1, h2]; rfl⟩
  | .binary _ _ _ l r, env, we, h, hE => by
    simp only [T.freeS, Option.or_eq_none_iff] at h
    obtain ⟨w1, h1⟩ := weight_tot l env we h.1 hE
    obtain ⟨w2, h2⟩ := weight_tot r env we h.2 hE
    exact ⟨_, by simp only [weightS]; rw [h1, h2]; rfl⟩
  | .cond _ _ c t f, env, we, h, hE => by
    simp only [T.freeS, Option.or_eq_none_iff] at h
    obtain ⟨w1, h1⟩ := weight_tot c env we h.1.1 hE
    obtain ⟨w2, h2⟩ := weight_tot t env we h.1.2 hE
    obtain ⟨w3, h3⟩ := weight_tot f env we h.2 hE
    exact ⟨_, by simp only [weightS]; rw [h1, h2, h3]; rfl⟩
  | .fn _ _ bn _ b, env, we, h, hE => by
    have hE' : ∀ x, (bn :: env).contains x = true → ∃ k, (WEn.cons bn 1 we).look x = some k := fun x hx => by
      simp only [WEn.look]
      by_cases hb : bn = x
      · exact ⟨1, by rw [if_pos hb]⟩
      · rw [if_neg hb]
        simp only [List.contains_cons, Bool.or_eq_true, beq_iff_eq] at hx
        exact hx.elim (fun h => absurd h.symm hb) (hE x)
    obtain ⟨w, hw⟩ := weight_tot b (bn :: env) _ h hE'
    exact ⟨_, by simp only [weightS]; rw [hw]; rfl⟩
  | .lett _ _ rc bn _ d b, env, we, h, hE => by
    have hE' : ∀ k x, (bn :: env).contains x = true → ∃ k', (WEn.cons bn k we).look x = some k' := fun k x hx => by
      simp only [WEn.look]
      by_cases hb : bn = x
      · exact ⟨k, by rw [if_pos hb]⟩
      · rw [if_neg hb]
        simp only [List.contains_cons, Bool.or_eq_true, beq_iff_eq] at hx
        exact hx.elim (fun h => absurd h.symm hb) (hE x)
    simp only [T.freeS, Option.or_eq_none_iff] at h
    obtain ⟨w1, h1⟩ : ∃ w, weightS d (if rc then .cons bn 1 we else we) = some w := by
      cases rc with
      | true => exact weight_tot d (bn :: env) _ h.1 (hE' 1)
      | false => exact weight_tot d env _ h.1 hE
    obtain ⟨w2, h2⟩ := weight_tot b (bn :: env) (.cons bn w1 we) h.2 (hE' w1)
    exact ⟨_, by simp only [weightS]; rw [h1]; simp only [Option.bind_some]; rw [h2]; rfl⟩

theorem tree_tot (t : T) : ∃ n0 res, ∀ n, n0 ≤ n → treeS n t = some res := by
  cases hf : t.freeS [] with
  | some p => exact ⟨0, .fault 4 p, fun n _ => by rw [treeS, hf]⟩
  | none =>
    obtain ⟨w, hw⟩ := weight_tot t [] .nil hf (by simp)
    by_cases hl : 2000 < w
    · exact ⟨0, .fault 10 0, fun n _ => by rw [treeS, hf]; simp only; rw [hw]; simp only [Option.bind_some]; rw [if_pos hl]⟩
    · obtain ⟨n0, r, g, _⟩ := of_spec hw (by omega)
      cases r with
      | none => exact ⟨n0, .fault 5 0, fun n hn => by rw [treeS, hf]; simp only; rw [hw]; simp only [Option.bind_some]; rw [if_neg hl, g n hn]; rfl⟩
      | some sh => exact ⟨n0, .fine t sh, fun n hn => by rw [treeS, hf]; simp only; rw [hw]; simp only [Option.bind_some]; rw [if_neg hl, g n hn]; rfl⟩

theorem open_tot (l : List UInt8) : ∃ fo res, ∀ n, fo ≤ n → openS 6100 n l = some res := by
  by_cases hl : 300 < l.length
  · exact ⟨0, .fault 1 0, fun n _ => by rw [openS, if_pos hl]⟩
  · cases hs : split l with
    | error p => exact ⟨0, .fault 2 p, fun n _ => by rw [openS, if_neg hl, readS, hs]⟩
    | ok ts =>
      obtain ⟨r, hr⟩ := parse_tot (split_good hs (by omega)) 6100 (by omega)
      cases r with
      | error p => exact ⟨0, .fault 3 p, fun n _ => by rw [openS, if_neg hl, readS, hs]; simp only; rw [hr]; rfl⟩
      | ok t =>
        obtain ⟨n0, res, g⟩ := tree_tot t
        exact ⟨n0, res, fun n hn => by rw [openS, if_neg hl, readS, hs]; simp only; rw [hr]; exact g n hn⟩

theorem fine_parts {fp fo : Nat} {l : List UInt8} {t : T} {sh : List UInt8} (h : openS fp fo l = some (.fine t sh)) : l.length ≤ 300 ∧ ∃ body, Lex 0 l body ∧ split l = .ok (body ++ [⟨0, l.length, l.length⟩]) ∧ parseS l (body ++ [⟨0, l.length, l.length⟩]) fp = some (.ok t) ∧ treeS fo t = some (.fine t sh) := by
  unfold openS at h
  split at h
  · cases h
  · rename_i hl
    refine ⟨by omega, ?_⟩
    unfold readS at h
    cases hs : split l with
    | error p => rw [hs] at h; cases h
    | ok ts =>
      rw [hs] at h
      simp only [Option.bind_eq_some_iff] at h
      obtain ⟨r, hr, h⟩ := h
      cases r with
      | error p => cases h
      | ok t' =>
        obtain ⟨body, hL, rfl⟩ := split_ok_iff.1 hs
        have e : t' = t := by
          simp only at h
          unfold treeS at h
          split at h
          · cases h
          · simp only [Option.bind_eq_some_iff] at h
            obtain ⟨k, _, h⟩ := h
            split at h
            · cases h
            · simp only [Option.bind_eq_some_iff] at h
              obtain ⟨o, _, h⟩ := h
              cases o with
              | none => cases h
              | some s => cases h; rfl
        subst e
        exact ⟨body, hL, rfl, hr, h⟩

end Go.Proofs.YtckhafpejefbbaaGreatDoor.Tw

/- Every name is bound: by a plain function. -/
namespace Go.Proofs.YtckhafpejefbbaaGreatDoor
open Go.RowKit

theorem look_cons {e : Tw.BEn} {env : List (List UInt8)} (hE : ∀ x, env.contains x = true → ∃ a, e.look x = some a) (bn : List UInt8) (k : Addr) : ∀ x, (bn :: env).contains x = true → ∃ a, (Tw.BEn.cons bn k e).look x = some a := by
  intro x hx
  simp only [Tw.BEn.look]
  by_cases h : bn = x
  · exact ⟨k, by rw [if_pos h]⟩
  · rw [if_neg h]
    refine hE x ?_
    simp only [List.contains_cons, Bool.or_eq_true, beq_iff_eq] at hx
    rcases hx with hx | hx
    · exact absurd hx.symm h
    · exact hx

theorem NL.bound {w : World} {hi : Nat} : ∀ {t : Tw.T} {v : Value} {e : Tw.BEn} {L : List NB} {env : List (List UInt8)}, NL w hi t v e L → t.boundS env = true → (∀ x, env.contains x = true → ∃ a, e.look x = some a) → ∀ y ∈ L, ∃ a, y.k = some a
  | .name fr to x, _, _, _, _, ⟨b, _, rfl⟩, h, hE => by
    intro y hy
    simp only [List.mem_singleton] at hy
    subst hy
    exact hE x h
  | .int .., _, _, _, _, ⟨_, rfl⟩, _, _ => by simp
  | .truth .., _, _, _, _, ⟨_, rfl⟩, _, _ => by simp
  | .side .., _, _, _, _, ⟨_, rfl⟩, _, _ => by simp
  | .bracket _ _ i, _, _, _, _, ⟨v1, _, r1⟩, h, hE => NL.bound r1 (by simpa [Tw.T.boundS] using h) hE
  | .pair .., _, _, _, _, ⟨v1, v2, L1, L2, _, r1, r2, rfl⟩, h, hE => by
    simp only [Tw.T.boundS, Bool.and_eq_true] at h
    intro y hy
    rcases List.mem_append.1 hy with hy | hy
    · exact NL.bound r1 h.1 hE y hy
    · exact NL.bound r2 h.2 hE y hy
  | .call .., _, _, _, _, ⟨v1, v2, L1, L2, _, r1, r2, rfl⟩, h, hE => by
    simp only [Tw.T.boundS, Bool.and_eq_true] at h
    intro y hy
    rcases List.mem_append.1 hy with hy | hy
    · exact NL.bound r1 h.1 hE y hy
    · exact NL.bound r2 h.2 hE y hy
  | .binary .., _, _, _, _, ⟨v1, v2, L1, L2, _, r1, r2, rfl⟩, h, hE => by
    simp only [Tw.T.boundS, Bool.and_eq_true] at h
    intro y hy
    rcases List.mem_append.1 hy with hy | hy
    · exact NL.bound r1 h.1 hE y hy
    · exact NL.bound r2 h.2 hE y hy
  | .cond .., _, _, _, _, ⟨v1, v2, v3, L1, L2, L3, _, r1, r2, r3, rfl⟩, h, hE => by
    simp only [Tw.T.boundS, Bool.and_eq_true] at h
    intro y hy
    rcases List.mem_append.1 hy with hy | hy
    · rcases List.mem_append.1 hy with hy | hy
      · exact NL.bound r1 h.1 hE y hy
      · exact NL.bound r2 h.2.1 hE y hy
    · exact NL.bound r3 h.2.2 hE y hy
  | .fn .., _, _, _, _, ⟨k, v1, _, r1⟩, h, hE => NL.bound r1 (by simpa [Tw.T.boundS] using h) (look_cons hE _ _)
  | .lett fr to rc bn bat d b, _, _, _, _, ⟨k, v1, v2, L1, L2, _, r1, r2, rfl⟩, h, hE => by
    simp only [Tw.T.boundS, Bool.and_eq_true] at h
    intro y hy
    rcases List.mem_append.1 hy with hy | hy
    · cases rc
      · exact NL.bound r1 h.1 hE y hy
      · exact NL.bound r1 h.1 (look_cons hE _ _) y hy
    · exact NL.bound r2 h.2 (look_cons hE _ _) y hy

theorem allBound_of {t : Tw.T} (h : t.boundS [] = true) : AllBound t := fun _ _ _ _ hn => hn.bound h (by simp)

end Go.Proofs.YtckhafpejefbbaaGreatDoor

/- The text of Recursive: its tokens, its tree, its runs. -/
namespace Go.Proofs.YtckhafpejefbbaaGreatDoor.Tw
open Go Go.RowKit

end Go.Proofs.YtckhafpejefbbaaGreatDoor.Tw

/- The runs of Recursive's text. -/
namespace Go.Proofs.YtckhafpejefbbaaGreatDoor.Tw
open Go Go.RowKit

end Go.Proofs.YtckhafpejefbbaaGreatDoor.Tw

/- Package tailorkeep: pick, open, awake. -/
namespace Go.Proofs.YtckhafpejefbbaaGreatDoor
open Go.RowKit

theorem tmod_nat (x : Int) (n : Nat) (hx : 0 ≤ x) (hn : 0 < n) : ∃ r : Nat, x.tmod n = r ∧ r < n := by
  refine ⟨(x.tmod n).toNat, ?_, ?_⟩
  · rw [Int.tmod_eq_emod_of_nonneg hx]
    have := Int.emod_nonneg x (show (n : Int) ≠ 0 by omega)
    omega
  · rw [Int.tmod_eq_emod_of_nonneg hx]
    have := Int.emod_nonneg x (show (n : Int) ≠ 0 by omega)
    have := Int.emod_lt_of_pos x (show (0 : Int) < n by omega)
    omega

set_option maxRecDepth 100000 in
set_option maxHeartbeats 1000000 in
theorem kopen_fine (hIB : Said.IndexByte) (hPI : Said.ParseInt) {S : List TypeId} {t : Tw.T} {shown : List UInt8} {s : ByteArray} (hF : Fine S s t shown) (w : World) :
    Calls Tryz.prog 19 #[.string s] w fun e w' => ∃ bt, e = .returned (.pointer (some ⟨bt, 0, none⟩)) ∧ TextAt w' bt s t ∧ TK w.heap.size S w w' := by
  go_enter Tryz.func19, Tryz.ntmps19
  go_wp2_with fail
  refine (Open_fine hIB hPI hF w).mono ?_
  rintro e1 w1 ⟨bt, rfl, hT, hk⟩
  have T1 := hide hT
  have K1 := hide hk
  clear hT hk
  go_wp2_with fail
  refine (Source_any (unhide T1)).mono ?_
  rintro e1 w2 ⟨rfl, rfl⟩
  go_wp2_with fail
  go_ret
  exact ⟨bt, rfl, unhide T1, unhide K1⟩

structure Lib4 : Prop where
  ib : Said.IndexByte
  pi : Said.ParseInt
  fi : Said.FormatInt
  fb : Said.FormatBool

def intB (fuel : Nat) (t : Tw.T) : Bool :=
  match Tw.inferS fuel t .nil ss0 with
  | some (r, st1) => !st1.clash && (match Tw.endlessS fuel st1 with
    | some (false, st2) => (match Tw.findS fuel st2 r with
      | some (p, st3) => (match st3.shs[p]? with
        | some x => decide (x.sort = 1)
        | none => false)
      | none => false)
    | _ => false)
  | none => false

theorem intTyped_of {fuel : Nat} {t : Tw.T} (h : intB fuel t = true) : IntTyped t := by
  unfold intB at h
  split at h
  · rename_i r st1 h1
    simp only [Bool.and_eq_true, Bool.not_eq_true'] at h
    obtain ⟨h2, h⟩ := h
    split at h
    · rename_i st2 h3
      split at h
      · rename_i p st3 h4
        split at h
        · rename_i x h5
          exact ⟨fuel, r, p, st1, st2, st3, x, h1, h2, h3, h4, h5, of_decide_eq_true h⟩
        · cases h
      · cases h
    · cases h
  · cases h

def txA : ByteArray := ⟨#[40, 102, 117, 110, 32, 120, 32, 45, 62, 32, 120, 32, 43, 32, 49, 41, 32, 52]⟩
def tA : Tw.T := .call 0 18 (.bracket 0 16 (.fn 1 15 [120] 5 (.binary 10 15 19 (.name 10 11 [120]) (.int 14 15 1)))) (.int 17 18 4)
def toksA : List Tw.Tok := [⟨16, 0, 1⟩, ⟨6, 1, 4⟩, ⟨1, 5, 6⟩, ⟨14, 7, 9⟩, ⟨1, 10, 11⟩, ⟨19, 12, 13⟩, ⟨2, 14, 15⟩, ⟨17, 15, 16⟩, ⟨2, 17, 18⟩, ⟨0, 18, 18⟩]

theorem splitA : Tw.split txA.data.toList = .ok toksA := by kernel_rfl
theorem parseA : Tw.parseS txA.data.toList toksA 100 = some (.ok tA) := by kernel_rfl
theorem weightA : Tw.weightS tA .nil = some 7 := by kernel_rfl
theorem boundA : tA.boundS [] = true := by kernel_rfl
theorem intA : intB 100 tA = true := by kernel_rfl
theorem told_num {v : Nat} (hv : v < 10 ^ 18) : Tw.toldS 400 (Tw.writeV (.num v) []) = Lib.decDigits v := by
  have hl := decDigits_len 17 v hv
  have e : Lib.itoa (v : Int) = Lib.decDigits v := by
    unfold Lib.itoa
    rw [if_neg (by omega)]
    simp
  unfold Tw.writeV
  rw [if_neg (by simp), Tw.putS, if_neg (by simp), List.nil_append, e, Tw.toldS, if_neg (by omega)]

theorem runA : Tw.runS 100 tA 5 = some (0, 1, [53]) := by
  have : Tw.evalS 5 100 tA [] ⟨[], 0, 0⟩ = some (some (.num (5 : Nat)), ⟨[some (.num 4)], 1, 0⟩) := by kernel_rfl
  rw [Tw.runS, this, Option.bind_some]
  simp only
  rw [told_num (by decide), show Lib.decDigits 5 = [53] from by unfold Lib.decDigits; rfl]

theorem fineA : Fine ShS txA tA [105, 110, 116] := ⟨by decide, ⟨toksA, 100, splitA, parseA⟩, allBound_of boundA, ⟨7, weightA, by omega⟩, (intTyped_of intA).said, by decide⟩

abbrev LawS : List TypeId := [128, 334, 329, 5, 311, 117]

theorem three_new (w : World) (x y z : Value) (t : TypeId) : (w.alloc (.cells #[x, y, z] t)).heap[w.heap.size]? = some (.cells #[x, y, z] t (0, 0)) := new_block w _

set_option maxRecDepth 100000 in
set_option maxHeartbeats 2000000 in
theorem awake_any (L : Lib4) {w : World} (hT : Tab w) (hG : 1 < w.heap.size) :
    Calls Tryz.prog 15 #[] w fun e w' => e = .returned (.bool true) ∧ TK w.heap.size LawS w w' := by
  have HT := hide hT
  clear hT
  go_enter Tryz.func15, Tryz.ntmps15
  go_wp2_with fail
  refine (kopen_fine L.ib L.pi fineA w).mono ?_
  rintro e1 w1 ⟨bt, rfl, hX, hk⟩
  have X1 := hide hX
  have K1 := hide (hk.sub (S' := LawS) (by decide))
  have z1 := hk.size
  clear hX hk
  go_wp2_with fail
  refine (Run_any L.fi L.fb 5 (unhide X1) ((unhide HT).tk (unhide K1) hG) (by omega) (show Tw.runS 100 tA (budget 5) = some (0, 1, [53]) from runA)).mono ?_
  rintro e1 w2 ⟨rfl, hk⟩
  have z2 := hk.size
  have K2 := hide ((unhide K1).trans ((hk.base z1).sub (by decide)))
  have X2 := hide ((unhide X1).tk hk (by decide))
  clear hk
  go_wp2_with fail
  have G2 : Hid (w2.grownBy (w2.alloc (.cells #[.int .i64 0, .int .i64 1, .string ⟨#[53]⟩] 39)) none) := World.grownBy_alloc _ _ none
  refine (Type_any (S := ShS) ((unhide X2).tk (TK.of_grown 0 ShS G2.out) (by decide)) fineA.of).mono ?_
  rintro e1 w3 ⟨rfl, hk⟩
  have K3 := hide (((unhide K2).trans (TK.of_grown _ _ G2.out)).trans ((hk.base (by have := G2.out.size; omega)).sub (S' := LawS) (by decide)))
  have C3 := hk.cells (three_new w2 (.int .i64 0) (.int .i64 1) (.string ⟨#[53]⟩) 39) (by decide)
  obtain ⟨c0, c1, c2, _, _, _⟩ := three_cells C3
  clear hk C3
  go_wp2_with fail
  go_ret
  exact ⟨rfl, unhide K3⟩

end Go.Proofs.YtckhafpejefbbaaGreatDoor

/- tailorkeep.digits. -/
namespace Go.Proofs.YtckhafpejefbbaaGreatDoor
open Go.RowKit

def DigRel (u x : Nat) (acc : List UInt8) : Prop := (acc = [] ∧ x = u) ∨ (acc ≠ [] ∧ Lib.decDigits u = (if x = 0 then acc else Lib.decDigits x ++ acc))

theorem DigRel.step {u x : Nat} {acc : List UInt8} (h : DigRel u x acc) (hx : 0 < x ∨ acc = []) : DigRel u (x / 10) (UInt8.ofNat (48 + x % 10) :: acc) := by
  refine .inr ⟨by simp, ?_⟩
  have e : Lib.decDigits u = Lib.decDigits x ++ acc := by
    rcases h with ⟨rfl, rfl⟩ | ⟨ha, h⟩
    · simp
    · rcases hx with hx | hx
      · rw [h, if_neg (by omega)]
      · exact absurd hx ha
  rw [e]
  by_cases h10 : x < 10
  · rw [if_pos (by omega)]
    have : Lib.decDigits x = [UInt8.ofNat (48 + x)] := by unfold Lib.decDigits; rw [dif_pos h10]
    rw [this, show x % 10 = x from by omega]
    rfl
  · rw [if_neg (by omega)]
    have : Lib.decDigits x = Lib.decDigits (x / 10) ++ [UInt8.ofNat (48 + x % 10)] := by
      conv => lhs; unfold Lib.decDigits
      rw [dif_neg h10]
    rw [this, List.append_assoc]
    rfl

theorem DigRel.done {u x : Nat} {acc : List UInt8} (h : DigRel u x acc) (hx : x = 0) (ha : acc ≠ []) : acc = Lib.decDigits u := by
  rcases h with ⟨h, _⟩ | ⟨_, h⟩
  · exact absurd h ha
  · rw [h, if_pos hx]

theorem DigRel.len {u x : Nat} {acc : List UInt8} (h : DigRel u x acc) (hu : u < 9223372036854775808) : acc.length ≤ 19 := by
  have hl := (decDigits_len 18 u (by omega)).2
  rcases h with ⟨rfl, _⟩ | ⟨_, h⟩
  · simp
  · rw [h] at hl
    split at hl
    · exact hl
    · simp at hl
      omega

end Go.Proofs.YtckhafpejefbbaaGreatDoor

/- The text of Recursive is fine: its type, its two runs. -/
namespace Go.Proofs.YtckhafpejefbbaaGreatDoor
open Go.RowKit

structure Dig (u : Nat) (d : List UInt8) : Prop where
  val : Tw.valueS d = some (u : Int)
  dig : ∀ c ∈ d, Tw.digitI c.toNat = true
  pos : 1 ≤ d.length
  len : d.length ≤ 3
  ne : d ≠ []

end Go.Proofs.YtckhafpejefbbaaGreatDoor

/- tailorkeep.Recursive. -/
namespace Go.Proofs.YtckhafpejefbbaaGreatDoor
open Go.RowKit

end Go.Proofs.YtckhafpejefbbaaGreatDoor

/- tailorkeep.Placed. -/
namespace Go.Proofs.YtckhafpejefbbaaGreatDoor
open Go.RowKit

set_option maxRecDepth 100000 in
set_option maxHeartbeats 1000000 in
theorem pick_det (c : Int) (n : Nat) (h0 : -9223372036854775808 ≤ c) (h1 : c ≤ 9223372036854775807) (hn : 0 < n) (hn2 : n ≤ 1000000) :
    ∃ r : Nat, r < n ∧ ∀ w : World, Calls Tryz.prog 17 #[.int .i64 c, .int .i64 n] w fun e w' => e = .returned (.int .i64 r) ∧ w = w' := by
  have hz : ((n : Int) == 0) = false := by simp; omega
  have hn0 : (n : Int) ≠ 0 := by omega
  by_cases hc : c < 0
  · obtain ⟨r, hr, hr2⟩ := tmod_nat (-(c + 1)) n (by omega) hn
    rw [Int.neg_tmod] at hr
    refine ⟨r, hr2, fun w => ?_⟩
    go_enter Tryz.func17, Tryz.ntmps17
    go_wp2_with fail
    go_ret
    exact ⟨rfl, rfl⟩
  · obtain ⟨r, hr, hr2⟩ := tmod_nat c n (by omega) hn
    refine ⟨r, hr2, fun w => ?_⟩
    go_enter Tryz.func17, Tryz.ntmps17
    go_wp2_with fail
    go_ret
    exact ⟨rfl, rfl⟩

structure Lib5 : Prop extends Lib4 where
  it : Said.ItoaSmall

end Go.Proofs.YtckhafpejefbbaaGreatDoor
