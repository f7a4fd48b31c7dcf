/- Texts of the proof, put together: TyThy4, TyThy5, TyThy6, Weight, Parts, Weight2. -/
import Derived.Test.YtckhafpejefbbaaGreatDoorB10
import Derived.Test.YtckhafpejefbbaaGreatDoorB09
import Derived.Deep.LoopGhost

/- infer finds the types that there are: its steps. -/
namespace Go.Proofs.YtckhafpejefbbaaGreatDoor.Tw
open Go

theorem IGood.iff {run : Nat → SS → Option (Nat × SS)} {J J' : TEn → Ty → Prop} {e : En} {k : Nat} (h : IGood run J e k) (hJ : ∀ ρ a, J ρ a ↔ J' ρ a) : IGood run J' e k := fun st f W b hb hl => by
  obtain ⟨n0, r, st', h1, h2⟩ := h st f W b hb hl
  exact ⟨n0, r, st', h1, { h2 with sound := fun s => ⟨(h2.sound s).1, (hJ _ _).1 (h2.sound s).2⟩, complete := fun s j => h2.complete s ((hJ _ _).2 j) }⟩

theorem IGood.shift {run run' : Nat → SS → Option (Nat × SS)} {J : TEn → Ty → Prop} {e : En} {k : Nat} (h : IGood run J e k) (hr : ∀ n st, run' (n + 1) st = run n st) : IGood run' J e k := fun st f W b hb hl => by
  obtain ⟨n0, r, st', h1, h2⟩ := h st f W b hb hl
  refine ⟨n0 + 1, r, st', fun n hn => ?_, h2⟩
  obtain ⟨m, rfl⟩ : ∃ m, n = m + 1 := ⟨n - 1, by omega⟩
  rw [hr]
  exact h1 m (by omega)

theorem const_good (c : Nat) (a : Ty) (hc : (c = 0 ∧ a = .int) ∨ (c = 1 ∧ a = .bool)) (e : En) : IGood (fun _ st => some (c, st)) (fun _ τ => τ = a) e 0 := fun st f W b hb hl => by
  have hv : ∀ {v : Nat → Ty}, st.sat v → v c = a := fun s => by
    have := b.vals s
    rcases hc with ⟨rfl, rfl⟩ | ⟨rfl, rfl⟩
    · exact this.1
    · exact this.2
  refine ⟨0, c, st, fun _ _ => rfl, ⟨⟨f, W⟩, by have := b.len; omega, Nat.le_refl _, Nat.le_refl _, b, id, fun h _ => h, fun s => ⟨s, hv s⟩, fun {v τ} s h => ⟨v, fun _ _ => rfl, s, by rw [h]; exact hv s⟩⟩⟩

theorem pair_good {run1 run2 : Nat → SS → Option (Nat × SS)} {J1 J2 : TEn → Ty → Prop} {e : En} {k1 k2 : Nat} (h1 : IGood run1 J1 e k1) (h2 : IGood run2 J2 e k2) :
    IGood (fun n st => (run1 n st).bind fun a => (run2 n a.2).bind fun b => addS 4 a.1 b.1 b.2) (fun ρ τ => ∃ a b, J1 ρ a ∧ J2 ρ b ∧ τ = .pair a b) e (k1 + k2 + 1) := fun st f W b hb hl => by
  obtain ⟨n1, r1, st1, g1, I1⟩ := h1 st f W b hb (by omega)
  obtain ⟨f1, W1⟩ := I1.wf
  have l1 := I1.low
  have u1 := I1.high
  obtain ⟨n2, r2, st2, g2, I2⟩ := h2 st1 f1 W1 I1.base (hb.mono l1) (by omega)
  obtain ⟨f2, W2⟩ := I2.wf
  have l2 := I2.low
  have u2 := I2.high
  have hr1 := I1.lt
  have hr2 := I2.lt
  obtain ⟨st3, g3, A⟩ := add_ok W2 (of := 4) (l := r1) (r := r2) (by omega) (by omega) (by omega) (fun _ h => absurd rfl h) (by omega)
  refine ⟨max n1 n2, st2.shs.length, st3, fun n hn => ?_, ⟨A.wf, by rw [A.len]; omega, by rw [A.len]; omega, by rw [A.len]; omega, A.base I2.base, fun h => I1.clash (I2.clash (A.clash.symm.trans h)), fun c h => A.closed (I2.closed (I1.closed c (I2.clash (A.clash.symm.trans h))) (A.clash.symm.trans h)), fun {v} s => ?_, fun {v τ} s ⟨a, c, ja, jc, hτ⟩ => ?_⟩⟩
  · show Option.bind _ _ = _
    rw [g1 n (by omega)]
    simp only [Option.bind_some]
    rw [g2 n (by omega)]
    exact g3
  · obtain ⟨s2, hx⟩ := A.sat.1 s
    obtain ⟨s1, j2⟩ := I2.sound s2
    obtain ⟨s0, j1⟩ := I1.sound s1
    exact ⟨s0, _, _, j1, j2, hx.2.2.2 rfl⟩
  · obtain ⟨v1, ag1, s1, e1⟩ := I1.complete s ja
    obtain ⟨v2, ag2, s2, e2⟩ := I2.complete s1 (a := c) (by rw [En.val_agree ag1 hb]; exact jc)
    obtain ⟨v3, ag3, s3, e3⟩ := A.put W2 s2 (a := τ) (by
      refine ⟨fun h => by simp at h, fun h => by simp at h, fun h => by simp at h, fun _ => ?_⟩
      simp only [upd, if_true]
      rw [if_neg (by omega), if_neg (by omega), ag2 r1 hr1, e1, e2, hτ])
    exact ⟨v3, (ag1.trans ag2 l1).trans ag3 (by omega), s3, e3⟩

theorem call_good {run1 run2 : Nat → SS → Option (Nat × SS)} {J1 J2 : TEn → Ty → Prop} {e : En} {k1 k2 : Nat} (h1 : IGood run1 J1 e k1) (h2 : IGood run2 J2 e k2) :
    IGood (fun n st => (run1 n st).bind fun x => (run2 n x.2).bind fun y => (addS 0 0 0 y.2).bind fun to => (addS 3 y.1 to.1 to.2).bind fun fa => (unifyS n fa.2 x.1 fa.1).bind fun st' => some (to.1, st'))
      (fun ρ τ => ∃ a, J1 ρ (.fn a τ) ∧ J2 ρ a) e (k1 + k2 + 2) := fun st f W b hb hl => by
  obtain ⟨n1, r1, st1, g1, I1⟩ := h1 st f W b hb (by omega)
  obtain ⟨f1, W1⟩ := I1.wf
  have l1 := I1.low
  have u1 := I1.high
  obtain ⟨n2, r2, st2, g2, I2⟩ := h2 st1 f1 W1 I1.base (hb.mono l1) (by omega)
  obtain ⟨f2, W2⟩ := I2.wf
  have l2 := I2.low
  have u2 := I2.high
  have hr1 := I1.lt
  have hr2 := I2.lt
  obtain ⟨st3, g3, A3⟩ := add_ok W2 (of := 0) (l := 0) (r := 0) (by omega) (by omega) (by omega) (fun _ _ => ⟨rfl, rfl⟩) (by omega)
  obtain ⟨f3, W3⟩ := A3.wf
  have e3 := A3.len
  obtain ⟨st4, g4, A4⟩ := add_ok W3 (of := 3) (l := r2) (r := st2.shs.length) (by omega) (by omega) (by omega) (fun h => absurd rfl h) (by omega)
  obtain ⟨f4, W4⟩ := A4.wf
  have e4 := A4.len
  obtain ⟨n5, st5, g5, U⟩ := unify_ok W4 (a := r1) (b := st3.shs.length) (by omega) (by omega)
  have cl : st5.clash = false → st2.clash = false := fun h => A3.clash.symm.trans (A4.clash.symm.trans (U.clash h))
  refine ⟨max (max n1 n2) n5, st2.shs.length, st5, fun n hn => ?_, ⟨U.wf, by rw [U.len]; omega, by rw [U.len]; omega, by rw [U.len]; omega, U.base (A4.base (A3.base I2.base)), fun h => I1.clash (I2.clash (cl h)), fun c h => U.closed ((A4.closed (A3.closed (I2.closed (I1.closed c (I2.clash (cl h))) (cl h)))).more (by simp)) h, fun {v} s => ?_, fun {v τ} s ⟨a, j1, j2⟩ => ?_⟩⟩
  · show Option.bind _ _ = _
    rw [g1 n (by omega)]
    simp only [Option.bind_some]
    rw [g2 n (by omega)]
    simp only [Option.bind_some]
    rw [g3]
    simp only [Option.bind_some]
    rw [g4]
    simp only [Option.bind_some]
    rw [g5 n (by omega)]
    rfl
  · obtain ⟨s4, hv⟩ := U.sound s
    obtain ⟨s3, hx⟩ := A4.sat.1 s4
    obtain ⟨s2, _⟩ := A3.sat.1 s3
    obtain ⟨s1, j2⟩ := I2.sound s2
    obtain ⟨s0, j1⟩ := I1.sound s1
    refine ⟨s0, v r2, ?_, j2⟩
    rw [hv, hx.2.2.1 rfl] at j1
    exact j1
  · obtain ⟨v1, ag1, s1, e1⟩ := I1.complete s j1
    obtain ⟨v2, ag2, s2, e2⟩ := I2.complete s1 (a := a) (by rw [En.val_agree ag1 hb]; exact j2)
    obtain ⟨v3, ag3, s3, d3⟩ := A3.put W2 s2 (a := τ) ⟨fun h => by simp at h, fun h => by simp at h, fun h => by simp at h, fun h => by simp at h⟩
    obtain ⟨v4, ag4, s4, d4⟩ := A4.put W3 s3 (a := .fn a τ) (by
      refine ⟨fun h => by simp at h, fun h => by simp at h, fun _ => ?_, fun h => by simp at h⟩
      simp only [upd, if_true]
      rw [if_neg (by omega), if_neg (by omega), d3, ag3 r2 hr2, e2])
    have ag : Agree st.shs.length v v4 := ((ag1.trans ag2 l1).trans ag3 (by omega)).trans ag4 (by omega)
    refine ⟨v4, ag, U.sat s4 ?_, by rw [ag4 _ (by omega), d3]⟩
    rw [d4, ag4 r1 (by omega), ag3 r1 (by omega), ag2 r1 hr1, e1]

theorem binary_good {run1 run2 : Nat → SS → Option (Nat × SS)} {J1 J2 : TEn → Ty → Prop} {e : En} {k1 k2 : Nat} (h1 : IGood run1 J1 e k1) (h2 : IGood run2 J2 e k2) (c : Nat) (d : Ty) (hc : (c = 0 ∧ d = .int) ∨ (c = 1 ∧ d = .bool)) :
    IGood (fun n st => (run1 n st).bind fun x => (unifyS n x.2 x.1 0).bind fun st1 => (run2 n st1).bind fun y => (unifyS n y.2 y.1 0).bind fun st2 => some (c, st2))
      (fun ρ τ => J1 ρ .int ∧ J2 ρ .int ∧ τ = d) e (k1 + k2) := fun st f W b hb hl => by
  obtain ⟨n1, r1, st1, g1, I1⟩ := h1 st f W b hb (by omega)
  obtain ⟨f1, W1⟩ := I1.wf
  have l1 := I1.low
  have u1 := I1.high
  have bl := b.len
  obtain ⟨n2, st2, g2, U2⟩ := unify_ok W1 (a := r1) (b := 0) I1.lt (by omega)
  obtain ⟨f2, W2⟩ := U2.wf
  have e2 := U2.len
  have b2 := U2.base I1.base
  obtain ⟨n3, r3, st3, g3, I3⟩ := h2 st2 f2 W2 b2 (hb.mono (by omega)) (by omega)
  obtain ⟨f3, W3⟩ := I3.wf
  have l3 := I3.low
  have u3 := I3.high
  obtain ⟨n4, st4, g4, U4⟩ := unify_ok W3 (a := r3) (b := 0) I3.lt (by omega)
  have b4 := U4.base I3.base
  have hd : ∀ {v : Nat → Ty}, st4.sat v → v c = d := fun s => by
    have := b4.vals s
    rcases hc with ⟨rfl, rfl⟩ | ⟨rfl, rfl⟩
    · exact this.1
    · exact this.2
  refine ⟨max (max n1 n2) (max n3 n4), c, st4, fun n hn => ?_, ⟨U4.wf, by rw [U4.len]; omega, by rw [U4.len]; omega, by rw [U4.len]; omega, b4, fun h => I1.clash (U2.clash (I3.clash (U4.clash h))), fun cl h => ?_, fun {v} s => ?_, fun {v τ} s ⟨j1, j2, hτ⟩ => ?_⟩⟩
  · show Option.bind _ _ = _
    rw [g1 n (by omega)]
    simp only [Option.bind_some]
    rw [g2 n (by omega)]
    simp only [Option.bind_some]
    rw [g3 n (by omega)]
    simp only [Option.bind_some]
    rw [g4 n (by omega)]
    rfl
  · have c3 := U4.clash h
    have c2 := I3.clash c3
    exact U4.closed ((I3.closed (U2.closed ((I1.closed cl (U2.clash c2)).more (by simp)) c2) c3).more (by simp)) h
  · obtain ⟨s3, hv3⟩ := U4.sound s
    obtain ⟨s2, j2⟩ := I3.sound s3
    obtain ⟨s1, hv1⟩ := U2.sound s2
    obtain ⟨s0, j1⟩ := I1.sound s1
    have hi := (b.vals s0).1
    rw [hv1, hi] at j1
    rw [hv3, hi] at j2
    exact ⟨s0, j1, j2, hd s⟩
  · obtain ⟨v1, ag1, s1, e1⟩ := I1.complete s j1
    have s2 := U2.sat s1 (by rw [e1, (I1.base.vals s1).1])
    obtain ⟨v3, ag3, s3, e3⟩ := I3.complete s2 (a := .int) (by rw [En.val_agree ag1 hb]; exact j2)
    have s4 := U4.sat s3 (by rw [e3, (I3.base.vals s3).1])
    exact ⟨v3, ag1.trans ag3 (by omega), s4, by rw [hd s4, hτ]⟩

theorem cond_good {run1 run2 run3 : Nat → SS → Option (Nat × SS)} {J1 J2 J3 : TEn → Ty → Prop} {e : En} {k1 k2 k3 : Nat} (h1 : IGood run1 J1 e k1) (h2 : IGood run2 J2 e k2) (h3 : IGood run3 J3 e k3) :
    IGood (fun n st => (run1 n st).bind fun x => (unifyS n x.2 x.1 1).bind fun st1 => (run2 n st1).bind fun y => (run3 n y.2).bind fun z => (unifyS n z.2 y.1 z.1).bind fun st2 => some (y.1, st2))
      (fun ρ τ => J1 ρ .bool ∧ J2 ρ τ ∧ J3 ρ τ) e (k1 + k2 + k3) := fun st f W b hb hl => by
  obtain ⟨n1, r1, st1, g1, I1⟩ := h1 st f W b hb (by omega)
  obtain ⟨f1, W1⟩ := I1.wf
  have l1 := I1.low
  have u1 := I1.high
  have bl := b.len
  obtain ⟨n2, st2, g2, U2⟩ := unify_ok W1 (a := r1) (b := 1) I1.lt (by omega)
  obtain ⟨f2, W2⟩ := U2.wf
  have e2 := U2.len
  obtain ⟨n3, r3, st3, g3, I3⟩ := h2 st2 f2 W2 (U2.base I1.base) (hb.mono (by omega)) (by omega)
  obtain ⟨f3, W3⟩ := I3.wf
  have l3 := I3.low
  have u3 := I3.high
  have hr3 := I3.lt
  obtain ⟨n4, r4, st4, g4, I4⟩ := h3 st3 f3 W3 I3.base (hb.mono (by omega)) (by omega)
  obtain ⟨f4, W4⟩ := I4.wf
  have l4 := I4.low
  have u4 := I4.high
  obtain ⟨n5, st5, g5, U5⟩ := unify_ok W4 (a := r3) (b := r4) (by omega) I4.lt
  refine ⟨max (max n1 n2) (max n3 (max n4 n5)), r3, st5, fun n hn => ?_, ⟨U5.wf, by rw [U5.len]; omega, by rw [U5.len]; omega, by rw [U5.len]; omega, U5.base I4.base, fun h => I1.clash (U2.clash (I3.clash (I4.clash (U5.clash h)))), fun cl h => ?_, fun {v} s => ?_, fun {v τ} s ⟨j1, j2, j3⟩ => ?_⟩⟩
  · show Option.bind _ _ = _
    rw [g1 n (by omega)]
    simp only [Option.bind_some]
    rw [g2 n (by omega)]
    simp only [Option.bind_some]
    rw [g3 n (by omega)]
    simp only [Option.bind_some]
    rw [g4 n (by omega)]
    simp only [Option.bind_some]
    rw [g5 n (by omega)]
    rfl
  · have c4 := U5.clash h
    have c3 := I4.clash c4
    have c2 := I3.clash c3
    exact U5.closed ((I4.closed (I3.closed (U2.closed ((I1.closed cl (U2.clash c2)).more (by simp)) c2) c3) c4).more (by simp)) h
  · obtain ⟨s4, hv4⟩ := U5.sound s
    obtain ⟨s3, j3⟩ := I4.sound s4
    obtain ⟨s2, j2⟩ := I3.sound s3
    obtain ⟨s1, hv1⟩ := U2.sound s2
    obtain ⟨s0, j1⟩ := I1.sound s1
    rw [hv1, (b.vals s0).2] at j1
    rw [← hv4] at j3
    exact ⟨s0, j1, j2, j3⟩
  · obtain ⟨v1, ag1, s1, e1⟩ := I1.complete s j1
    have s2 := U2.sat s1 (by rw [e1, (I1.base.vals s1).2])
    obtain ⟨v3, ag3, s3, e3⟩ := I3.complete s2 (a := τ) (by rw [En.val_agree ag1 hb]; exact j2)
    have ag13 : Agree st.shs.length v v3 := ag1.trans ag3 (by omega)
    obtain ⟨v4, ag4, s4, e4⟩ := I4.complete s3 (a := τ) (by rw [En.val_agree ag13 hb]; exact j3)
    have e34 : v4 r3 = τ := by rw [ag4 r3 hr3, e3]
    exact ⟨v4, ag13.trans ag4 (by omega), U5.sat s4 (by rw [e34, e4]), e34⟩

theorem fn_good {run : Nat → Nat → SS → Option (Nat × SS)} {J : TEn → Ty → Prop} {e : En} {bn : List UInt8} {k : Nat} (h : ∀ r, IGood (run r) J (.fix bn r e) k) :
    IGood (fun n st => (addS 0 0 0 st).bind fun from_ => (run from_.1 n from_.2).bind fun to => addS 3 from_.1 to.1 to.2) (fun ρ τ => ∃ a c, J (.fix bn a ρ) c ∧ τ = .fn a c) e (k + 2) := fun st f W b hb hl => by
  have bl := b.len
  obtain ⟨st1, g1, A1⟩ := add_ok W (of := 0) (l := 0) (r := 0) (by omega) (by omega) (by omega) (fun _ _ => ⟨rfl, rfl⟩) (by omega)
  obtain ⟨f1, W1⟩ := A1.wf
  have e1 := A1.len
  obtain ⟨n2, r2, st2, g2, I2⟩ := h st.shs.length st1 f1 W1 (A1.base b) ⟨by omega, hb.mono (by omega)⟩ (by omega)
  obtain ⟨f2, W2⟩ := I2.wf
  have l2 := I2.low
  have u2 := I2.high
  have hr2 := I2.lt
  obtain ⟨st3, g3, A3⟩ := add_ok W2 (of := 3) (l := st.shs.length) (r := r2) (by omega) (by omega) (by omega) (fun h => absurd rfl h) (by omega)
  refine ⟨n2, st2.shs.length, st3, fun n hn => ?_, ⟨A3.wf, by rw [A3.len]; omega, by rw [A3.len]; omega, by rw [A3.len]; omega, A3.base I2.base, fun h => A1.clash.symm.trans (I2.clash (A3.clash.symm.trans h)), fun c h => A3.closed (I2.closed (A1.closed c) (A3.clash.symm.trans h)), fun {v} s => ?_, fun {v τ} s ⟨a, c, j, hτ⟩ => ?_⟩⟩
  · show Option.bind _ _ = _
    rw [g1]
    simp only [Option.bind_some]
    rw [g2 n hn]
    exact g3
  · obtain ⟨s2, hx⟩ := A3.sat.1 s
    obtain ⟨s1, j⟩ := I2.sound s2
    obtain ⟨s0, _⟩ := A1.sat.1 s1
    exact ⟨s0, v st.shs.length, v r2, j, hx.2.2.1 rfl⟩
  · obtain ⟨v1, ag1, s1, d1⟩ := A1.put W s (a := a) ⟨fun h => by simp at h, fun h => by simp at h, fun h => by simp at h, fun h => by simp at h⟩
    obtain ⟨v2, ag2, s2, d2⟩ := I2.complete s1 (a := c) (by simp only [En.val]; rw [d1, En.val_agree ag1 hb]; exact j)
    obtain ⟨v3, ag3, s3, d3⟩ := A3.put W2 s2 (a := τ) (by
      refine ⟨fun h => by simp at h, fun h => by simp at h, fun _ => ?_, fun h => by simp at h⟩
      simp only [upd, if_true]
      rw [if_neg (by omega), if_neg (by omega), ag2 _ (by omega), d1, d2, hτ])
    exact ⟨v3, (ag1.trans ag2 (by omega)).trans ag3 (by omega), s3, d3⟩

theorem recdef_good {run : Nat → Nat → SS → Option (Nat × SS)} {J : TEn → Ty → Prop} {e : En} {bn : List UInt8} {k : Nat} (h : ∀ r, IGood (run r) J (.fix bn r e) k) :
    IGood (fun n st => (addS 0 0 0 st).bind fun own => (run own.1 n own.2).bind fun x => (unifyS n x.2 own.1 x.1).bind fun st' => some (own.1, st')) (fun ρ τ => J (.fix bn τ ρ) τ) e (k + 1) := fun st f W b hb hl => by
  have bl := b.len
  obtain ⟨st1, g1, A1⟩ := add_ok W (of := 0) (l := 0) (r := 0) (by omega) (by omega) (by omega) (fun _ _ => ⟨rfl, rfl⟩) (by omega)
  obtain ⟨f1, W1⟩ := A1.wf
  have e1 := A1.len
  obtain ⟨n2, r2, st2, g2, I2⟩ := h st.shs.length st1 f1 W1 (A1.base b) ⟨by omega, hb.mono (by omega)⟩ (by omega)
  obtain ⟨f2, W2⟩ := I2.wf
  have l2 := I2.low
  have u2 := I2.high
  obtain ⟨n3, st3, g3, U⟩ := unify_ok W2 (a := st.shs.length) (b := r2) (by omega) I2.lt
  refine ⟨max n2 n3, st.shs.length, st3, fun n hn => ?_, ⟨U.wf, by rw [U.len]; omega, by rw [U.len]; omega, by rw [U.len]; omega, U.base I2.base, fun h => A1.clash.symm.trans (I2.clash (U.clash h)), fun c h => U.closed ((I2.closed (A1.closed c) (U.clash h)).more (by simp)) h, fun {v} s => ?_, fun {v τ} s j => ?_⟩⟩
  · show Option.bind _ _ = _
    rw [g1]
    simp only [Option.bind_some]
    rw [g2 n (by omega)]
    simp only [Option.bind_some]
    rw [g3 n (by omega)]
    rfl
  · obtain ⟨s2, hv⟩ := U.sound s
    obtain ⟨s1, j⟩ := I2.sound s2
    obtain ⟨s0, _⟩ := A1.sat.1 s1
    refine ⟨s0, ?_⟩
    rw [← hv] at j
    exact j
  · obtain ⟨v1, ag1, s1, d1⟩ := A1.put W s (a := τ) ⟨fun h => by simp at h, fun h => by simp at h, fun h => by simp at h, fun h => by simp at h⟩
    obtain ⟨v2, ag2, s2, d2⟩ := I2.complete s1 (a := τ) (by simp only [En.val]; rw [d1, En.val_agree ag1 hb]; exact j)
    have d3 : v2 st.shs.length = τ := by rw [ag2 _ (by omega), d1]
    exact ⟨v2, ag1.trans ag2 (by omega), U.sat s2 (by rw [d3, d2]), d3⟩

theorem let_good {run1 run2 : Nat → SS → Option (Nat × SS)} {J1 J2 : TEn → Ty → Prop} {e : En} {bn : List UInt8} {t : T} {k1 k2 : Nat} (h1 : IGood run1 J1 e k1) (h2 : IGood run2 J2 (.dfn bn t e) k2) :
    IGood (fun n st => (run1 n st).bind fun x => run2 n x.2) (fun ρ τ => (∃ a, J1 ρ a) ∧ J2 (.dfn bn t ρ) τ) e (k1 + k2) := fun st f W b hb hl => by
  obtain ⟨n1, r1, st1, g1, I1⟩ := h1 st f W b hb (by omega)
  obtain ⟨f1, W1⟩ := I1.wf
  have l1 := I1.low
  have u1 := I1.high
  obtain ⟨n2, r2, st2, g2, I2⟩ := h2 st1 f1 W1 I1.base (show e.upto st1.shs.length from hb.mono l1) (by omega)
  have l2 := I2.low
  have u2 := I2.high
  refine ⟨max n1 n2, r2, st2, fun n hn => ?_, ⟨I2.wf, I2.lt, by omega, by omega, I2.base, fun h => I1.clash (I2.clash h), fun c h => I2.closed (I1.closed c (I2.clash h)) h, fun {v} s => ?_, fun {v τ} s ⟨⟨a, ja⟩, j⟩ => ?_⟩⟩
  · show Option.bind _ _ = _
    rw [g1 n (by omega)]
    exact g2 n (by omega)
  · obtain ⟨s1, j2⟩ := I2.sound s
    obtain ⟨s0, j1⟩ := I1.sound s1
    exact ⟨s0, ⟨_, j1⟩, j2⟩
  · obtain ⟨v1, ag1, s1, e1⟩ := I1.complete s ja
    obtain ⟨v2, ag2, s2, e2⟩ := I2.complete s1 (a := τ) (by simp only [En.val]; rw [En.val_agree ag1 hb]; exact j)
    exact ⟨v2, ag1.trans ag2 l1, s2, e2⟩

theorem side_good (sec : Bool) (e : En) :
    IGood (fun _ st => (addS 0 0 0 st).bind fun a => (addS 0 0 0 a.2).bind fun b => (addS 4 a.1 b.1 b.2).bind fun p => addS 3 p.1 (if sec then b.1 else a.1) p.2) (fun _ τ => ∃ a c, τ = .fn (.pair a c) (if sec then c else a)) e 4 := fun st f W b hb hl => by
  have bl := b.len
  obtain ⟨st1, g1, A1⟩ := add_ok W (of := 0) (l := 0) (r := 0) (by omega) (by omega) (by omega) (fun _ _ => ⟨rfl, rfl⟩) (by omega)
  obtain ⟨f1, W1⟩ := A1.wf
  have e1 := A1.len
  obtain ⟨st2, g2, A2⟩ := add_ok W1 (of := 0) (l := 0) (r := 0) (by omega) (by omega) (by omega) (fun _ _ => ⟨rfl, rfl⟩) (by omega)
  obtain ⟨f2, W2⟩ := A2.wf
  have e2 := A2.len
  obtain ⟨st3, g3, A3⟩ := add_ok W2 (of := 4) (l := st.shs.length) (r := st1.shs.length) (by omega) (by omega) (by omega) (fun _ h => absurd rfl h) (by omega)
  obtain ⟨f3, W3⟩ := A3.wf
  have e3 := A3.len
  have hsec : (if sec then st1.shs.length else st.shs.length) < st3.shs.length := by split <;> omega
  obtain ⟨st4, g4, A4⟩ := add_ok W3 (of := 3) (l := st2.shs.length) (r := if sec then st1.shs.length else st.shs.length) (by omega) (by omega) (by omega) (fun h => absurd rfl h) (by omega)
  refine ⟨0, st3.shs.length, st4, fun n _ => ?_, ⟨A4.wf, by rw [A4.len]; omega, by rw [A4.len]; omega, by rw [A4.len]; omega, A4.base (A3.base (A2.base (A1.base b))), fun h => A1.clash.symm.trans (A2.clash.symm.trans (A3.clash.symm.trans (A4.clash.symm.trans h))), fun c _ => A4.closed (A3.closed (A2.closed (A1.closed c))), fun {v} s => ?_, fun {v τ} s ⟨a, c, hτ⟩ => ?_⟩⟩
  · show Option.bind _ _ = _
    rw [g1]
    simp only [Option.bind_some]
    rw [g2]
    simp only [Option.bind_some]
    rw [g3]
    exact g4
  · obtain ⟨s3, h4⟩ := A4.sat.1 s
    obtain ⟨s2, h3⟩ := A3.sat.1 s3
    obtain ⟨s1, _⟩ := A2.sat.1 s2
    obtain ⟨s0, _⟩ := A1.sat.1 s1
    refine ⟨s0, v st.shs.length, v st1.shs.length, ?_⟩
    rw [h4.2.2.1 rfl]
    simp only
    rw [h3.2.2.2 rfl]
    cases sec <;> rfl
  · have none4 : ∀ (w : Nat → Ty) (q : Nat), Sh.says ⟨0, 0, 0, q⟩ w q := fun w q => ⟨fun h => by simp at h, fun h => by simp at h, fun h => by simp at h, fun h => by simp at h⟩
    obtain ⟨v1, ag1, s1, d1⟩ := A1.put W s (a := a) (none4 _ _)
    obtain ⟨v2, ag2, s2, d2⟩ := A2.put W1 s1 (a := c) (none4 _ _)
    obtain ⟨v3, ag3, s3, d3⟩ := A3.put W2 s2 (a := .pair a c) (by
      refine ⟨fun h => by simp at h, fun h => by simp at h, fun h => by simp at h, fun _ => ?_⟩
      simp only [upd, if_true]
      rw [if_neg (by omega), if_neg (by omega), ag2 _ (by omega), d1, d2])
    obtain ⟨v4, ag4, s4, d4⟩ := A4.put W3 s3 (a := τ) (by
      refine ⟨fun h => by simp at h, fun h => by simp at h, fun _ => ?_, fun h => by simp at h⟩
      simp only [upd, if_true]
      rw [if_neg (by omega), if_neg (by omega), d3, hτ]
      cases sec with
      | true => simp only [if_true]; rw [ag3 _ (by omega), d2]
      | false => simp only [Bool.false_eq_true, if_false]; rw [ag3 _ (by omega), ag2 _ (by omega), d1])
    exact ⟨v4, ((ag1.trans ag2 (by omega)).trans ag3 (by omega)).trans ag4 (by omega), s4, d4⟩

end Go.Proofs.YtckhafpejefbbaaGreatDoor.Tw

/- infer finds the types that there are, of every tree that is not too heavy. -/
namespace Go.Proofs.YtckhafpejefbbaaGreatDoor.Tw
open Go

def T.recs : T → Nat
  | .name .. => 0
  | .int .. => 0
  | .truth .. => 0
  | .side .. => 0
  | .bracket _ _ i => i.recs
  | .pair _ _ l r => l.recs + r.recs
  | .call _ _ l r => l.recs + r.recs
  | .binary _ _ _ l r => l.recs + r.recs
  | .cond _ _ c t f => c.recs + t.recs + f.recs
  | .fn _ _ _ _ b => b.recs
  | .lett _ _ rc _ _ d b => (if rc then 1 else 0) + d.recs + b.recs

def EGood (e : En) (we : WEn) (B : Nat) : Prop := ∀ (x : List UInt8) (k : Nat), we.look x = some k → 1 ≤ k ∧
  ((∃ r, e.look x = some (.inl r)) ∨ ∃ t o, e.look x = some (.inr (t, o)) ∧ (k ≤ 2000 → IGood (fun n st => defS n t o st) (DTyp t) o (B * k)))

theorem EGood.fix {e : En} {we : WEn} {B : Nat} (h : EGood e we B) (bn : List UInt8) (r : Nat) : EGood (.fix bn r e) (.cons bn 1 we) B := by
  intro x k hk
  simp only [WEn.look] at hk
  simp only [En.look]
  split at hk
  · rename_i hx
    cases hk
    exact ⟨Nat.le_refl _, .inl ⟨r, by rw [if_pos hx]⟩⟩
  · rename_i hx
    simp only [if_neg hx]
    exact h x k hk

theorem EGood.dfn {e : En} {we : WEn} {B B' : Nat} (h : EGood e we B) (hB : B ≤ B') (bn : List UInt8) (t : T) {k : Nat} (h1 : 1 ≤ k) (hk : k ≤ 2000 → IGood (fun n st => defS n t e st) (DTyp t) e (B' * k)) : EGood (.dfn bn t e) (.cons bn k we) B' := by
  intro x k' hk'
  simp only [WEn.look] at hk'
  simp only [En.look]
  split at hk'
  · rename_i hx
    cases hk'
    exact ⟨h1, .inr ⟨t, e, by rw [if_pos hx], hk⟩⟩
  · rename_i hx
    simp only [if_neg hx]
    obtain ⟨a, b⟩ := h x k' hk'
    refine ⟨a, b.imp id ?_⟩
    rintro ⟨t', o, g1, g2⟩
    exact ⟨t', o, g1, fun g3 => (g2 g3).mono (Nat.mul_le_mul_right _ hB)⟩

theorem lookup_good {e : En} {t : T} {o : En} {x : List UInt8} {fr to : Nat} (hl : e.look x = some (.inr (t, o))) {k : Nat} (h : IGood (fun n st => defS n t o st) (DTyp t) o k) : IGood (fun n st => inferS n (.name fr to x) e st) (Typ (.name fr to x)) e k := fun st f W b hb hlen => by
  obtain ⟨n0, r, st', h1, h2⟩ := h st f W b ((hb.look (x := x)).2 t o hl) hlen
  have hv : ∀ v : Nat → Ty, (e.val v).look x = some (.inr (t, o.val v)) := fun v => by rw [En.look_val, hl]; rfl
  refine ⟨n0 + 1, r, st', fun n hn => ?_, { h2 with sound := fun {v} s => ⟨(h2.sound s).1, .use (hv v) (h2.sound s).2⟩, complete := fun {v a} s j => h2.complete s ?_ }⟩
  · obtain ⟨m, rfl⟩ : ∃ m, n = m + 1 := ⟨n - 1, by omega⟩
    show inferS (m + 1) _ _ _ = _
    rw [inferS, hl]
    exact h1 m (by omega)
  · cases j with
    | name h => rw [hv] at h; cases h
    | use h hd => rw [hv] at h; cases h; exact hd

theorem fixed_good {e : En} {x : List UInt8} {fr to r : Nat} (hl : e.look x = some (.inl r)) : IGood (fun n st => inferS n (.name fr to x) e st) (Typ (.name fr to x)) e 0 := fun st f W b hb hlen => by
  have hv : ∀ v : Nat → Ty, (e.val v).look x = some (.inl (v r)) := fun v => by rw [En.look_val, hl]; rfl
  refine ⟨1, r, st, fun n hn => ?_, ⟨⟨f, W⟩, (hb.look (x := x)).1 r hl, Nat.le_refl _, Nat.le_refl _, b, id, fun h _ => h, fun {v} s => ⟨s, .name (hv v)⟩, fun {v a} s j => ⟨v, fun _ _ => rfl, s, ?_⟩⟩⟩
  · obtain ⟨m, rfl⟩ : ∃ m, n = m + 1 := ⟨n - 1, by omega⟩
    show inferS (m + 1) _ _ _ = _
    rw [inferS, hl]
  · cases j with
    | name h => rw [hv] at h; cases h; rfl
    | use h hd => rw [hv] at h; cases h

theorem mul3 {A a b c : Nat} (h : 1 ≤ A) : A * a + A * b + c ≤ A * (c + a + b) := by
  rw [Nat.mul_add, Nat.mul_add]
  have : c ≤ A * c := Nat.le_mul_of_pos_left c h
  omega

theorem infer_good : ∀ (t : T) (e : En) (we : WEn) (w B : Nat), weightS t we = some w → w ≤ 2000 → EGood e we B → 4 ≤ B → 1 ≤ w ∧ IGood (fun n st => inferS n t e st) (Typ t) e ((B + t.recs) * w)
  | .name fr to x, e, we, w, B, hw, hl, hE, hB => by
    simp only [weightS, Option.bind_eq_some_iff, Option.some.injEq] at hw
    obtain ⟨k, hk, rfl⟩ := hw
    have hkk : min k 2001 = k := by omega
    rw [hkk] at hl ⊢
    obtain ⟨h1, ⟨r, hr⟩ | ⟨t, o, ht, hg⟩⟩ := hE x k hk
    · exact ⟨h1, (fixed_good hr).mono (by omega)⟩
    · exact ⟨h1, (lookup_good ht (hg hl)).mono (by simp [T.recs])⟩
  | .int fr to v, e, we, w, B, hw, hl, hE, hB => by
    simp only [weightS, Option.some.injEq] at hw
    subst hw
    exact ⟨Nat.le_refl _, (((const_good 0 .int (.inl ⟨rfl, rfl⟩) e).iff (J' := Typ (.int fr to v)) (fun ρ a => ⟨fun h => by subst h; exact .int, fun h => by cases h; rfl⟩)).shift (fun _ _ => rfl)).mono (by omega)⟩
  | .truth fr to v, e, we, w, B, hw, hl, hE, hB => by
    simp only [weightS, Option.some.injEq] at hw
    subst hw
    exact ⟨Nat.le_refl _, (((const_good 1 .bool (.inr ⟨rfl, rfl⟩) e).iff (J' := Typ (.truth fr to v)) (fun ρ a => ⟨fun h => by subst h; exact .truth, fun h => by cases h; rfl⟩)).shift (fun _ _ => rfl)).mono (by omega)⟩
  | .side fr to sec, e, we, w, B, hw, hl, hE, hB => by
    simp only [weightS, Option.some.injEq] at hw
    subst hw
    exact ⟨Nat.le_refl _, (((side_good sec e).iff (J' := Typ (.side fr to sec)) (fun ρ a => ⟨fun ⟨_, _, h⟩ => by subst h; exact .side, fun h => by cases h; exact ⟨_, _, rfl⟩⟩)).shift (fun _ _ => rfl)).mono (by omega)⟩
  | .bracket fr to i, e, we, w, B, hw, hl, hE, hB => by
    simp only [weightS, Option.bind_eq_some_iff, Option.some.injEq] at hw
    obtain ⟨k, hk, rfl⟩ := hw
    obtain ⟨h1, h2⟩ := infer_good i e we k B hk (by omega) hE hB
    have hm : min (1 + k) 2001 = 1 + k := by omega
    rw [hm]
    refine ⟨by omega, ((h2.iff (J' := Typ (.bracket fr to i)) (fun ρ a => ⟨.bracket, fun h => by cases h; assumption⟩)).shift (fun _ _ => rfl)).mono (Nat.mul_le_mul (by simp [T.recs]) (by omega))⟩
  | .pair fr to l r, e, we, w, B, hw, hl, hE, hB => by
    simp only [weightS, Option.bind_eq_some_iff, Option.some.injEq] at hw
    obtain ⟨k1, hk1, k2, hk2, rfl⟩ := hw
    obtain ⟨a1, a2⟩ := infer_good l e we k1 B hk1 (by omega) hE hB
    obtain ⟨b1, b2⟩ := infer_good r e we k2 B hk2 (by omega) hE hB
    have hm : min (1 + k1 + k2) 2001 = 1 + k1 + k2 := by omega
    rw [hm]
    have c1 : IGood _ _ e ((B + (T.pair fr to l r).recs) * k1) := a2.mono (Nat.mul_le_mul_right _ (by simp only [T.recs]; omega))
    have c2 : IGood _ _ e ((B + (T.pair fr to l r).recs) * k2) := b2.mono (Nat.mul_le_mul_right _ (by simp only [T.recs]; omega))
    refine ⟨by omega, (((pair_good c1 c2).iff (J' := Typ (.pair fr to l r)) (fun ρ a => ⟨fun ⟨_, _, h1, h2, h3⟩ => by subst h3; exact .pair h1 h2, fun h => by cases h with | pair h1 h2 => exact ⟨_, _, h1, h2, rfl⟩⟩)).shift (fun _ _ => by rw [inferS])).mono (mul3 (by omega))⟩
  | .call fr to l r, e, we, w, B, hw, hl, hE, hB => by
    simp only [weightS, Option.bind_eq_some_iff, Option.some.injEq] at hw
    obtain ⟨k1, hk1, k2, hk2, rfl⟩ := hw
    obtain ⟨a1, a2⟩ := infer_good l e we k1 B hk1 (by omega) hE hB
    obtain ⟨b1, b2⟩ := infer_good r e we k2 B hk2 (by omega) hE hB
    have hm : min (1 + k1 + k2) 2001 = 1 + k1 + k2 := by omega
    rw [hm]
    have c1 : IGood _ _ e ((B + (T.call fr to l r).recs) * k1) := a2.mono (Nat.mul_le_mul_right _ (by simp only [T.recs]; omega))
    have c2 : IGood _ _ e ((B + (T.call fr to l r).recs) * k2) := b2.mono (Nat.mul_le_mul_right _ (by simp only [T.recs]; omega))
    refine ⟨by omega, (((call_good c1 c2).iff (J' := Typ (.call fr to l r)) (fun ρ a => ⟨fun ⟨_, h1, h2⟩ => .call h1 h2, fun h => by cases h with | call h1 h2 => exact ⟨_, h1, h2⟩⟩)).shift (fun _ _ => by rw [inferS])).mono ?_⟩
    have : (B + (T.call fr to l r).recs) * (1 + k1 + k2) = (B + (T.call fr to l r).recs) * 1 + (B + (T.call fr to l r).recs) * k1 + (B + (T.call fr to l r).recs) * k2 := by rw [Nat.mul_add, Nat.mul_add]
    omega
  | .binary fr to sg l r, e, we, w, B, hw, hl, hE, hB => by
    simp only [weightS, Option.bind_eq_some_iff, Option.some.injEq] at hw
    obtain ⟨k1, hk1, k2, hk2, rfl⟩ := hw
    obtain ⟨a1, a2⟩ := infer_good l e we k1 B hk1 (by omega) hE hB
    obtain ⟨b1, b2⟩ := infer_good r e we k2 B hk2 (by omega) hE hB
    have hm : min (1 + k1 + k2) 2001 = 1 + k1 + k2 := by omega
    rw [hm]
    have c1 : IGood _ _ e ((B + (T.binary fr to sg l r).recs) * k1) := a2.mono (Nat.mul_le_mul_right _ (by simp only [T.recs]; omega))
    have c2 : IGood _ _ e ((B + (T.binary fr to sg l r).recs) * k2) := b2.mono (Nat.mul_le_mul_right _ (by simp only [T.recs]; omega))
    have hc : ((if sg = 23 ∨ sg = 15 then 1 else 0) = 0 ∧ (if sg = 23 ∨ sg = 15 then Ty.bool else .int) = .int) ∨ ((if sg = 23 ∨ sg = 15 then 1 else 0) = 1 ∧ (if sg = 23 ∨ sg = 15 then Ty.bool else .int) = .bool) := by
      by_cases h : sg = 23 ∨ sg = 15
      · simp [h]
      · simp [h]
    refine ⟨by omega, (((binary_good c1 c2 _ _ hc).iff (J' := Typ (.binary fr to sg l r)) (fun ρ a => ⟨fun ⟨h1, h2, h3⟩ => by subst h3; exact .binary h1 h2, fun h => by cases h with | binary h1 h2 => exact ⟨h1, h2, rfl⟩⟩)).shift (fun _ _ => by rw [inferS])).mono ?_⟩
    have := mul3 (A := B + (T.binary fr to sg l r).recs) (a := k1) (b := k2) (c := 1) (by omega)
    omega
  | .cond fr to c t f, e, we, w, B, hw, hl, hE, hB => by
    simp only [weightS, Option.bind_eq_some_iff, Option.some.injEq] at hw
    obtain ⟨k1, hk1, k2, hk2, k3, hk3, rfl⟩ := hw
    obtain ⟨a1, a2⟩ := infer_good c e we k1 B hk1 (by omega) hE hB
    obtain ⟨b1, b2⟩ := infer_good t e we k2 B hk2 (by omega) hE hB
    obtain ⟨d1, d2⟩ := infer_good f e we k3 B hk3 (by omega) hE hB
    have hm : min (1 + k1 + k2 + k3) 2001 = 1 + k1 + k2 + k3 := by omega
    rw [hm]
    have c1 : IGood _ _ e ((B + (T.cond fr to c t f).recs) * k1) := a2.mono (Nat.mul_le_mul_right _ (by simp only [T.recs]; omega))
    have c2 : IGood _ _ e ((B + (T.cond fr to c t f).recs) * k2) := b2.mono (Nat.mul_le_mul_right _ (by simp only [T.recs]; omega))
    have c3 : IGood _ _ e ((B + (T.cond fr to c t f).recs) * k3) := d2.mono (Nat.mul_le_mul_right _ (by simp [T.recs]))
    refine ⟨by omega, (((cond_good c1 c2 c3).iff (J' := Typ (.cond fr to c t f)) (fun ρ a => ⟨fun ⟨h1, h2, h3⟩ => .cond h1 h2 h3, fun h => by cases h with | cond h1 h2 h3 => exact ⟨h1, h2, h3⟩⟩)).shift (fun _ _ => by rw [inferS])).mono ?_⟩
    have : (B + (T.cond fr to c t f).recs) * (1 + k1 + k2 + k3) = (B + (T.cond fr to c t f).recs) * 1 + (B + (T.cond fr to c t f).recs) * k1 + (B + (T.cond fr to c t f).recs) * k2 + (B + (T.cond fr to c t f).recs) * k3 := by rw [Nat.mul_add, Nat.mul_add, Nat.mul_add]
    omega
  | .fn fr to bn bat b, e, we, w, B, hw, hl, hE, hB => by
    simp only [weightS, Option.bind_eq_some_iff, Option.some.injEq] at hw
    obtain ⟨k, hk, rfl⟩ := hw
    have hm : min (1 + k) 2001 = 1 + k := by omega
    rw [hm]
    have h2 : ∀ r, IGood (fun n st => inferS n b (.fix bn r e) st) (Typ b) (.fix bn r e) ((B + (T.fn fr to bn bat b).recs) * k) := fun r => (infer_good b (.fix bn r e) (.cons bn 1 we) k B hk (by omega) (hE.fix bn r) hB).2
    refine ⟨by omega, (((fn_good h2).iff (J' := Typ (.fn fr to bn bat b)) (fun ρ a => ⟨fun ⟨_, _, h, h3⟩ => by subst h3; exact .fn h, fun h => by cases h with | fn h => exact ⟨_, _, h, rfl⟩⟩)).shift (fun _ _ => by rw [inferS])).mono ?_⟩
    have : (B + (T.fn fr to bn bat b).recs) * (1 + k) = (B + (T.fn fr to bn bat b).recs) * 1 + (B + (T.fn fr to bn bat b).recs) * k := by rw [Nat.mul_add]
    omega
  | .lett fr to rc bn bat d b, e, we, w, B, hw, hl, hE, hB => by
    simp only [weightS, Option.bind_eq_some_iff, Option.some.injEq] at hw
    obtain ⟨k1, hk1, k2, hk2, rfl⟩ := hw
    have hm : min (1 + (k1 + k2)) 2001 = 1 + (k1 + k2) := by omega
    rw [hm]
    have h1 : 1 ≤ k1 ∧ IGood (fun n st => defS n (.lett fr to rc bn bat d b) e st) (DTyp (.lett fr to rc bn bat d b)) e ((B + (if rc then 1 else 0) + d.recs) * k1) := by
      cases rc with
      | false =>
        obtain ⟨a1, a2⟩ := infer_good d e we k1 B hk1 (by omega) hE hB
        exact ⟨a1, ((a2.iff (J' := DTyp (.lett fr to false bn bat d b)) (fun ρ a => ⟨.plain, fun h => by cases h; assumption⟩)).shift (fun _ _ => by rw [defS])).mono (by simp)⟩
      | true =>
        have a2 : ∀ r, 1 ≤ k1 ∧ IGood (fun n st => inferS n d (.fix bn r e) st) (Typ d) (.fix bn r e) ((B + d.recs) * k1) := fun r => infer_good d (.fix bn r e) (.cons bn 1 we) k1 B hk1 (by omega) (hE.fix bn r) hB
        refine ⟨(a2 0).1, (((recdef_good (fun r => (a2 r).2)).iff (J' := DTyp (.lett fr to true bn bat d b)) (fun ρ a => ⟨.recu, fun h => by cases h; assumption⟩)).shift (fun _ _ => by rw [defS])).mono ?_⟩
        have := (a2 0).1
        have : (B + 1 + d.recs) * k1 = (B + d.recs) * k1 + k1 := by rw [show B + 1 + d.recs = B + d.recs + 1 by omega, Nat.add_mul, Nat.one_mul]
        simp only [if_true]
        omega
    obtain ⟨p1, p2⟩ := h1
    have hE2 : EGood (.dfn bn (.lett fr to rc bn bat d b) e) (.cons bn k1 we) (B + (if rc then 1 else 0) + d.recs) := hE.dfn (by omega) bn _ p1 (fun _ => p2)
    obtain ⟨q1, q2⟩ := infer_good b (.dfn bn (.lett fr to rc bn bat d b) e) (.cons bn k1 we) k2 (B + (if rc then 1 else 0) + d.recs) hk2 (by omega) hE2 (by omega)
    refine ⟨by omega, (((let_good p2 q2).iff (J' := Typ (.lett fr to rc bn bat d b)) (fun ρ a => ⟨fun ⟨⟨_, h1⟩, h2⟩ => .lett h1 h2, fun h => by cases h with | lett h1 h2 => exact ⟨⟨_, h1⟩, h2⟩⟩)).shift (fun _ _ => by rw [inferS])).mono ?_⟩
    have e1 : (B + (if rc then 1 else 0) + d.recs) * k1 ≤ (B + (T.lett fr to rc bn bat d b).recs) * k1 := Nat.mul_le_mul_right _ (by simp [T.recs]; omega)
    have e2 : (B + (if rc then 1 else 0) + d.recs + b.recs) * k2 = (B + (T.lett fr to rc bn bat d b).recs) * k2 := by simp [T.recs, Nat.add_assoc]
    have e3 : (B + (T.lett fr to rc bn bat d b).recs) * (1 + (k1 + k2)) = (B + (T.lett fr to rc bn bat d b).recs) * 1 + ((B + (T.lett fr to rc bn bat d b).recs) * k1 + (B + (T.lett fr to rc bn bat d b).recs) * k2) := by rw [Nat.mul_add, Nat.mul_add]
    omega

theorem recs_weight : ∀ (t : T) (we : WEn) (w : Nat), weightS t we = some w → w ≤ 2000 → t.recs ≤ w
  | .name .., _, _, _, _ => by simp [T.recs]
  | .int .., _, _, _, _ => by simp [T.recs]
  | .truth .., _, _, _, _ => by simp [T.recs]
  | .side .., _, _, _, _ => by simp [T.recs]
  | .bracket _ _ i, we, w, h, hl => by
    simp only [weightS, Option.bind_eq_some_iff, Option.some.injEq] at h
    obtain ⟨k, hk, rfl⟩ := h
    have := recs_weight i we k hk (by omega)
    simp only [T.recs]; omega
  | .pair _ _ l r, we, w, h, hl => by
    simp only [weightS, Option.bind_eq_some_iff, Option.some.injEq] at h
    obtain ⟨k1, hk1, k2, hk2, rfl⟩ := h
    have := recs_weight l we k1 hk1 (by omega)
    have := recs_weight r we k2 hk2 (by omega)
    simp only [T.recs]; omega
  | .call _ _ l r, we, w, h, hl => by
    simp only [weightS, Option.bind_eq_some_iff, Option.some.injEq] at h
    obtain ⟨k1, hk1, k2, hk2, rfl⟩ := h
    have := recs_weight l we k1 hk1 (by omega)
    have := recs_weight r we k2 hk2 (by omega)
    simp only [T.recs]; omega
  | .binary _ _ _ l r, we, w, h, hl => by
    simp only [weightS, Option.bind_eq_some_iff, Option.some.injEq] at h
    obtain ⟨k1, hk1, k2, hk2, rfl⟩ := h
    have := recs_weight l we k1 hk1 (by omega)
    have := recs_weight r we k2 hk2 (by omega)
    simp only [T.recs]; omega
  | .cond _ _ c t f, we, w, h, hl => by
    simp only [weightS, Option.bind_eq_some_iff, Option.some.injEq] at h
    obtain ⟨k1, hk1, k2, hk2, k3, hk3, rfl⟩ := h
    have := recs_weight c we k1 hk1 (by omega)
    have := recs_weight t we k2 hk2 (by omega)
    have := recs_weight f we k3 hk3 (by omega)
    simp only [T.recs]; omega
  | .fn _ _ bn _ b, we, w, h, hl => by
    simp only [weightS, Option.bind_eq_some_iff, Option.some.injEq] at h
    obtain ⟨k, hk, rfl⟩ := h
    have := recs_weight b _ k hk (by omega)
    simp only [T.recs]; omega
  | .lett _ _ rc bn _ d b, we, w, h, hl => by
    simp only [weightS, Option.bind_eq_some_iff, Option.some.injEq] at h
    obtain ⟨k1, hk1, k2, hk2, rfl⟩ := h
    have := recs_weight d _ k1 hk1 (by omega)
    have := recs_weight b _ k2 hk2 (by omega)
    simp only [T.recs]
    split <;> omega

def ss2 : SS := ⟨[⟨1, 0, 0, 0⟩, ⟨2, 0, 0, 1⟩], false⟩

theorem ss2_at {r : Nat} {x : Sh} (h : ss2.shs[r]? = some x) : (r = 0 ∧ x = ⟨1, 0, 0, 0⟩) ∨ (r = 1 ∧ x = ⟨2, 0, 0, 1⟩) := by
  match r, h with
  | 0, h => simp [ss2] at h; exact .inl ⟨rfl, h.symm⟩
  | 1, h => simp [ss2] at h; exact .inr ⟨rfl, h.symm⟩
  | r + 2, h => simp [ss2] at h

theorem ss2_root {r p : Nat} (h : RootOf ss2 r p) : r = p := by
  cases h with
  | here => rfl
  | step h hs => rcases ss2_at h with ⟨rfl, rfl⟩ | ⟨rfl, rfl⟩ <;> exact absurd rfl hs

theorem ss2_wf : ss2.Wf (fun _ => 0) := by
  refine ⟨fun r x h hs => ?_, fun r x h => ?_, fun r x h => ?_, fun r x h _ _ => ?_, fun r p x y h1 h2 h3 _ => ?_⟩
  · rcases ss2_at h with ⟨rfl, rfl⟩ | ⟨rfl, rfl⟩ <;> exact absurd rfl hs
  · rcases ss2_at h with ⟨rfl, rfl⟩ | ⟨rfl, rfl⟩ <;> simp [ss2]
  · rcases ss2_at h with ⟨rfl, rfl⟩ | ⟨rfl, rfl⟩ <;> simp
  · rcases ss2_at h with ⟨rfl, rfl⟩ | ⟨rfl, rfl⟩ <;> simp
  · have := ss2_root h2
    subst this
    rw [h1] at h3
    cases h3
    rfl

theorem ss2_base : ss2.base := ⟨⟨_, rfl, rfl⟩, _, rfl, rfl⟩

theorem ss2_sat : ss2.sat (fun r => if r = 0 then .int else .bool) := by
  refine ⟨rfl, fun r p h => by rw [ss2_root h], fun r x h => ?_⟩
  rcases ss2_at h with ⟨rfl, rfl⟩ | ⟨rfl, rfl⟩ <;> exact ⟨fun h => by simp at h ⊢, fun h => by simp at h ⊢, fun h => by simp at h, fun h => by simp at h⟩

theorem ss2_closed : ss2.Closed [] := by
  intro R _ _ _ r p x y h1 _ _ hs
  rcases ss2_at h1 with ⟨rfl, rfl⟩ | ⟨rfl, rfl⟩ <;> simp at hs

theorem infer_root {t : T} {w : Nat} (hw : weightS t .nil = some w) (hl : w ≤ 2000) : ∃ n0 r st, (∀ n, n0 ≤ n → inferS n t .nil ss2 = some (r, st)) ∧ (∃ f, st.Wf f) ∧ r < st.shs.length ∧ (st.clash = false → st.Closed []) ∧
    (∀ {v : Nat → Ty}, st.sat v → Typ t .nil (v r)) ∧ (∀ {a : Ty}, Typ t .nil a → ∃ v, st.sat v ∧ v r = a) ∧ st.shs.length ≤ 10000000 := by
  have hr := recs_weight t .nil w hw hl
  obtain ⟨_, h⟩ := infer_good t .nil .nil w 4 hw hl (fun x k hk => by simp [WEn.look] at hk) (by omega)
  have hb : (4 + t.recs) * w ≤ 2004 * 2000 := Nat.mul_le_mul (by omega) hl
  obtain ⟨n0, r, st, h1, h2⟩ := h ss2 _ ss2_wf ss2_base trivial (by simp [ss2]; omega)
  refine ⟨n0, r, st, h1, h2.wf, h2.lt, fun hc => h2.closed ss2_closed hc, fun s => (h2.sound s).2, fun {a} j => ?_, by have := h2.high; simp [ss2] at this; omega⟩
  obtain ⟨v, _, s, e⟩ := h2.complete ss2_sat (a := a) j
  exact ⟨v, s, e⟩

end Go.Proofs.YtckhafpejefbbaaGreatDoor.Tw

/- endless: types that end; what a type is. -/
namespace Go.Proofs.YtckhafpejefbbaaGreatDoor.Tw
open Go

inductive FinT (st : SS) : Nat → Ty → Prop
  | var {r p : Nat} {x : Sh} (hr : RootOf st r p) (hx : st.shs[p]? = some x) (hs : x.sort = 0) : FinT st r (.var p)
  | int {r p : Nat} {x : Sh} (hr : RootOf st r p) (hx : st.shs[p]? = some x) (hs : x.sort = 1) : FinT st r .int
  | bool {r p : Nat} {x : Sh} (hr : RootOf st r p) (hx : st.shs[p]? = some x) (hs : x.sort = 2) : FinT st r .bool
  | fn {r p : Nat} {x : Sh} {a b : Ty} (hr : RootOf st r p) (hx : st.shs[p]? = some x) (hs : x.sort = 3) (ha : FinT st x.left a) (hb : FinT st x.right b) : FinT st r (.fn a b)
  | pair {r p : Nat} {x : Sh} {a b : Ty} (hr : RootOf st r p) (hx : st.shs[p]? = some x) (hs : x.sort = 4) (ha : FinT st x.left a) (hb : FinT st x.right b) : FinT st r (.pair a b)

theorem FinT.move {st : SS} {r q : Nat} {a : Ty} (h : FinT st r a) (k : st.eqv r q) : FinT st q a := by
  obtain ⟨p, h1, h2⟩ := k
  cases h with
  | var hr hx hs => rw [hr.unique h1] at hx ⊢; exact .var h2 hx hs
  | int hr hx hs => rw [hr.unique h1] at hx; exact .int h2 hx hs
  | bool hr hx hs => rw [hr.unique h1] at hx; exact .bool h2 hx hs
  | fn hr hx hs ha hb => rw [hr.unique h1] at hx; exact .fn h2 hx hs ha hb
  | pair hr hx hs ha hb => rw [hr.unique h1] at hx; exact .pair h2 hx hs ha hb

theorem FinT.sim {st st' : SS} (S : st.Sim st') {r : Nat} {a : Ty} (h : FinT st r a) : FinT st' r a := by
  induction h with
  | var hr hx hs => obtain ⟨y, hy, e1, _⟩ := S.shape _ _ hx; exact .var ((S.root _ _).1 hr) hy (e1.trans hs)
  | int hr hx hs => obtain ⟨y, hy, e1, _⟩ := S.shape _ _ hx; exact .int ((S.root _ _).1 hr) hy (e1.trans hs)
  | bool hr hx hs => obtain ⟨y, hy, e1, _⟩ := S.shape _ _ hx; exact .bool ((S.root _ _).1 hr) hy (e1.trans hs)
  | fn hr hx hs _ _ ha hb => obtain ⟨y, hy, e1, e2, e3⟩ := S.shape _ _ hx; exact .fn ((S.root _ _).1 hr) hy (e1.trans hs) (by rw [e2]; exact ha) (by rw [e3]; exact hb)
  | pair hr hx hs _ _ ha hb => obtain ⟨y, hy, e1, e2, e3⟩ := S.shape _ _ hx; exact .pair ((S.root _ _).1 hr) hy (e1.trans hs) (by rw [e2]; exact ha) (by rw [e3]; exact hb)

theorem SS.Sim.symm {a b : SS} (h : a.Sim b) : b.Sim a := ⟨h.len.symm, h.clash.symm, fun r y hy => by
  obtain ⟨x, hx, e1, e2, e3⟩ := h.back hy
  exact ⟨x, hx, e1.symm, e2.symm, e3.symm⟩, fun r p => (h.root r p).symm⟩

theorem FinT.unique {st : SS} {r : Nat} {a b : Ty} (h : FinT st r a) (k : FinT st r b) : a = b := by
  induction h generalizing b with
  | var hr hx hs => cases k with
    | var hr' hx' hs' => rw [hr.unique hr']
    | int hr' hx' hs' => rw [hr.unique hr', hx'] at hx; cases hx; omega
    | bool hr' hx' hs' => rw [hr.unique hr', hx'] at hx; cases hx; omega
    | fn hr' hx' hs' => rw [hr.unique hr', hx'] at hx; cases hx; omega
    | pair hr' hx' hs' => rw [hr.unique hr', hx'] at hx; cases hx; omega
  | int hr hx hs => cases k with
    | var hr' hx' hs' => rw [hr.unique hr', hx'] at hx; cases hx; omega
    | int => rfl
    | bool hr' hx' hs' => rw [hr.unique hr', hx'] at hx; cases hx; omega
    | fn hr' hx' hs' => rw [hr.unique hr', hx'] at hx; cases hx; omega
    | pair hr' hx' hs' => rw [hr.unique hr', hx'] at hx; cases hx; omega
  | bool hr hx hs => cases k with
    | var hr' hx' hs' => rw [hr.unique hr', hx'] at hx; cases hx; omega
    | int hr' hx' hs' => rw [hr.unique hr', hx'] at hx; cases hx; omega
    | bool => rfl
    | fn hr' hx' hs' => rw [hr.unique hr', hx'] at hx; cases hx; omega
    | pair hr' hx' hs' => rw [hr.unique hr', hx'] at hx; cases hx; omega
  | fn hr hx hs _ _ iha ihb => cases k with
    | var hr' hx' hs' => rw [hr.unique hr', hx'] at hx; cases hx; omega
    | int hr' hx' hs' => rw [hr.unique hr', hx'] at hx; cases hx; omega
    | bool hr' hx' hs' => rw [hr.unique hr', hx'] at hx; cases hx; omega
    | fn hr' hx' hs' ha' hb' => rw [hr.unique hr', hx'] at hx; cases hx; rw [iha ha', ihb hb']
    | pair hr' hx' hs' => rw [hr.unique hr', hx'] at hx; cases hx; omega
  | pair hr hx hs _ _ iha ihb => cases k with
    | var hr' hx' hs' => rw [hr.unique hr', hx'] at hx; cases hx; omega
    | int hr' hx' hs' => rw [hr.unique hr', hx'] at hx; cases hx; omega
    | bool hr' hx' hs' => rw [hr.unique hr', hx'] at hx; cases hx; omega
    | fn hr' hx' hs' => rw [hr.unique hr', hx'] at hx; cases hx; omega
    | pair hr' hx' hs' ha' hb' => rw [hr.unique hr', hx'] at hx; cases hx; rw [iha ha', ihb hb']

def Ty.size : Ty → Nat
  | .var _ => 1
  | .int => 1
  | .bool => 1
  | .fn a b => a.size + b.size + 1
  | .pair a b => a.size + b.size + 1

structure Marks (st : SS) (mk : List Int) : Prop where
  len : mk.length = st.shs.length
  val : ∀ (p : Nat) (m : Int), mk[p]? = some m → m = 0 ∨ m = 1 ∨ m = 2
  done : ∀ p : Nat, mk[p]? = some 2 → ∃ a, FinT st p a

def zeros (mk : List Int) : Nat := mk.countP (· == 0)

theorem zeros_set {mk : List Int} {p : Nat} {m : Int} (h : mk[p]? = some 0) (hm : m ≠ 0) : zeros (mk.set p m) + 1 = zeros mk := by
  induction mk generalizing p with
  | nil => simp at h
  | cons a mk ih =>
    cases p with
    | zero =>
      simp at h
      subst h
      simp only [List.set_cons_zero, zeros, List.countP_cons]
      simp [hm]
    | succ p =>
      simp only [List.set_cons_succ, zeros, List.countP_cons]
      have := ih (p := p) (by simpa using h)
      unfold zeros at this
      omega

theorem zeros_set' {mk : List Int} {p : Nat} {m a : Int} (h : mk[p]? = some a) (ha : a ≠ 0) (hm : m ≠ 0) : zeros (mk.set p m) = zeros mk := by
  induction mk generalizing p with
  | nil => simp at h
  | cons b mk ih =>
    cases p with
    | zero =>
      simp at h
      subst h
      simp only [List.set_cons_zero, zeros, List.countP_cons]
      simp [hm, ha]
    | succ p =>
      simp only [List.set_cons_succ, zeros, List.countP_cons]
      have := ih (p := p) (by simpa using h)
      unfold zeros at this
      omega

theorem set_get {mk : List Int} {p : Nat} {m : Int} (hp : p < mk.length) (q : Nat) : (mk.set p m)[q]? = if q = p then some m else mk[q]? := by
  by_cases h : q = p
  · subst h; rw [if_pos rfl, List.getElem?_set_self hp]
  · rw [if_neg h, List.getElem?_set_ne (fun e => h e.symm)]

structure HOk (st : SS) (mk : List Int) (r : Nat) (b : Bool) (st' : SS) (mk' : List Int) : Prop where
  sim : st.Sim st'
  yes : b = true → ∀ v : Nat → Ty, ¬ st.sat v
  no : b = false → (∃ a, FinT st r a) ∧ Marks st mk' ∧ (∀ p : Nat, mk'[p]? = some 1 ↔ mk[p]? = some 1) ∧ zeros mk' ≤ zeros mk

theorem sat_size {st : SS} {p : Nat} {x : Sh} {v : Nat → Ty} (s : st.sat v) (hx : st.shs[p]? = some x) (hs : x.sort = 3 ∨ x.sort = 4) : (v x.left).size < (v p).size ∧ (v x.right).size < (v p).size := by
  have := s.shape p x hx
  rcases hs with h | h
  · rw [this.2.2.1 h]; simp only [Ty.size]; omega
  · rw [this.2.2.2 h]; simp only [Ty.size]; omega

theorem holds_spec {f : Nat → Nat} : ∀ (z : Nat) {st : SS} {mk : List Int} {r : Nat}, st.Wf f → Marks st mk → zeros mk ≤ z → r < st.shs.length → (∀ v : Nat → Ty, st.sat v → ∀ p : Nat, mk[p]? = some 1 → (v r).size < (v p).size) →
    ∃ n0 b st' mk', (∀ n, n0 ≤ n → holdsS n st mk r = some (b, st', mk')) ∧ st'.Wf f ∧ HOk st mk r b st' mk' := by
  intro z
  induction z with
  | zero =>
    intro st mk r W M hz hr hS
    obtain ⟨n1, p, st1, f1, rp, W1, S1⟩ := find_ok W hr
    have rp1 := (S1.root _ _).1 rp
    obtain ⟨x, hx, _⟩ := rp1.root
    have hpl := rp.lt.2
    have hpm : p < mk.length := by rw [M.len]; exact hpl
    have hm : mk[p]? = some mk[p] := List.getElem?_eq_getElem hpm
    have h0 : mk[p] ≠ 0 := by
      intro e
      have : 0 < zeros mk := List.countP_pos_iff.2 ⟨mk[p], List.getElem_mem _, by simp [e]⟩
      omega
    refine ⟨n1 + 1, mk[p] == 1, st1, mk, fun n hn => ?_, W1, S1, fun hb v s => ?_, fun hb => ⟨?_, M, fun _ => .rfl, Nat.le_refl _⟩⟩
    · obtain ⟨m, rfl⟩ : ∃ m, n = m + 1 := ⟨n - 1, by omega⟩
      rw [holdsS, f1 m (by omega)]
      simp only [Option.bind_some, hx, hm]
      rw [if_neg (fun h => h0 h.1)]
    · simp only [beq_iff_eq] at hb
      have := hS v s p (by rw [hm, hb])
      rw [s.root r p rp] at this
      omega
    · have h2 : mk[p] = 2 := by
        rcases M.val p _ hm with h | h | h
        · exact absurd h h0
        · rw [h] at hb; simp at hb
        · exact h
      obtain ⟨a, ha⟩ := M.done p (by rw [hm, h2])
      exact ⟨a, ha.move ⟨p, rp.self, rp⟩⟩
  | succ z ih =>
    intro st mk r W M hz hr hS
    obtain ⟨n1, p, st1, f1, rp, W1, S1⟩ := find_ok W hr
    have rp1 := (S1.root _ _).1 rp
    obtain ⟨x, hx, _⟩ := rp1.root
    obtain ⟨x0, hx0, e1, e2, e3⟩ := S1.back hx
    have hpl := rp.lt.2
    have hpm : p < mk.length := by rw [M.len]; exact hpl
    have hm : mk[p]? = some mk[p] := List.getElem?_eq_getElem hpm
    by_cases hgo : mk[p] = 0 ∧ madeS x = true
    rotate_left
    · refine ⟨n1 + 1, mk[p] == 1, st1, mk, fun n hn => ?_, W1, S1, fun hb v s => ?_, fun hb => ⟨?_, M, fun _ => .rfl, Nat.le_refl _⟩⟩
      · obtain ⟨m, rfl⟩ : ∃ m, n = m + 1 := ⟨n - 1, by omega⟩
        rw [holdsS, f1 m (by omega)]
        simp only [Option.bind_some, hx, hm]
        rw [if_neg hgo]
      · simp only [beq_iff_eq] at hb
        have := hS v s p (by rw [hm, hb])
        rw [s.root r p rp] at this
        omega
      · rcases M.val p _ hm with h | h | h
        · have hnm : madeS x = false := by
            cases hx' : madeS x
            · rfl
            · exact absurd ⟨h, hx'⟩ hgo
          have hs := W.sort p x0 hx0
          rw [← e1] at hs
          unfold madeS at hnm
          simp only [Bool.or_eq_false_iff, beq_eq_false_iff_ne] at hnm
          rcases hs with h' | h' | h' | h' | h'
          · exact ⟨_, .var rp hx0 (e1.symm.trans h')⟩
          · exact ⟨_, .int rp hx0 (e1.symm.trans h')⟩
          · exact ⟨_, .bool rp hx0 (e1.symm.trans h')⟩
          · exact absurd h' hnm.1
          · exact absurd h' hnm.2
        · rw [h] at hb; simp at hb
        · obtain ⟨a, ha⟩ := M.done p (by rw [hm, h])
          exact ⟨a, ha.move ⟨p, rp.self, rp⟩⟩
    · obtain ⟨hm0, hmade⟩ := hgo
      have hmade' : x.sort = 3 ∨ x.sort = 4 := by
        unfold madeS at hmade
        simpa using hmade
      have hp0 : mk[p]? = some 0 := by rw [hm, hm0]
      have g1 := set_get (mk := mk) (m := 1) hpm
      have M1 : Marks st1 (mk.set p 1) := by
        refine ⟨by simp [M.len, S1.len], fun q m hq => ?_, fun q hq => ?_⟩
        · rw [g1] at hq
          split at hq
          · cases hq; exact .inr (.inl rfl)
          · exact M.val q m hq
        · rw [g1] at hq
          split at hq
          · cases hq
          · obtain ⟨a, ha⟩ := M.done q hq
            exact ⟨a, ha.sim S1⟩
      have z1 : zeros (mk.set p 1) ≤ z := by have := zeros_set (m := 1) hp0 (by omega); omega
      have range := W1.range p x hx
      have below : ∀ (v : Nat → Ty), st1.sat v → ∀ q : Nat, (mk.set p 1)[q]? = some 1 → (v p).size ≤ (v q).size := fun v s q hq => by
        rw [g1] at hq
        split at hq
        · rename_i h; rw [h]; exact Nat.le_refl _
        · have s0 := S1.sat.2 s
          have := hS v s0 q hq
          rw [s0.root r p rp] at this
          omega
      obtain ⟨n2, b2, st2, mk2, h2, W2, H2⟩ := ih (r := x.left) W1 M1 z1 range.2.1 (fun v s q hq => by have := below v s q hq; have := (sat_size s hx hmade').1; omega)
      have unf : ∀ m, n1 ≤ m → holdsS (m + 1) st mk r = (holdsS m st1 (mk.set p 1) x.left).bind fun a => if a.1 then some (true, a.2) else (holdsS m a.2.1 a.2.2 x.right).bind fun b => if b.1 then some (true, b.2) else some (false, b.2.1, b.2.2.set p 2) := fun m hm' => by
        rw [holdsS, f1 m hm']
        simp only [Option.bind_some, hx, hm]
        rw [if_pos ⟨hm0, hmade⟩]
      cases b2 with
      | true =>
        refine ⟨max n1 n2 + 1, true, st2, mk2, fun n hn => ?_, W2, S1.trans H2.sim, fun _ v s => H2.yes rfl v (S1.sat.1 s), fun h => by cases h⟩
        obtain ⟨m, rfl⟩ : ∃ m, n = m + 1 := ⟨n - 1, by omega⟩
        rw [unf m (by omega), h2 m (by omega)]
        rfl
      | false =>
        obtain ⟨⟨a, ha⟩, M2, w2, z2⟩ := H2.no rfl
        have M2' : Marks st2 mk2 := ⟨by rw [M2.len, H2.sim.len], M2.val, fun q hq => by obtain ⟨c, hc⟩ := M2.done q hq; exact ⟨c, hc.sim H2.sim⟩⟩
        obtain ⟨x2, hx2, d1, d2, d3⟩ := H2.sim.shape p x hx
        have hmade2 : x2.sort = 3 ∨ x2.sort = 4 := by rw [d1]; exact hmade'
        have range2 := W2.range p x2 hx2
        obtain ⟨n3, b3, st3, mk3, h3, W3, H3⟩ := ih (st := st2) (mk := mk2) (r := x.right) W2 M2' (by omega) (by rw [← d3]; exact range2.2.2) (fun v s q hq => by
          have s1 := H2.sim.sat.2 s
          have := below v s1 q ((w2 q).1 hq)
          have := (sat_size s1 hx hmade').2
          omega)
        cases b3 with
        | true =>
          refine ⟨max n1 (max n2 n3) + 1, true, st3, mk3, fun n hn => ?_, W3, (S1.trans H2.sim).trans H3.sim, fun _ v s => H3.yes rfl v (H2.sim.sat.1 (S1.sat.1 s)), fun h => by cases h⟩
          obtain ⟨m, rfl⟩ : ∃ m, n = m + 1 := ⟨n - 1, by omega⟩
          rw [unf m (by omega), h2 m (by omega)]
          simp only [Option.bind_some, Bool.false_eq_true, if_false]
          rw [h3 m (by omega)]
          rfl
        | false =>
          obtain ⟨⟨b, hb⟩, M3, w3, z3⟩ := H3.no rfl
          have hb1 : FinT st1 x.right b := hb.sim H2.sim.symm
          have hpm3 : p < mk3.length := by rw [M3.len, H2.sim.len, S1.len]; exact hpl
          have g3 := set_get (mk := mk3) (m := 2) hpm3
          have FP : ∃ c, FinT st p c := by
            have hl : FinT st x0.left a := by rw [← e2]; exact ha.sim S1.symm
            have hr' : FinT st x0.right b := by rw [← e3]; exact hb1.sim S1.symm
            rcases hmade' with h | h
            · exact ⟨_, .fn rp.self hx0 (e1.symm.trans h) hl hr'⟩
            · exact ⟨_, .pair rp.self hx0 (e1.symm.trans h) hl hr'⟩
          have wp : mk3[p]? = some 1 := (w3 p).2 ((w2 p).2 (by rw [g1, if_pos rfl]))
          refine ⟨max n1 (max n2 n3) + 1, false, st3, mk3.set p 2, fun n hn => ?_, W3, (S1.trans H2.sim).trans H3.sim, fun h => (by cases h), fun _ => ⟨?_, ⟨?_, fun q m hq => ?_, fun q hq => ?_⟩, fun q => ?_, ?_⟩⟩
          · obtain ⟨m, rfl⟩ : ∃ m, n = m + 1 := ⟨n - 1, by omega⟩
            rw [unf m (by omega), h2 m (by omega)]
            simp only [Option.bind_some, Bool.false_eq_true, if_false]
            rw [h3 m (by omega)]
            rfl
          · obtain ⟨c, hc⟩ := FP
            exact ⟨c, hc.move ⟨p, rp.self, rp⟩⟩
          · simp [M3.len, H2.sim.len, S1.len]
          · rw [g3] at hq
            split at hq
            · cases hq; exact .inr (.inr rfl)
            · exact M3.val q m hq
          · rw [g3] at hq
            split at hq
            · rename_i h; rw [h]; exact FP
            · obtain ⟨c, hc⟩ := M3.done q hq
              exact ⟨c, (hc.sim H2.sim.symm).sim S1.symm⟩
          · rw [g3]
            by_cases hq : q = p
            · subst hq
              simp [hp0]
            · rw [if_neg hq, w3 q, w2 q, g1, if_neg hq]
          · have := zeros_set' (m := 2) wp (by omega) (by omega)
            have := zeros_set (m := 1) hp0 (by omega)
            omega

theorem from_spec {f : Nat → Nat} {N : Nat} : ∀ (k : Nat) {st : SS} {mk : List Int} {r : Nat}, st.Wf f → Marks st mk → (∀ p : Nat, mk[p]? ≠ some 1) → N = st.shs.length → r + k = N →
    ∃ n0 b st', (∀ n, n0 ≤ n → endlessFrom n (k + 1) st mk r N = some (b, st')) ∧ st'.Wf f ∧ st.Sim st' ∧ (b = true → ∀ v : Nat → Ty, ¬ st.sat v) ∧ (b = false → ∀ q, r ≤ q → q < N → ∃ a, FinT st q a) := by
  intro k
  induction k with
  | zero =>
    intro st mk r W M h1 hN hk
    refine ⟨0, false, st, fun n _ => ?_, W, .refl _, fun h => (by cases h), fun _ q h2 h3 => absurd h3 (by omega)⟩
    rw [endlessFrom, if_neg (by omega)]
  | succ k ih =>
    intro st mk r W M h1 hN hk
    obtain ⟨n1, b1, st1, mk1, g1, W1, H1⟩ := holds_spec (zeros mk) W M (Nat.le_refl _) (r := r) (by omega) (fun v _ p hp => absurd hp (h1 p))
    cases b1 with
    | true =>
      refine ⟨n1, true, st1, fun n hn => ?_, W1, H1.sim, fun _ => H1.yes rfl, fun h => (by cases h)⟩
      rw [endlessFrom, if_pos (by omega), g1 n hn]
      rfl
    | false =>
      obtain ⟨F1, M1, w1, _⟩ := H1.no rfl
      have M1' : Marks st1 mk1 := ⟨by rw [M1.len, H1.sim.len], M1.val, fun q hq => by obtain ⟨c, hc⟩ := M1.done q hq; exact ⟨c, hc.sim H1.sim⟩⟩
      obtain ⟨n2, b2, st2, g2, W2, S2, y2, o2⟩ := ih (st := st1) (mk := mk1) (r := r + 1) W1 M1' (fun p hp => h1 p ((w1 p).1 hp)) (by rw [H1.sim.len]; exact hN) (by omega)
      refine ⟨max n1 n2, b2, st2, fun n hn => ?_, W2, H1.sim.trans S2, fun h v s => y2 h v (H1.sim.sat.1 s), fun h q h3 h4 => ?_⟩
      · rw [endlessFrom, if_pos (by omega), g1 n (by omega)]
        simp only [Option.bind_some, Bool.false_eq_true, if_false]
        exact g2 n (by omega)
      · by_cases hq : q = r
        · rw [hq]; exact F1
        · obtain ⟨a, ha⟩ := o2 h q (by omega) h4
          exact ⟨a, ha.sim H1.sim.symm⟩

theorem endless_spec {f : Nat → Nat} {st : SS} (W : st.Wf f) : ∃ n0 b st', (∀ n, n0 ≤ n → endlessS n st = some (b, st')) ∧ st'.Wf f ∧ st.Sim st' ∧ (b = true → ∀ v : Nat → Ty, ¬ st.sat v) ∧ (b = false → ∀ q, q < st.shs.length → ∃ a, FinT st q a) := by
  have M : Marks st (List.replicate st.shs.length 0) := by
    refine ⟨by simp, fun p m hp => ?_, fun p hp => ?_⟩
    · rw [List.getElem?_replicate] at hp
      split at hp <;> cases hp
      exact .inl rfl
    · rw [List.getElem?_replicate] at hp
      split at hp <;> cases hp
  obtain ⟨n0, b, st', g, W', S, y, o⟩ := from_spec (N := st.shs.length) st.shs.length W M (r := 0) (fun p hp => by
    rw [List.getElem?_replicate] at hp
    split at hp <;> cases hp) rfl (by omega)
  exact ⟨n0, b, st', g, W', S, y, fun h q hq => o h q (Nat.zero_le _) hq⟩

def Ty.sub (s : Nat → Ty) : Ty → Ty
  | .var n => s n
  | .int => .int
  | .bool => .bool
  | .fn a b => .fn (a.sub s) (b.sub s)
  | .pair a b => .pair (a.sub s) (b.sub s)

theorem FinT.val {st : SS} {v : Nat → Ty} (s : st.sat v) {r : Nat} {a : Ty} (h : FinT st r a) : v r = a.sub v := by
  induction h with
  | var hr hx hs => exact s.root _ _ hr
  | int hr hx hs => rw [s.root _ _ hr]; exact (s.shape _ _ hx).1 hs
  | bool hr hx hs => rw [s.root _ _ hr]; exact (s.shape _ _ hx).2.1 hs
  | fn hr hx hs _ _ ha hb => rw [s.root _ _ hr, (s.shape _ _ hx).2.2.1 hs, ha, hb]; rfl
  | pair hr hx hs _ _ ha hb => rw [s.root _ _ hr, (s.shape _ _ hx).2.2.2 hs, ha, hb]; rfl

theorem SS.eqv_rel (st : SS) : Rel st.eqv := ⟨fun h => h.symm, fun h k => h.trans k⟩

theorem sat_of_fin {st : SS} {f : Nat → Nat} (W : st.Wf f) (hc : st.clash = false) (C : st.Closed []) (F : ∀ q, q < st.shs.length → ∃ a, FinT st q a) (s : Nat → Ty) : ∃ v, st.sat v ∧ ∀ r a, FinT st r a → v r = a.sub s := by
  classical
  let v : Nat → Ty := fun r => if h : r < st.shs.length then (Classical.choose (F r h)).sub s else .int
  have hv : ∀ r a, FinT st r a → v r = a.sub s := by
    intro r a h
    have hr : r < st.shs.length := by cases h with
      | var hr => exact hr.lt.1
      | int hr => exact hr.lt.1
      | bool hr => exact hr.lt.1
      | fn hr => exact hr.lt.1
      | pair hr => exact hr.lt.1
    simp only [v, dif_pos hr]
    rw [(Classical.choose_spec (F r hr)).unique h]
  refine ⟨v, ⟨hc, fun r p hr => ?_, fun r x hx => ?_⟩, hv⟩
  · obtain ⟨a, ha⟩ := F r hr.lt.1
    rw [hv r a ha, hv p a (ha.move ⟨p, hr, hr.self⟩)]
  · have hr := (List.getElem?_eq_some_iff.1 hx).1
    obtain ⟨p, hp⟩ := W.rooted hr
    obtain ⟨y, hy, _⟩ := hp.root
    have like := W.like r p x y hx hp hy
    have range := W.range r x hx
    refine ⟨fun h => ?_, fun h => ?_, fun h => ?_, fun h => ?_⟩
    · rw [hv r _ (.int hp hy (by rw [like (by omega), h]))]; rfl
    · rw [hv r _ (.bool hp hy (by rw [like (by omega), h]))]; rfl
    · obtain ⟨c1, c2⟩ := C st.eqv st.eqv_rel (fun _ _ h => h) (by simp) r p x y hx hp hy (.inl h)
      obtain ⟨a, ha⟩ := F x.left range.2.1
      obtain ⟨b, hb⟩ := F x.right range.2.2
      rw [hv r _ (.fn hp hy (by rw [like (by omega), h]) (ha.move c1) (hb.move c2)), hv _ _ ha, hv _ _ hb]; rfl
    · obtain ⟨c1, c2⟩ := C st.eqv st.eqv_rel (fun _ _ h => h) (by simp) r p x y hx hp hy (.inr h)
      obtain ⟨a, ha⟩ := F x.left range.2.1
      obtain ⟨b, hb⟩ := F x.right range.2.2
      rw [hv r _ (.pair hp hy (by rw [like (by omega), h]) (ha.move c1) (hb.move c2)), hv _ _ ha, hv _ _ hb]; rfl

def Most (t : T) (a : Ty) : Prop := ∀ b, Typ t .nil b ↔ ∃ s, b = a.sub s

theorem infer_most {t : T} {w : Nat} (hw : weightS t .nil = some w) (hl : w ≤ 2000) : ∃ n0 r st, (∀ n, n0 ≤ n → inferS n t .nil ss2 = some (r, st)) ∧
    ((st.clash = true ∧ ∀ a, ¬ Typ t .nil a) ∨ (st.clash = false ∧ ∃ b st', (∀ n, n0 ≤ n → endlessS n st = some (b, st')) ∧ ((b = true ∧ ∀ a, ¬ Typ t .nil a) ∨ (b = false ∧ (∃ f, st'.Wf f) ∧ ∃ a, FinT st' r a ∧ Most t a)))) := by
  obtain ⟨n1, r, st, g1, ⟨f, W⟩, hr, hC, hs, hcm, _⟩ := infer_root hw hl
  cases hc : st.clash with
  | true =>
    refine ⟨n1, r, st, g1, .inl ⟨hc, fun a ha => ?_⟩⟩
    obtain ⟨v, s, _⟩ := hcm ha
    rw [s.clash] at hc
    cases hc
  | false =>
    obtain ⟨n2, b, st', g2, W', S, y, o⟩ := endless_spec W
    refine ⟨max n1 n2, r, st, fun n hn => g1 n (by omega), .inr ⟨hc, b, st', fun n hn => g2 n (by omega), ?_⟩⟩
    cases b with
    | true =>
      refine .inl ⟨rfl, fun a ha => ?_⟩
      obtain ⟨v, s, _⟩ := hcm ha
      exact y rfl v s
    | false =>
      obtain ⟨a, ha⟩ := o rfl r hr
      refine .inr ⟨rfl, ⟨f, W'⟩, a, ha.sim S, fun c => ⟨fun hcT => ?_, fun ⟨s, hsub⟩ => ?_⟩⟩
      · obtain ⟨v, s, e⟩ := hcm hcT
        exact ⟨v, by rw [← e]; exact ha.val s⟩
      · obtain ⟨v, s1, s2⟩ := sat_of_fin W hc (hC hc) (o rfl) s
        rw [hsub, ← s2 r a ha]
        exact hs s1

end Go.Proofs.YtckhafpejefbbaaGreatDoor.Tw

/- Package scope at int; tree.parts. -/
namespace Go.Proofs.YtckhafpejefbbaaGreatDoor
open Go.RowKit

def WAt (w : World) : Tw.WEn → Value → Prop
  | .nil, v => v = .pointer none
  | .cons n k o, v => ∃ b vo, v = .pointer (some ⟨b, 0, none⟩) ∧ w.heap[b]? = some (.cells #[bytesV n, .int .i64 k, vo] 360 (0, 0)) ∧ WAt w o vo

theorem WAt.grown {w w' : World} (hk : w.grownBy w' none) : ∀ {e : Tw.WEn} {v : Value}, WAt w e v → WAt w' e v
  | .nil, _, h => h
  | .cons .., _, ⟨b, vo, hv, hb, ho⟩ => ⟨b, vo, hv, (hk.block b (Array.getElem?_eq_some_iff.1 hb).1 (by simp)).trans hb, WAt.grown hk ho⟩

theorem WAt.ptr {w : World} {e : Tw.WEn} {v : Value} (h : WAt w e v) : ∃ a, v = .pointer a := by
  cases e with
  | nil => exact ⟨none, h⟩
  | cons => obtain ⟨b, _, hv, _⟩ := h; exact ⟨_, hv⟩

set_option maxRecDepth 100000 in
set_option maxHeartbeats 1000000 in
theorem withW_any {w : World} {e : Tw.WEn} {v : Value} (he : WAt w e v) (n : List UInt8) (k : Nat) :
    Calls Tryz.prog 164 #[v, bytesV n, .int .i64 k] w fun r w' => ∃ a, r = .returned (.pointer a) ∧ w.grownBy w' none ∧ WAt w' (.cons n k e) (.pointer a) := by
  have HE : Hid (WAt w e v) := he
  obtain ⟨a, rfl⟩ := he.ptr
  clear he
  go_enter Tryz.func164, Tryz.ntmps164
  go_wp2_with fail
  go_ret
  exact ⟨_, rfl, World.grownBy_alloc _ _ none, _, _, rfl, new_block w _, HE.out.grown (World.grownBy_alloc _ _ none)⟩

set_option maxRecDepth 100000 in
set_option maxHeartbeats 2000000 in
theorem findW_any {w : World} {e : Tw.WEn} {v : Value} (he : WAt w e v) (x : List UInt8) {k : Nat} (hm : e.look x = some k) :
    Calls Tryz.prog 163 #[v, bytesV x] w fun r w' => r = .returned (.tuple #[.int .i64 k, .bool true]) ∧ w = w' := by
  have HE : Hid (WAt w e v) := he
  have HM : Hid (e.look x = some k) := hm
  clear he hm
  go_enter Tryz.func163, Tryz.ntmps163
  go_wp2_with fail
  go_loopg [0] e.size (fun j pv wr => wr = w ∧ ∃ ek : Tw.WEn, j = ek.size ∧ Hid (WAt w ek pv) ∧ Hid (ek.look x = some k))
  case atStart => exact ⟨rfl, e, rfl, HE, HM⟩
  case round =>
    obtain ⟨hw, ek, hks, HK, HL⟩ := hrel
    subst hw
    cases ek with
    | nil => have := HL.out; simp [Tw.WEn.look] at this
    | cons n r o =>
      obtain ⟨b, vo, hv, hb, ho⟩ := HK.out
      obtain ⟨a, rfl⟩ := ho.ptr
      subst hv
      obtain ⟨c0, c1, c2, _⟩ := three_cells hb
      have HO : Hid (WAt wr o (.pointer a)) := ho
      have hl := HL.out
      simp only [Tw.WEn.look] at hl
      clear HK HL hb ho HE HM
      by_cases hn : n = x
      · rw [if_pos hn] at hl
        simp only [Option.some.injEq] at hl
        subst hl
        have be : (n == x) = true := by simp [hn]
        clear hn
        go_wp2_with fail
        go_ret2
        exact ⟨rfl, rfl⟩
      · rw [if_neg hn] at hl
        have be : (n == x) = false := by simp [hn]
        have HL : Hid (o.look x = some k) := hl
        clear hn hl
        go_wp2_with fail
        go_roundg o.size
        case measure => simp [Tw.WEn.size] at hks; omega
        case rel => exact ⟨rfl, o, rfl, HO, HL⟩

end Go.Proofs.YtckhafpejefbbaaGreatDoor

/- tree.parts. -/
namespace Go.Proofs.YtckhafpejefbbaaGreatDoor
open Go.RowKit

def kidCells (l : List Value) : Array Value := l.toArray

def PartsPost (w : World) (l : List Value) (e : Ending) (w' : World) : Prop := w.grownBy w' none ∧
  ((l = [] ∧ e = .returned (.slice none 0 0)) ∨ ∃ k, e = .returned (.slice (some ⟨k, 0, none⟩) l.length l.length) ∧ w'.heap[k]? = some (.cells (kidCells l) 68 (0, 0)))

set_option maxRecDepth 100000 in
set_option maxHeartbeats 2000000 in
theorem parts_Int (w : World) (b : Nat) :
    Calls Tryz.prog 162 #[.iface 191 (.pointer (some ⟨b, 0, none⟩))] w (PartsPost w []) := by
  have q0 := ta_Int_Bracket
  have q1 := ta_Int_Pair
  have q2 := ta_Int_Call
  have q3 := ta_Int_Binary
  have q4 := ta_Int_If
  have q5 := ta_Int_Fun
  have q6 := ta_Int_Let
  go_enter Tryz.func162, Tryz.ntmps162
  go_wp2_with fail
  go_ret
  exact ⟨grown_refl _, .inl ⟨rfl, rfl⟩⟩

set_option maxRecDepth 100000 in
set_option maxHeartbeats 2000000 in
theorem parts_Truth (w : World) (b : Nat) :
    Calls Tryz.prog 162 #[.iface 195 (.pointer (some ⟨b, 0, none⟩))] w (PartsPost w []) := by
  have q0 := ta_Truth_Bracket
  have q1 := ta_Truth_Pair
  have q2 := ta_Truth_Call
  have q3 := ta_Truth_Binary
  have q4 := ta_Truth_If
  have q5 := ta_Truth_Fun
  have q6 := ta_Truth_Let
  go_enter Tryz.func162, Tryz.ntmps162
  go_wp2_with fail
  go_ret
  exact ⟨grown_refl _, .inl ⟨rfl, rfl⟩⟩

set_option maxRecDepth 100000 in
set_option maxHeartbeats 2000000 in
theorem parts_Side (w : World) (b : Nat) :
    Calls Tryz.prog 162 #[.iface 199 (.pointer (some ⟨b, 0, none⟩))] w (PartsPost w []) := by
  have q0 := ta_Side_Bracket
  have q1 := ta_Side_Pair
  have q2 := ta_Side_Call
  have q3 := ta_Side_Binary
  have q4 := ta_Side_If
  have q5 := ta_Side_Fun
  have q6 := ta_Side_Let
  go_enter Tryz.func162, Tryz.ntmps162
  go_wp2_with fail
  go_ret
  exact ⟨grown_refl _, .inl ⟨rfl, rfl⟩⟩

set_option maxRecDepth 100000 in
set_option maxHeartbeats 2000000 in
theorem parts_Bracket {w : World} {b : Nat} {fr to : Nat} {v1 : Value} (h0 : ∃ T n, v1 = .iface T (.pointer (some ⟨n, 0, none⟩))) (hb : w.heap[b]? = some (.cells #[.int .i64 fr, .int .i64 to, v1] 206 (0, 0))) :
    Calls Tryz.prog 162 #[.iface 204 (.pointer (some ⟨b, 0, none⟩))] w (PartsPost w [v1]) := by
  obtain ⟨T0, n0, rfl⟩ := h0
  have c0 : w.cell? ⟨b, 2, none⟩ = some (.iface T0 (.pointer (some ⟨n0, 0, none⟩))) := by rw [cell_of_row _ _ _ _ _ _ hb]; rfl
  have q0 := ta_Bracket_Bracket
  have q1 := ta_Bracket_Pair
  have q2 := ta_Bracket_Call
  have q3 := ta_Bracket_Binary
  have q4 := ta_Bracket_If
  have q5 := ta_Bracket_Fun
  have q6 := ta_Bracket_Let
  clear hb
  go_enter Tryz.func162, Tryz.ntmps162
  go_wp2_with fail
  go_ret
  exact ⟨World.grownBy_alloc _ _ none, .inr ⟨_, rfl, new_block w _⟩⟩

set_option maxRecDepth 100000 in
set_option maxHeartbeats 2000000 in
theorem parts_Pair {w : World} {b : Nat} {fr to : Nat} {v1 : Value} {v2 : Value} (h0 : ∃ T n, v1 = .iface T (.pointer (some ⟨n, 0, none⟩))) (h1 : ∃ T n, v2 = .iface T (.pointer (some ⟨n, 0, none⟩))) (hb : w.heap[b]? = some (.cells #[.int .i64 fr, .int .i64 to, v1, v2] 229 (0, 0))) :
    Calls Tryz.prog 162 #[.iface 207 (.pointer (some ⟨b, 0, none⟩))] w (PartsPost w [v1, v2]) := by
  obtain ⟨T0, n0, rfl⟩ := h0
  obtain ⟨T1, n1, rfl⟩ := h1
  have c0 : w.cell? ⟨b, 2, none⟩ = some (.iface T0 (.pointer (some ⟨n0, 0, none⟩))) := by rw [cell_of_row _ _ _ _ _ _ hb]; rfl
  have c1 : w.cell? ⟨b, 3, none⟩ = some (.iface T1 (.pointer (some ⟨n1, 0, none⟩))) := by rw [cell_of_row _ _ _ _ _ _ hb]; rfl
  have q0 := ta_Pair_Bracket
  have q1 := ta_Pair_Pair
  have q2 := ta_Pair_Call
  have q3 := ta_Pair_Binary
  have q4 := ta_Pair_If
  have q5 := ta_Pair_Fun
  have q6 := ta_Pair_Let
  clear hb
  go_enter Tryz.func162, Tryz.ntmps162
  go_wp2_with fail
  go_region
  go_wp2_with fail
  go_ret
  exact ⟨grown_drew (World.grownBy_alloc _ _ none), .inr ⟨_, rfl, new_block w _⟩⟩

set_option maxRecDepth 100000 in
set_option maxHeartbeats 2000000 in
theorem parts_Call {w : World} {b : Nat} {fr to : Nat} {v1 : Value} {v2 : Value} (h0 : ∃ T n, v1 = .iface T (.pointer (some ⟨n, 0, none⟩))) (h1 : ∃ T n, v2 = .iface T (.pointer (some ⟨n, 0, none⟩))) (hb : w.heap[b]? = some (.cells #[.int .i64 fr, .int .i64 to, v1, v2] 319 (0, 0))) :
    Calls Tryz.prog 162 #[.iface 209 (.pointer (some ⟨b, 0, none⟩))] w (PartsPost w [v1, v2]) := by
  obtain ⟨T0, n0, rfl⟩ := h0
  obtain ⟨T1, n1, rfl⟩ := h1
  have c0 : w.cell? ⟨b, 2, none⟩ = some (.iface T0 (.pointer (some ⟨n0, 0, none⟩))) := by rw [cell_of_row _ _ _ _ _ _ hb]; rfl
  have c1 : w.cell? ⟨b, 3, none⟩ = some (.iface T1 (.pointer (some ⟨n1, 0, none⟩))) := by rw [cell_of_row _ _ _ _ _ _ hb]; rfl
  have q0 := ta_Call_Bracket
  have q1 := ta_Call_Pair
  have q2 := ta_Call_Call
  have q3 := ta_Call_Binary
  have q4 := ta_Call_If
  have q5 := ta_Call_Fun
  have q6 := ta_Call_Let
  clear hb
  go_enter Tryz.func162, Tryz.ntmps162
  go_wp2_with fail
  go_region
  go_wp2_with fail
  go_ret
  exact ⟨grown_drew (World.grownBy_alloc _ _ none), .inr ⟨_, rfl, new_block w _⟩⟩

set_option maxRecDepth 100000 in
set_option maxHeartbeats 2000000 in
theorem parts_Binary {w : World} {b : Nat} {fr to : Nat} {sg : Int} {v1 : Value} {v2 : Value} (h0 : ∃ T n, v1 = .iface T (.pointer (some ⟨n, 0, none⟩))) (h1 : ∃ T n, v2 = .iface T (.pointer (some ⟨n, 0, none⟩))) (hb : w.heap[b]? = some (.cells #[.int .i64 fr, .int .i64 to, .int .i64 sg, v1, v2] 322 (0, 0))) :
    Calls Tryz.prog 162 #[.iface 211 (.pointer (some ⟨b, 0, none⟩))] w (PartsPost w [v1, v2]) := by
  obtain ⟨T0, n0, rfl⟩ := h0
  obtain ⟨T1, n1, rfl⟩ := h1
  have c0 : w.cell? ⟨b, 3, none⟩ = some (.iface T0 (.pointer (some ⟨n0, 0, none⟩))) := by rw [cell_of_row _ _ _ _ _ _ hb]; rfl
  have c1 : w.cell? ⟨b, 4, none⟩ = some (.iface T1 (.pointer (some ⟨n1, 0, none⟩))) := by rw [cell_of_row _ _ _ _ _ _ hb]; rfl
  have q0 := ta_Binary_Bracket
  have q1 := ta_Binary_Pair
  have q2 := ta_Binary_Call
  have q3 := ta_Binary_Binary
  have q4 := ta_Binary_If
  have q5 := ta_Binary_Fun
  have q6 := ta_Binary_Let
  clear hb
  go_enter Tryz.func162, Tryz.ntmps162
  go_wp2_with fail
  go_region
  go_wp2_with fail
  go_ret
  exact ⟨grown_drew (World.grownBy_alloc _ _ none), .inr ⟨_, rfl, new_block w _⟩⟩

set_option maxRecDepth 100000 in
set_option maxHeartbeats 2000000 in
theorem parts_If {w : World} {b : Nat} {fr to : Nat} {v1 : Value} {v2 : Value} {v3 : Value} (h0 : ∃ T n, v1 = .iface T (.pointer (some ⟨n, 0, none⟩))) (h1 : ∃ T n, v2 = .iface T (.pointer (some ⟨n, 0, none⟩))) (h2 : ∃ T n, v3 = .iface T (.pointer (some ⟨n, 0, none⟩))) (hb : w.heap[b]? = some (.cells #[.int .i64 fr, .int .i64 to, v1, v2, v3] 326 (0, 0))) :
    Calls Tryz.prog 162 #[.iface 213 (.pointer (some ⟨b, 0, none⟩))] w (PartsPost w [v1, v2, v3]) := by
  obtain ⟨T0, n0, rfl⟩ := h0
  obtain ⟨T1, n1, rfl⟩ := h1
  obtain ⟨T2, n2, rfl⟩ := h2
  have c0 : w.cell? ⟨b, 2, none⟩ = some (.iface T0 (.pointer (some ⟨n0, 0, none⟩))) := by rw [cell_of_row _ _ _ _ _ _ hb]; rfl
  have c1 : w.cell? ⟨b, 3, none⟩ = some (.iface T1 (.pointer (some ⟨n1, 0, none⟩))) := by rw [cell_of_row _ _ _ _ _ _ hb]; rfl
  have c2 : w.cell? ⟨b, 4, none⟩ = some (.iface T2 (.pointer (some ⟨n2, 0, none⟩))) := by rw [cell_of_row _ _ _ _ _ _ hb]; rfl
  have q0 := ta_If_Bracket
  have q1 := ta_If_Pair
  have q2 := ta_If_Call
  have q3 := ta_If_Binary
  have q4 := ta_If_If
  have q5 := ta_If_Fun
  have q6 := ta_If_Let
  clear hb
  go_enter Tryz.func162, Tryz.ntmps162
  go_wp2_with fail
  go_region
  go_wp2_with fail
  go_ret
  exact ⟨grown_drew (World.grownBy_alloc _ _ none), .inr ⟨_, rfl, new_block w _⟩⟩

end Go.Proofs.YtckhafpejefbbaaGreatDoor

/- tree.weight. -/
namespace Go.Proofs.YtckhafpejefbbaaGreatDoor
open Go.RowKit

def WPost (w : World) (k : Nat) (r : Ending) (w' : World) : Prop := r = .returned (.int .i64 k) ∧ w.grownBy w' none

def KidSaid (w : World) (ev v : Value) (k : Nat) : Prop := ∀ W : World, w.grownBy W none → Calls Tryz.prog 87 #[v, ev] W (WPost W k)

def sumTo (ks : List Nat) (j : Nat) : Nat := (ks.take j).sum

theorem sumTo_succ (ks : List Nat) (j : Nat) (h : j < ks.length) : sumTo ks (j + 1) = sumTo ks j + ks[j] := by
  unfold sumTo
  rw [List.take_succ_eq_append_getElem h, List.sum_append]
  simp

theorem sumTo_le (ks : List Nat) (hk : ∀ k ∈ ks, k ≤ 2001) : ∀ j, sumTo ks j ≤ j * 2001 := by
  intro j
  induction j with
  | zero => simp [sumTo]
  | succ j ih =>
    by_cases h : j < ks.length
    · rw [sumTo_succ ks j h]
      have := hk ks[j] (List.getElem_mem h)
      omega
    · have : sumTo ks (j + 1) = sumTo ks j := by
        unfold sumTo
        rw [List.take_of_length_le (by omega), List.take_of_length_le (by omega)]
      omega

set_option maxRecDepth 100000 in
set_option maxHeartbeats 4000000 in
theorem weight_Int {w : World} {b : Nat} {ev : Value} {vs : List Value} {ks : List Nat} (hP : Calls Tryz.prog 162 #[.iface 191 (.pointer (some ⟨b, 0, none⟩))] w (PartsPost w vs)) (hea : ∃ a, ev = .pointer a)
    (hlen : vs.length = ks.length) (hl3 : ks.length ≤ 3) (hK : ∀ j (h1 : j < vs.length) (h2 : j < ks.length), (∃ T n, vs[j] = .iface T (.pointer (some ⟨n, 0, none⟩))) ∧ KidSaid w ev vs[j] ks[j]) (hks : ∀ k ∈ ks, k ≤ 2001) :
    Calls Tryz.prog 87 #[.iface 191 (.pointer (some ⟨b, 0, none⟩)), ev] w (WPost w (min (1 + ks.sum) 2001)) := by
  obtain ⟨a, rfl⟩ := hea
  have HP := hide hP
  have HK := hide hK
  have HB := hide (sumTo_le ks hks)
  have HSUM : Hid (sumTo ks ks.length = ks.sum) := by show _ = _; unfold sumTo; rw [List.take_length]
  generalize hR : min (1 + ks.sum) 2001 = R
  have HR := hide hR
  clear hR
  have q0 := ta_Int_Name
  have q1 := ta_Int_Fun
  have q2 := ta_Int_Let
  clear hP hK hks
  go_enter Tryz.func87, Tryz.ntmps87
  go_wp2_with fail
  refine (unhide HP).mono ?_
  rintro e1 w1 ⟨hg, hcase⟩
  have G1 : Hid (w.grownBy w1 none) := hg
  clear hg
  rcases hcase with ⟨rfl, rfl⟩ | ⟨k, rfl, hk⟩
  · have hk0 : ks = [] := by simpa using hlen.symm
    subst hk0
    go_wp2_with fail
    go_loopg [5, 18] 0 (fun j tot iv wr => tot = .int .i64 1 ∧ iv = .int .i64 0 ∧ wr = w1)
    case atStart => exact ⟨rfl, rfl, rfl⟩
    case round =>
      obtain ⟨rfl, rfl, rfl⟩ := hrel
      go_wp2_with fail
      all_goals
        go_ret
        go_light
        exact ⟨ret_int (by have := unhide HR; simp at this; omega), G1.out⟩
  · have C1 : Hid (w1.heap[k]? = some (.cells (kidCells vs) 68 (0, 0))) := hk
    clear hk
    have c65 : Tryz.prog.cellsOf 68 = 1 := by kernel_rfl
    obtain ⟨N, hV⟩ : ∃ N, vs.length = N := ⟨_, rfl⟩
    rw [hV]
    have HV := hide hV
    have hLN : N = ks.length := by omega
    have HLN := hide hLN
    have hN3 : N ≤ 3 := by omega
    clear hV hlen hLN
    go_wp2_with fail
    go_loopg [5, 18] N (fun j tot iv wr => ∃ q : Nat, j + q = N ∧ q ≤ N ∧ tot = .int .i64 ((1 + sumTo ks q : Nat) : Int) ∧ iv = .int .i64 q ∧ Hid (w1.grownBy wr none))
    case atStart => exact ⟨0, by omega, by omega, by simp [sumTo], rfl, grown_refl _⟩
    case round =>
      obtain ⟨q, hjq, hq, rfl, rfl, GR⟩ := hrel
      have hb := unhide HB q
      by_cases hlt : q < N
      · have h1 : q < vs.length := by rw [unhide HV]; exact hlt
        have h2 : q < ks.length := by rw [← unhide HLN]; exact hlt
        obtain ⟨⟨T, nn, hv⟩, hks⟩ := unhide HK q h1 h2
        rw [hv] at hks
        have hc : wr.cell? ⟨k, q, none⟩ = some (.iface T (.pointer (some ⟨nn, 0, none⟩))) := by
          rw [cell_of_row wr k _ _ _ _ ((GR.out.block k (Array.getElem?_eq_some_iff.1 C1.out).1 (by simp)).trans C1.out)]
          simp [kidCells, h1, hv]
        have hqi : (q : Int) < (N : Int) := by omega
        have KS := hide (hks wr (grown_trans G1.out GR.out))
        have hss := hide (sumTo_succ ks q h2)
        have hb2 := unhide HB (q + 1)
        rw [unhide hss] at hb2
        generalize ks[q] = kq at *
        generalize hsq : sumTo ks q = sq at *
        clear hks hv h1 h2 hsq
        go_wp2_with fail
        refine (unhide KS).mono ?_
        rintro e2 w2 ⟨rfl, hg⟩
        have G2 : Hid (w1.grownBy w2 none) := grown_trans GR.out hg
        clear hg
        go_wp2_with fail
        go_roundg (gk - 1)
        case measure => omega
        case rel => exact ⟨q + 1, by omega, by omega, val_int (by rw [unhide hss]; omega), by go_num, G2⟩
      · have hqN : q = N := by omega
        generalize hsq : sumTo ks q = sq at *
        have HSQ := hide hsq
        clear hsq
        have e1 := unhide HSQ
        rw [hqN, unhide HLN, HSUM.out] at e1
        have hr := unhide HR
        rw [e1] at hr
        have HR2 := hide hr
        clear e1 hr HR HSQ hqN
        go_wp2_with fail
        all_goals
          go_ret
          go_light
          refine ⟨ret_int ?_, grown_trans G1.out GR.out⟩
          have hr := unhide HR2
          omega

set_option maxRecDepth 100000 in
set_option maxHeartbeats 4000000 in
theorem weight_Truth {w : World} {b : Nat} {ev : Value} {vs : List Value} {ks : List Nat} (hP : Calls Tryz.prog 162 #[.iface 195 (.pointer (some ⟨b, 0, none⟩))] w (PartsPost w vs)) (hea : ∃ a, ev = .pointer a)
    (hlen : vs.length = ks.length) (hl3 : ks.length ≤ 3) (hK : ∀ j (h1 : j < vs.length) (h2 : j < ks.length), (∃ T n, vs[j] = .iface T (.pointer (some ⟨n, 0, none⟩))) ∧ KidSaid w ev vs[j] ks[j]) (hks : ∀ k ∈ ks, k ≤ 2001) :
    Calls Tryz.prog 87 #[.iface 195 (.pointer (some ⟨b, 0, none⟩)), ev] w (WPost w (min (1 + ks.sum) 2001)) := by
  obtain ⟨a, rfl⟩ := hea
  have HP := hide hP
  have HK := hide hK
  have HB := hide (sumTo_le ks hks)
  have HSUM : Hid (sumTo ks ks.length = ks.sum) := by show _ = _; unfold sumTo; rw [List.take_length]
  generalize hR : min (1 + ks.sum) 2001 = R
  have HR := hide hR
  clear hR
  have q0 := ta_Truth_Name
  have q1 := ta_Truth_Fun
  have q2 := ta_Truth_Let
  clear hP hK hks
  go_enter Tryz.func87, Tryz.ntmps87
  go_wp2_with fail
  refine (unhide HP).mono ?_
  rintro e1 w1 ⟨hg, hcase⟩
  have G1 : Hid (w.grownBy w1 none) := hg
  clear hg
  rcases hcase with ⟨rfl, rfl⟩ | ⟨k, rfl, hk⟩
  · have hk0 : ks = [] := by simpa using hlen.symm
    subst hk0
    go_wp2_with fail
    go_loopg [5, 18] 0 (fun j tot iv wr => tot = .int .i64 1 ∧ iv = .int .i64 0 ∧ wr = w1)
    case atStart => exact ⟨rfl, rfl, rfl⟩
    case round =>
      obtain ⟨rfl, rfl, rfl⟩ := hrel
      go_wp2_with fail
      all_goals
        go_ret
        go_light
        exact ⟨ret_int (by have := unhide HR; simp at this; omega), G1.out⟩
  · have C1 : Hid (w1.heap[k]? = some (.cells (kidCells vs) 68 (0, 0))) := hk
    clear hk
    have c65 : Tryz.prog.cellsOf 68 = 1 := by kernel_rfl
    obtain ⟨N, hV⟩ : ∃ N, vs.length = N := ⟨_, rfl⟩
    rw [hV]
    have HV := hide hV
    have hLN : N = ks.length := by omega
    have HLN := hide hLN
    have hN3 : N ≤ 3 := by omega
    clear hV hlen hLN
    go_wp2_with fail
    go_loopg [5, 18] N (fun j tot iv wr => ∃ q : Nat, j + q = N ∧ q ≤ N ∧ tot = .int .i64 ((1 + sumTo ks q : Nat) : Int) ∧ iv = .int .i64 q ∧ Hid (w1.grownBy wr none))
    case atStart => exact ⟨0, by omega, by omega, by simp [sumTo], rfl, grown_refl _⟩
    case round =>
      obtain ⟨q, hjq, hq, rfl, rfl, GR⟩ := hrel
      have hb := unhide HB q
      by_cases hlt : q < N
      · have h1 : q < vs.length := by rw [unhide HV]; exact hlt
        have h2 : q < ks.length := by rw [← unhide HLN]; exact hlt
        obtain ⟨⟨T, nn, hv⟩, hks⟩ := unhide HK q h1 h2
        rw [hv] at hks
        have hc : wr.cell? ⟨k, q, none⟩ = some (.iface T (.pointer (some ⟨nn, 0, none⟩))) := by
          rw [cell_of_row wr k _ _ _ _ ((GR.out.block k (Array.getElem?_eq_some_iff.1 C1.out).1 (by simp)).trans C1.out)]
          simp [kidCells, h1, hv]
        have hqi : (q : Int) < (N : Int) := by omega
        have KS := hide (hks wr (grown_trans G1.out GR.out))
        have hss := hide (sumTo_succ ks q h2)
        have hb2 := unhide HB (q + 1)
        rw [unhide hss] at hb2
        generalize ks[q] = kq at *
        generalize hsq : sumTo ks q = sq at *
        clear hks hv h1 h2 hsq
        go_wp2_with fail
        refine (unhide KS).mono ?_
        rintro e2 w2 ⟨rfl, hg⟩
        have G2 : Hid (w1.grownBy w2 none) := grown_trans GR.out hg
        clear hg
        go_wp2_with fail
        go_roundg (gk - 1)
        case measure => omega
        case rel => exact ⟨q + 1, by omega, by omega, val_int (by rw [unhide hss]; omega), by go_num, G2⟩
      · have hqN : q = N := by omega
        generalize hsq : sumTo ks q = sq at *
        have HSQ := hide hsq
        clear hsq
        have e1 := unhide HSQ
        rw [hqN, unhide HLN, HSUM.out] at e1
        have hr := unhide HR
        rw [e1] at hr
        have HR2 := hide hr
        clear e1 hr HR HSQ hqN
        go_wp2_with fail
        all_goals
          go_ret
          go_light
          refine ⟨ret_int ?_, grown_trans G1.out GR.out⟩
          have hr := unhide HR2
          omega

set_option maxRecDepth 100000 in
set_option maxHeartbeats 4000000 in
theorem weight_Side {w : World} {b : Nat} {ev : Value} {vs : List Value} {ks : List Nat} (hP : Calls Tryz.prog 162 #[.iface 199 (.pointer (some ⟨b, 0, none⟩))] w (PartsPost w vs)) (hea : ∃ a, ev = .pointer a)
    (hlen : vs.length = ks.length) (hl3 : ks.length ≤ 3) (hK : ∀ j (h1 : j < vs.length) (h2 : j < ks.length), (∃ T n, vs[j] = .iface T (.pointer (some ⟨n, 0, none⟩))) ∧ KidSaid w ev vs[j] ks[j]) (hks : ∀ k ∈ ks, k ≤ 2001) :
    Calls Tryz.prog 87 #[.iface 199 (.pointer (some ⟨b, 0, none⟩)), ev] w (WPost w (min (1 + ks.sum) 2001)) := by
  obtain ⟨a, rfl⟩ := hea
  have HP := hide hP
  have HK := hide hK
  have HB := hide (sumTo_le ks hks)
  have HSUM : Hid (sumTo ks ks.length = ks.sum) := by show _ = _; unfold sumTo; rw [List.take_length]
  generalize hR : min (1 + ks.sum) 2001 = R
  have HR := hide hR
  clear hR
  have q0 := ta_Side_Name
  have q1 := ta_Side_Fun
  have q2 := ta_Side_Let
  clear hP hK hks
  go_enter Tryz.func87, Tryz.ntmps87
  go_wp2_with fail
  refine (unhide HP).mono ?_
  rintro e1 w1 ⟨hg, hcase⟩
  have G1 : Hid (w.grownBy w1 none) := hg
  clear hg
  rcases hcase with ⟨rfl, rfl⟩ | ⟨k, rfl, hk⟩
  · have hk0 : ks = [] := by simpa using hlen.symm
    subst hk0
    go_wp2_with fail
    go_loopg [5, 18] 0 (fun j tot iv wr => tot = .int .i64 1 ∧ iv = .int .i64 0 ∧ wr = w1)
    case atStart => exact ⟨rfl, rfl, rfl⟩
    case round =>
      obtain ⟨rfl, rfl, rfl⟩ := hrel
      go_wp2_with fail
      all_goals
        go_ret
        go_light
        exact ⟨ret_int (by have := unhide HR; simp at this; omega), G1.out⟩
  · have C1 : Hid (w1.heap[k]? = some (.cells (kidCells vs) 68 (0, 0))) := hk
    clear hk
    have c65 : Tryz.prog.cellsOf 68 = 1 := by kernel_rfl
    obtain ⟨N, hV⟩ : ∃ N, vs.length = N := ⟨_, rfl⟩
    rw [hV]
    have HV := hide hV
    have hLN : N = ks.length := by omega
    have HLN := hide hLN
    have hN3 : N ≤ 3 := by omega
    clear hV hlen hLN
    go_wp2_with fail
    go_loopg [5, 18] N (fun j tot iv wr => ∃ q : Nat, j + q = N ∧ q ≤ N ∧ tot = .int .i64 ((1 + sumTo ks q : Nat) : Int) ∧ iv = .int .i64 q ∧ Hid (w1.grownBy wr none))
    case atStart => exact ⟨0, by omega, by omega, by simp [sumTo], rfl, grown_refl _⟩
    case round =>
      obtain ⟨q, hjq, hq, rfl, rfl, GR⟩ := hrel
      have hb := unhide HB q
      by_cases hlt : q < N
      · have h1 : q < vs.length := by rw [unhide HV]; exact hlt
        have h2 : q < ks.length := by rw [← unhide HLN]; exact hlt
        obtain ⟨⟨T, nn, hv⟩, hks⟩ := unhide HK q h1 h2
        rw [hv] at hks
        have hc : wr.cell? ⟨k, q, none⟩ = some (.iface T (.pointer (some ⟨nn, 0, none⟩))) := by
          rw [cell_of_row wr k _ _ _ _ ((GR.out.block k (Array.getElem?_eq_some_iff.1 C1.out).1 (by simp)).trans C1.out)]
          simp [kidCells, h1, hv]
        have hqi : (q : Int) < (N : Int) := by omega
        have KS := hide (hks wr (grown_trans G1.out GR.out))
        have hss := hide (sumTo_succ ks q h2)
        have hb2 := unhide HB (q + 1)
        rw [unhide hss] at hb2
        generalize ks[q] = kq at *
        generalize hsq : sumTo ks q = sq at *
        clear hks hv h1 h2 hsq
        go_wp2_with fail
        refine (unhide KS).mono ?_
        rintro e2 w2 ⟨rfl, hg⟩
        have G2 : Hid (w1.grownBy w2 none) := grown_trans GR.out hg
        clear hg
        go_wp2_with fail
        go_roundg (gk - 1)
        case measure => omega
        case rel => exact ⟨q + 1, by omega, by omega, val_int (by rw [unhide hss]; omega), by go_num, G2⟩
      · have hqN : q = N := by omega
        generalize hsq : sumTo ks q = sq at *
        have HSQ := hide hsq
        clear hsq
        have e1 := unhide HSQ
        rw [hqN, unhide HLN, HSUM.out] at e1
        have hr := unhide HR
        rw [e1] at hr
        have HR2 := hide hr
        clear e1 hr HR HSQ hqN
        go_wp2_with fail
        all_goals
          go_ret
          go_light
          refine ⟨ret_int ?_, grown_trans G1.out GR.out⟩
          have hr := unhide HR2
          omega

set_option maxRecDepth 100000 in
set_option maxHeartbeats 4000000 in
theorem weight_Bracket {w : World} {b : Nat} {ev : Value} {vs : List Value} {ks : List Nat} (hP : Calls Tryz.prog 162 #[.iface 204 (.pointer (some ⟨b, 0, none⟩))] w (PartsPost w vs)) (hea : ∃ a, ev = .pointer a)
    (hlen : vs.length = ks.length) (hl3 : ks.length ≤ 3) (hK : ∀ j (h1 : j < vs.length) (h2 : j < ks.length), (∃ T n, vs[j] = .iface T (.pointer (some ⟨n, 0, none⟩))) ∧ KidSaid w ev vs[j] ks[j]) (hks : ∀ k ∈ ks, k ≤ 2001) :
    Calls Tryz.prog 87 #[.iface 204 (.pointer (some ⟨b, 0, none⟩)), ev] w (WPost w (min (1 + ks.sum) 2001)) := by
  obtain ⟨a, rfl⟩ := hea
  have HP := hide hP
  have HK := hide hK
  have HB := hide (sumTo_le ks hks)
  have HSUM : Hid (sumTo ks ks.length = ks.sum) := by show _ = _; unfold sumTo; rw [List.take_length]
  generalize hR : min (1 + ks.sum) 2001 = R
  have HR := hide hR
  clear hR
  have q0 := ta_Bracket_Name
  have q1 := ta_Bracket_Fun
  have q2 := ta_Bracket_Let
  clear hP hK hks
  go_enter Tryz.func87, Tryz.ntmps87
  go_wp2_with fail
  refine (unhide HP).mono ?_
  rintro e1 w1 ⟨hg, hcase⟩
  have G1 : Hid (w.grownBy w1 none) := hg
  clear hg
  rcases hcase with ⟨rfl, rfl⟩ | ⟨k, rfl, hk⟩
  · have hk0 : ks = [] := by simpa using hlen.symm
    subst hk0
    go_wp2_with fail
    go_loopg [5, 18] 0 (fun j tot iv wr => tot = .int .i64 1 ∧ iv = .int .i64 0 ∧ wr = w1)
    case atStart => exact ⟨rfl, rfl, rfl⟩
    case round =>
      obtain ⟨rfl, rfl, rfl⟩ := hrel
      go_wp2_with fail
      all_goals
        go_ret
        go_light
        exact ⟨ret_int (by have := unhide HR; simp at this; omega), G1.out⟩
  · have C1 : Hid (w1.heap[k]? = some (.cells (kidCells vs) 68 (0, 0))) := hk
    clear hk
    have c65 : Tryz.prog.cellsOf 68 = 1 := by kernel_rfl
    obtain ⟨N, hV⟩ : ∃ N, vs.length = N := ⟨_, rfl⟩
    rw [hV]
    have HV := hide hV
    have hLN : N = ks.length := by omega
    have HLN := hide hLN
    have hN3 : N ≤ 3 := by omega
    clear hV hlen hLN
    go_wp2_with fail
    go_loopg [5, 18] N (fun j tot iv wr => ∃ q : Nat, j + q = N ∧ q ≤ N ∧ tot = .int .i64 ((1 + sumTo ks q : Nat) : Int) ∧ iv = .int .i64 q ∧ Hid (w1.grownBy wr none))
    case atStart => exact ⟨0, by omega, by omega, by simp [sumTo], rfl, grown_refl _⟩
    case round =>
      obtain ⟨q, hjq, hq, rfl, rfl, GR⟩ := hrel
      have hb := unhide HB q
      by_cases hlt : q < N
      · have h1 : q < vs.length := by rw [unhide HV]; exact hlt
        have h2 : q < ks.length := by rw [← unhide HLN]; exact hlt
        obtain ⟨⟨T, nn, hv⟩, hks⟩ := unhide HK q h1 h2
        rw [hv] at hks
        have hc : wr.cell? ⟨k, q, none⟩ = some (.iface T (.pointer (some ⟨nn, 0, none⟩))) := by
          rw [cell_of_row wr k _ _ _ _ ((GR.out.block k (Array.getElem?_eq_some_iff.1 C1.out).1 (by simp)).trans C1.out)]
          simp [kidCells, h1, hv]
        have hqi : (q : Int) < (N : Int) := by omega
        have KS := hide (hks wr (grown_trans G1.out GR.out))
        have hss := hide (sumTo_succ ks q h2)
        have hb2 := unhide HB (q + 1)
        rw [unhide hss] at hb2
        generalize ks[q] = kq at *
        generalize hsq : sumTo ks q = sq at *
        clear hks hv h1 h2 hsq
        go_wp2_with fail
        refine (unhide KS).mono ?_
        rintro e2 w2 ⟨rfl, hg⟩
        have G2 : Hid (w1.grownBy w2 none) := grown_trans GR.out hg
        clear hg
        go_wp2_with fail
        go_roundg (gk - 1)
        case measure => omega
        case rel => exact ⟨q + 1, by omega, by omega, val_int (by rw [unhide hss]; omega), by go_num, G2⟩
      · have hqN : q = N := by omega
        generalize hsq : sumTo ks q = sq at *
        have HSQ := hide hsq
        clear hsq
        have e1 := unhide HSQ
        rw [hqN, unhide HLN, HSUM.out] at e1
        have hr := unhide HR
        rw [e1] at hr
        have HR2 := hide hr
        clear e1 hr HR HSQ hqN
        go_wp2_with fail
        all_goals
          go_ret
          go_light
          refine ⟨ret_int ?_, grown_trans G1.out GR.out⟩
          have hr := unhide HR2
          omega

set_option maxRecDepth 100000 in
set_option maxHeartbeats 4000000 in
theorem weight_Pair {w : World} {b : Nat} {ev : Value} {vs : List Value} {ks : List Nat} (hP : Calls Tryz.prog 162 #[.iface 207 (.pointer (some ⟨b, 0, none⟩))] w (PartsPost w vs)) (hea : ∃ a, ev = .pointer a)
    (hlen : vs.length = ks.length) (hl3 : ks.length ≤ 3) (hK : ∀ j (h1 : j < vs.length) (h2 : j < ks.length), (∃ T n, vs[j] = .iface T (.pointer (some ⟨n, 0, none⟩))) ∧ KidSaid w ev vs[j] ks[j]) (hks : ∀ k ∈ ks, k ≤ 2001) :
    Calls Tryz.prog 87 #[.iface 207 (.pointer (some ⟨b, 0, none⟩)), ev] w (WPost w (min (1 + ks.sum) 2001)) := by
  obtain ⟨a, rfl⟩ := hea
  have HP := hide hP
  have HK := hide hK
  have HB := hide (sumTo_le ks hks)
  have HSUM : Hid (sumTo ks ks.length = ks.sum) := by show _ = _; unfold sumTo; rw [List.take_length]
  generalize hR : min (1 + ks.sum) 2001 = R
  have HR := hide hR
  clear hR
  have q0 := ta_Pair_Name
  have q1 := ta_Pair_Fun
  have q2 := ta_Pair_Let
  clear hP hK hks
  go_enter Tryz.func87, Tryz.ntmps87
  go_wp2_with fail
  refine (unhide HP).mono ?_
  rintro e1 w1 ⟨hg, hcase⟩
  have G1 : Hid (w.grownBy w1 none) := hg
  clear hg
  rcases hcase with ⟨rfl, rfl⟩ | ⟨k, rfl, hk⟩
  · have hk0 : ks = [] := by simpa using hlen.symm
    subst hk0
    go_wp2_with fail
    go_loopg [5, 18] 0 (fun j tot iv wr => tot = .int .i64 1 ∧ iv = .int .i64 0 ∧ wr = w1)
    case atStart => exact ⟨rfl, rfl, rfl⟩
    case round =>
      obtain ⟨rfl, rfl, rfl⟩ := hrel
      go_wp2_with fail
      all_goals
        go_ret
        go_light
        exact ⟨ret_int (by have := unhide HR; simp at this; omega), G1.out⟩
  · have C1 : Hid (w1.heap[k]? = some (.cells (kidCells vs) 68 (0, 0))) := hk
    clear hk
    have c65 : Tryz.prog.cellsOf 68 = 1 := by kernel_rfl
    obtain ⟨N, hV⟩ : ∃ N, vs.length = N := ⟨_, rfl⟩
    rw [hV]
    have HV := hide hV
    have hLN : N = ks.length := by omega
    have HLN := hide hLN
    have hN3 : N ≤ 3 := by omega
    clear hV hlen hLN
    go_wp2_with fail
    go_loopg [5, 18] N (fun j tot iv wr => ∃ q : Nat, j + q = N ∧ q ≤ N ∧ tot = .int .i64 ((1 + sumTo ks q : Nat) : Int) ∧ iv = .int .i64 q ∧ Hid (w1.grownBy wr none))
    case atStart => exact ⟨0, by omega, by omega, by simp [sumTo], rfl, grown_refl _⟩
    case round =>
      obtain ⟨q, hjq, hq, rfl, rfl, GR⟩ := hrel
      have hb := unhide HB q
      by_cases hlt : q < N
      · have h1 : q < vs.length := by rw [unhide HV]; exact hlt
        have h2 : q < ks.length := by rw [← unhide HLN]; exact hlt
        obtain ⟨⟨T, nn, hv⟩, hks⟩ := unhide HK q h1 h2
        rw [hv] at hks
        have hc : wr.cell? ⟨k, q, none⟩ = some (.iface T (.pointer (some ⟨nn, 0, none⟩))) := by
          rw [cell_of_row wr k _ _ _ _ ((GR.out.block k (Array.getElem?_eq_some_iff.1 C1.out).1 (by simp)).trans C1.out)]
          simp [kidCells, h1, hv]
        have hqi : (q : Int) < (N : Int) := by omega
        have KS := hide (hks wr (grown_trans G1.out GR.out))
        have hss := hide (sumTo_succ ks q h2)
        have hb2 := unhide HB (q + 1)
        rw [unhide hss] at hb2
        generalize ks[q] = kq at *
        generalize hsq : sumTo ks q = sq at *
        clear hks hv h1 h2 hsq
        go_wp2_with fail
        refine (unhide KS).mono ?_
        rintro e2 w2 ⟨rfl, hg⟩
        have G2 : Hid (w1.grownBy w2 none) := grown_trans GR.out hg
        clear hg
        go_wp2_with fail
        go_roundg (gk - 1)
        case measure => omega
        case rel => exact ⟨q + 1, by omega, by omega, val_int (by rw [unhide hss]; omega), by go_num, G2⟩
      · have hqN : q = N := by omega
        generalize hsq : sumTo ks q = sq at *
        have HSQ := hide hsq
        clear hsq
        have e1 := unhide HSQ
        rw [hqN, unhide HLN, HSUM.out] at e1
        have hr := unhide HR
        rw [e1] at hr
        have HR2 := hide hr
        clear e1 hr HR HSQ hqN
        go_wp2_with fail
        all_goals
          go_ret
          go_light
          refine ⟨ret_int ?_, grown_trans G1.out GR.out⟩
          have hr := unhide HR2
          omega

set_option maxRecDepth 100000 in
set_option maxHeartbeats 4000000 in
theorem weight_Call {w : World} {b : Nat} {ev : Value} {vs : List Value} {ks : List Nat} (hP : Calls Tryz.prog 162 #[.iface 209 (.pointer (some ⟨b, 0, none⟩))] w (PartsPost w vs)) (hea : ∃ a, ev = .pointer a)
    (hlen : vs.length = ks.length) (hl3 : ks.length ≤ 3) (hK : ∀ j (h1 : j < vs.length) (h2 : j < ks.length), (∃ T n, vs[j] = .iface T (.pointer (some ⟨n, 0, none⟩))) ∧ KidSaid w ev vs[j] ks[j]) (hks : ∀ k ∈ ks, k ≤ 2001) :
    Calls Tryz.prog 87 #[.iface 209 (.pointer (some ⟨b, 0, none⟩)), ev] w (WPost w (min (1 + ks.sum) 2001)) := by
  obtain ⟨a, rfl⟩ := hea
  have HP := hide hP
  have HK := hide hK
  have HB := hide (sumTo_le ks hks)
  have HSUM : Hid (sumTo ks ks.length = ks.sum) := by show _ = _; unfold sumTo; rw [List.take_length]
  generalize hR : min (1 + ks.sum) 2001 = R
  have HR := hide hR
  clear hR
  have q0 := ta_Call_Name
  have q1 := ta_Call_Fun
  have q2 := ta_Call_Let
  clear hP hK hks
  go_enter Tryz.func87, Tryz.ntmps87
  go_wp2_with fail
  refine (unhide HP).mono ?_
  rintro e1 w1 ⟨hg, hcase⟩
  have G1 : Hid (w.grownBy w1 none) := hg
  clear hg
  rcases hcase with ⟨rfl, rfl⟩ | ⟨k, rfl, hk⟩
  · have hk0 : ks = [] := by simpa using hlen.symm
    subst hk0
    go_wp2_with fail
    go_loopg [5, 18] 0 (fun j tot iv wr => tot = .int .i64 1 ∧ iv = .int .i64 0 ∧ wr = w1)
    case atStart => exact ⟨rfl, rfl, rfl⟩
    case round =>
      obtain ⟨rfl, rfl, rfl⟩ := hrel
      go_wp2_with fail
      all_goals
        go_ret
        go_light
        exact ⟨ret_int (by have := unhide HR; simp at this; omega), G1.out⟩
  · have C1 : Hid (w1.heap[k]? = some (.cells (kidCells vs) 68 (0, 0))) := hk
    clear hk
    have c65 : Tryz.prog.cellsOf 68 = 1 := by kernel_rfl
    obtain ⟨N, hV⟩ : ∃ N, vs.length = N := ⟨_, rfl⟩
    rw [hV]
    have HV := hide hV
    have hLN : N = ks.length := by omega
    have HLN := hide hLN
    have hN3 : N ≤ 3 := by omega
    clear hV hlen hLN
    go_wp2_with fail
    go_loopg [5, 18] N (fun j tot iv wr => ∃ q : Nat, j + q = N ∧ q ≤ N ∧ tot = .int .i64 ((1 + sumTo ks q : Nat) : Int) ∧ iv = .int .i64 q ∧ Hid (w1.grownBy wr none))
    case atStart => exact ⟨0, by omega, by omega, by simp [sumTo], rfl, grown_refl _⟩
    case round =>
      obtain ⟨q, hjq, hq, rfl, rfl, GR⟩ := hrel
      have hb := unhide HB q
      by_cases hlt : q < N
      · have h1 : q < vs.length := by rw [unhide HV]; exact hlt
        have h2 : q < ks.length := by rw [← unhide HLN]; exact hlt
        obtain ⟨⟨T, nn, hv⟩, hks⟩ := unhide HK q h1 h2
        rw [hv] at hks
        have hc : wr.cell? ⟨k, q, none⟩ = some (.iface T (.pointer (some ⟨nn, 0, none⟩))) := by
          rw [cell_of_row wr k _ _ _ _ ((GR.out.block k (Array.getElem?_eq_some_iff.1 C1.out).1 (by simp)).trans C1.out)]
          simp [kidCells, h1, hv]
        have hqi : (q : Int) < (N : Int) := by omega
        have KS := hide (hks wr (grown_trans G1.out GR.out))
        have hss := hide (sumTo_succ ks q h2)
        have hb2 := unhide HB (q + 1)
        rw [unhide hss] at hb2
        generalize ks[q] = kq at *
        generalize hsq : sumTo ks q = sq at *
        clear hks hv h1 h2 hsq
        go_wp2_with fail
        refine (unhide KS).mono ?_
        rintro e2 w2 ⟨rfl, hg⟩
        have G2 : Hid (w1.grownBy w2 none) := grown_trans GR.out hg
        clear hg
        go_wp2_with fail
        go_roundg (gk - 1)
        case measure => omega
        case rel => exact ⟨q + 1, by omega, by omega, val_int (by rw [unhide hss]; omega), by go_num, G2⟩
      · have hqN : q = N := by omega
        generalize hsq : sumTo ks q = sq at *
        have HSQ := hide hsq
        clear hsq
        have e1 := unhide HSQ
        rw [hqN, unhide HLN, HSUM.out] at e1
        have hr := unhide HR
        rw [e1] at hr
        have HR2 := hide hr
        clear e1 hr HR HSQ hqN
        go_wp2_with fail
        all_goals
          go_ret
          go_light
          refine ⟨ret_int ?_, grown_trans G1.out GR.out⟩
          have hr := unhide HR2
          omega

set_option maxRecDepth 100000 in
set_option maxHeartbeats 4000000 in
theorem weight_Binary {w : World} {b : Nat} {ev : Value} {vs : List Value} {ks : List Nat} (hP : Calls Tryz.prog 162 #[.iface 211 (.pointer (some ⟨b, 0, none⟩))] w (PartsPost w vs)) (hea : ∃ a, ev = .pointer a)
    (hlen : vs.length = ks.length) (hl3 : ks.length ≤ 3) (hK : ∀ j (h1 : j < vs.length) (h2 : j < ks.length), (∃ T n, vs[j] = .iface T (.pointer (some ⟨n, 0, none⟩))) ∧ KidSaid w ev vs[j] ks[j]) (hks : ∀ k ∈ ks, k ≤ 2001) :
    Calls Tryz.prog 87 #[.iface 211 (.pointer (some ⟨b, 0, none⟩)), ev] w (WPost w (min (1 + ks.sum) 2001)) := by
  obtain ⟨a, rfl⟩ := hea
  have HP := hide hP
  have HK := hide hK
  have HB := hide (sumTo_le ks hks)
  have HSUM : Hid (sumTo ks ks.length = ks.sum) := by show _ = _; unfold sumTo; rw [List.take_length]
  generalize hR : min (1 + ks.sum) 2001 = R
  have HR := hide hR
  clear hR
  have q0 := ta_Binary_Name
  have q1 := ta_Binary_Fun
  have q2 := ta_Binary_Let
  clear hP hK hks
  go_enter Tryz.func87, Tryz.ntmps87
  go_wp2_with fail
  refine (unhide HP).mono ?_
  rintro e1 w1 ⟨hg, hcase⟩
  have G1 : Hid (w.grownBy w1 none) := hg
  clear hg
  rcases hcase with ⟨rfl, rfl⟩ | ⟨k, rfl, hk⟩
  · have hk0 : ks = [] := by simpa using hlen.symm
    subst hk0
    go_wp2_with fail
    go_loopg [5, 18] 0 (fun j tot iv wr => tot = .int .i64 1 ∧ iv = .int .i64 0 ∧ wr = w1)
    case atStart => exact ⟨rfl, rfl, rfl⟩
    case round =>
      obtain ⟨rfl, rfl, rfl⟩ := hrel
      go_wp2_with fail
      all_goals
        go_ret
        go_light
        exact ⟨ret_int (by have := unhide HR; simp at this; omega), G1.out⟩
  · have C1 : Hid (w1.heap[k]? = some (.cells (kidCells vs) 68 (0, 0))) := hk
    clear hk
    have c65 : Tryz.prog.cellsOf 68 = 1 := by kernel_rfl
    obtain ⟨N, hV⟩ : ∃ N, vs.length = N := ⟨_, rfl⟩
    rw [hV]
    have HV := hide hV
    have hLN : N = ks.length := by omega
    have HLN := hide hLN
    have hN3 : N ≤ 3 := by omega
    clear hV hlen hLN
    go_wp2_with fail
    go_loopg [5, 18] N (fun j tot iv wr => ∃ q : Nat, j + q = N ∧ q ≤ N ∧ tot = .int .i64 ((1 + sumTo ks q : Nat) : Int) ∧ iv = .int .i64 q ∧ Hid (w1.grownBy wr none))
    case atStart => exact ⟨0, by omega, by omega, by simp [sumTo], rfl, grown_refl _⟩
    case round =>
      obtain ⟨q, hjq, hq, rfl, rfl, GR⟩ := hrel
      have hb := unhide HB q
      by_cases hlt : q < N
      · have h1 : q < vs.length := by rw [unhide HV]; exact hlt
        have h2 : q < ks.length := by rw [← unhide HLN]; exact hlt
        obtain ⟨⟨T, nn, hv⟩, hks⟩ := unhide HK q h1 h2
        rw [hv] at hks
        have hc : wr.cell? ⟨k, q, none⟩ = some (.iface T (.pointer (some ⟨nn, 0, none⟩))) := by
          rw [cell_of_row wr k _ _ _ _ ((GR.out.block k (Array.getElem?_eq_some_iff.1 C1.out).1 (by simp)).trans C1.out)]
          simp [kidCells, h1, hv]
        have hqi : (q : Int) < (N : Int) := by omega
        have KS := hide (hks wr (grown_trans G1.out GR.out))
        have hss := hide (sumTo_succ ks q h2)
        have hb2 := unhide HB (q + 1)
        rw [unhide hss] at hb2
        generalize ks[q] = kq at *
        generalize hsq : sumTo ks q = sq at *
        clear hks hv h1 h2 hsq
        go_wp2_with fail
        refine (unhide KS).mono ?_
        rintro e2 w2 ⟨rfl, hg⟩
        have G2 : Hid (w1.grownBy w2 none) := grown_trans GR.out hg
        clear hg
        go_wp2_with fail
        go_roundg (gk - 1)
        case measure => omega
        case rel => exact ⟨q + 1, by omega, by omega, val_int (by rw [unhide hss]; omega), by go_num, G2⟩
      · have hqN : q = N := by omega
        generalize hsq : sumTo ks q = sq at *
        have HSQ := hide hsq
        clear hsq
        have e1 := unhide HSQ
        rw [hqN, unhide HLN, HSUM.out] at e1
        have hr := unhide HR
        rw [e1] at hr
        have HR2 := hide hr
        clear e1 hr HR HSQ hqN
        go_wp2_with fail
        all_goals
          go_ret
          go_light
          refine ⟨ret_int ?_, grown_trans G1.out GR.out⟩
          have hr := unhide HR2
          omega

set_option maxRecDepth 100000 in
set_option maxHeartbeats 4000000 in
theorem weight_If {w : World} {b : Nat} {ev : Value} {vs : List Value} {ks : List Nat} (hP : Calls Tryz.prog 162 #[.iface 213 (.pointer (some ⟨b, 0, none⟩))] w (PartsPost w vs)) (hea : ∃ a, ev = .pointer a)
    (hlen : vs.length = ks.length) (hl3 : ks.length ≤ 3) (hK : ∀ j (h1 : j < vs.length) (h2 : j < ks.length), (∃ T n, vs[j] = .iface T (.pointer (some ⟨n, 0, none⟩))) ∧ KidSaid w ev vs[j] ks[j]) (hks : ∀ k ∈ ks, k ≤ 2001) :
    Calls Tryz.prog 87 #[.iface 213 (.pointer (some ⟨b, 0, none⟩)), ev] w (WPost w (min (1 + ks.sum) 2001)) := by
  obtain ⟨a, rfl⟩ := hea
  have HP := hide hP
  have HK := hide hK
  have HB := hide (sumTo_le ks hks)
  have HSUM : Hid (sumTo ks ks.length = ks.sum) := by show _ = _; unfold sumTo; rw [List.take_length]
  generalize hR : min (1 + ks.sum) 2001 = R
  have HR := hide hR
  clear hR
  have q0 := ta_If_Name
  have q1 := ta_If_Fun
  have q2 := ta_If_Let
  clear hP hK hks
  go_enter Tryz.func87, Tryz.ntmps87
  go_wp2_with fail
  refine (unhide HP).mono ?_
  rintro e1 w1 ⟨hg, hcase⟩
  have G1 : Hid (w.grownBy w1 none) := hg
  clear hg
  rcases hcase with ⟨rfl, rfl⟩ | ⟨k, rfl, hk⟩
  · have hk0 : ks = [] := by simpa using hlen.symm
    subst hk0
    go_wp2_with fail
    go_loopg [5, 18] 0 (fun j tot iv wr => tot = .int .i64 1 ∧ iv = .int .i64 0 ∧ wr = w1)
    case atStart => exact ⟨rfl, rfl, rfl⟩
    case round =>
      obtain ⟨rfl, rfl, rfl⟩ := hrel
      go_wp2_with fail
      all_goals
        go_ret
        go_light
        exact ⟨ret_int (by have := unhide HR; simp at this; omega), G1.out⟩
  · have C1 : Hid (w1.heap[k]? = some (.cells (kidCells vs) 68 (0, 0))) := hk
    clear hk
    have c65 : Tryz.prog.cellsOf 68 = 1 := by kernel_rfl
    obtain ⟨N, hV⟩ : ∃ N, vs.length = N := ⟨_, rfl⟩
    rw [hV]
    have HV := hide hV
    have hLN : N = ks.length := by omega
    have HLN := hide hLN
    have hN3 : N ≤ 3 := by omega
    clear hV hlen hLN
    go_wp2_with fail
    go_loopg [5, 18] N (fun j tot iv wr => ∃ q : Nat, j + q = N ∧ q ≤ N ∧ tot = .int .i64 ((1 + sumTo ks q : Nat) : Int) ∧ iv = .int .i64 q ∧ Hid (w1.grownBy wr none))
    case atStart => exact ⟨0, by omega, by omega, by simp [sumTo], rfl, grown_refl _⟩
    case round =>
      obtain ⟨q, hjq, hq, rfl, rfl, GR⟩ := hrel
      have hb := unhide HB q
      by_cases hlt : q < N
      · have h1 : q < vs.length := by rw [unhide HV]; exact hlt
        have h2 : q < ks.length := by rw [← unhide HLN]; exact hlt
        obtain ⟨⟨T, nn, hv⟩, hks⟩ := unhide HK q h1 h2
        rw [hv] at hks
        have hc : wr.cell? ⟨k, q, none⟩ = some (.iface T (.pointer (some ⟨nn, 0, none⟩))) := by
          rw [cell_of_row wr k _ _ _ _ ((GR.out.block k (Array.getElem?_eq_some_iff.1 C1.out).1 (by simp)).trans C1.out)]
          simp [kidCells, h1, hv]
        have hqi : (q : Int) < (N : Int) := by omega
        have KS := hide (hks wr (grown_trans G1.out GR.out))
        have hss := hide (sumTo_succ ks q h2)
        have hb2 := unhide HB (q + 1)
        rw [unhide hss] at hb2
        generalize ks[q] = kq at *
        generalize hsq : sumTo ks q = sq at *
        clear hks hv h1 h2 hsq
        go_wp2_with fail
        refine (unhide KS).mono ?_
        rintro e2 w2 ⟨rfl, hg⟩
        have G2 : Hid (w1.grownBy w2 none) := grown_trans GR.out hg
        clear hg
        go_wp2_with fail
        go_roundg (gk - 1)
        case measure => omega
        case rel => exact ⟨q + 1, by omega, by omega, val_int (by rw [unhide hss]; omega), by go_num, G2⟩
      · have hqN : q = N := by omega
        generalize hsq : sumTo ks q = sq at *
        have HSQ := hide hsq
        clear hsq
        have e1 := unhide HSQ
        rw [hqN, unhide HLN, HSUM.out] at e1
        have hr := unhide HR
        rw [e1] at hr
        have HR2 := hide hr
        clear e1 hr HR HSQ hqN
        go_wp2_with fail
        all_goals
          go_ret
          go_light
          refine ⟨ret_int ?_, grown_trans G1.out GR.out⟩
          have hr := unhide HR2
          omega

end Go.Proofs.YtckhafpejefbbaaGreatDoor
