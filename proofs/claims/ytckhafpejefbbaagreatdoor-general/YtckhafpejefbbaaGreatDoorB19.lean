/- Texts of the proof, put together: RowBase, EmbThy3, TyThy8, RunThy, InvThy, GenThy, GenThy2. -/
import Derived.Test.YtckhafpejefbbaaGreatDoorB18
import Derived.Test.YtckhafpejefbbaaGreatDoorB01
import Derived.Test.YtckhafpejefbbaaGreatDoorRows
import Derived.Test.YtckhafpejefbbaaGreatDoorCards
import Derived.Test.YtckhafpejefbbaaGreatDoorTie
import Derived.ChangeSame
import Derived.ChangeVars
import Derived.JoinedOf
import Derived.RowKit
import Derived.RowKitTokens
import Derived.LaidLaws
import Derived.LaidMore
import Derived.OpenShut
import Derived.ProofKit
import Derived.Stop.Joined
import Derived.SevenTiedAt
import Derived.Carry
import Derived.Test.YtckhafpejefbbaaGreatDoorB17
import Derived.Test.YtckhafpejefbbaaGreatDoorB15
import Derived.Test.YtckhafpejefbbaaGreatDoorB13

/- What the rows share: the library's contracts, what is listed, arguments read again. -/
namespace Go.Proofs.YtckhafpejefbbaaGreatDoor
open Go.ChangeShapes Go.WideShapes Go.ChangeAt Go.RowKit

theorem grown_bytesWorld (w : World) (e : TypeId) (s : ByteArray) : w.grownBy (Lib.bytesWorld w e s) none :=
  ⟨rfl, rfl, rfl, by rw [Lib.bytesWorld_size]; omega, fun k hk _ => Lib.bytesWorld_at_old w e s k hk⟩

theorem grown_grow (w : World) (k : Nat) (os : Array Obj) : w.grownBy (Sort.grow (w.drewN k) os) none :=
  ⟨rfl, rfl, rfl, by simp [Sort.grow], fun i hi _ => by simp [Sort.grow, Array.getElem?_append, hi]⟩

theorem lib4 : Lib4 :=
  { ib := fun s c w => (Tryz.strings_IndexByte s c w).mono fun e w' ⟨h1, h2⟩ => ⟨h1, h2.symm⟩
    pi := fun s hs v h w => (Tryz.strconv_ParseInt_10_at64_ok s (by omega) v h w).mono fun e w' ⟨h1, h2⟩ => ⟨h1, by
      rcases h2 with rfl | ⟨t, rfl⟩
      · exact grown_refl _
      · exact grown_bytesWorld _ _ _⟩
    fi := fun n h0 h1 w hT => (Tryz.strconv_FormatInt_10 n h0 h1 w hT).mono fun e w' ⟨h1, k, os, h2⟩ => ⟨h1, by rw [h2]; exact grown_grow _ _ _⟩
    fb := fun b w => (Tryz.strconv_FormatBool b w).mono fun e w' ⟨h1, h2⟩ => ⟨by rw [h1]; cases b <;> rfl, h2.symm⟩ }

theorem own : ownKnob Tryz.prog.godebug = none := by kernel_rfl
theorem tPow : (Tryz.prog.globals[1]?).map (fun x => x.type) = some 378 := by kernel_rfl

/-- What is listed. -/
abbrev laid5 : List (String × DataW Unit) := Rows.recursiveRow.laid

/-- What the condition gives the walks: the table. -/
theorem of_laid {W : World} (h : laidMetH Tryz.prog laid5 W) : Tab W ∧ 1 < W.heap.size := by
  rw [MakeChecks.laidMetH_plain _ _ _ (by kernel_rfl)] at h
  obtain ⟨ps, ⟨g0, t0, cs0, f0, p0, q0, hg0, ht0, hv0, hd0, ⟨g1, t1, cs1, f1, p1, q1, hg1, ht1, hv1, hd1, ⟨g2, t2, cs2, f2, p2, q2, hg2, ht2, hv2, hd2, _, _⟩, _⟩, _⟩, _, _⟩ := h
  obtain rfl := Option.some.inj (gPow.symm.trans hg2)
  obtain rfl := Option.some.inj (tPow.symm.trans ht2)
  have hz : (Rows.laid_internal_strconv_uint64pow10 : DataW Unit) = Lib.tabData .u64 Lib.pow10Tab := by kernel_rfl
  have hT : Tab W := by
    show W.var? Tryz.prog "internal/strconv.uint64pow10" = _
    rw [hv2]
    have := Lib.cells_of_tab (zs := Lib.pow10Tab) Tryz.underlying378 Tryz.underlying372 (by kernel_rfl) (by kernel_rfl) (by rw [← hz]; exact hd2)
    rw [← this]
  refine ⟨hT, ?_⟩
  rcases Nat.lt_or_ge 1 W.heap.size with h1 | h1
  · exact h1
  · have hv : W.var? Tryz.prog "internal/strconv.uint64pow10" = _ := hT
    unfold World.var? at hv
    rw [gPow] at hv
    simp only [Option.bind_some] at hv
    rw [Array.getElem?_eq_none h1] at hv
    simp at hv

/-- The door's own heap meets the condition. -/
theorem door_met (os : Os) (args : Array Value) : laidMetH Tryz.prog laid5 ((World.doorLaid Tryz.prog 62 os).forCall (fun _ _ => 0) ⟨#[], args, []⟩).memory :=
  laidMetH_of_parts3 (fuel := 8) (laidMet_of_run' 8 (by kernel_rfl) (by kernel_rfl)) (by kernel_rfl) (by kernel_rfl)

theorem keptBut_of_grown {W W' : World} (h : W.grownBy W' none) (may : MemPlace → Prop) : W.keptBut W' may := by
  refine ⟨h.os, h.output, fun i hi => ?_⟩
  rw [h.block i hi (by simp)]
  cases W.heap[i]? with
  | none => trivial
  | some o => cases o <;> simp

theorem laidOut : laidOutB Tryz.prog = true := by kernel_rfl

theorem below_of_grown {W W' : World} (h : W.grownBy W' none) : Below W.heap.size W W' := ⟨h.os, h.tape, h.output, h.size, fun k hk => h.block k hk (by simp)⟩

/-- Arguments read behind the call as they did. -/
theorem args_again0 {H : Type} {enc : TypeId × Value → H} {P : Program} (hP : laidOutB P = true) {W W' : World} (hg : W.grownBy W' none) : ∀ (ts : List TypeId) (vs : List Value) (ds : List (DataW H)) (ps : List MemPlace),
    (ts.all fun t => P.readableRec t && decide (t < P.types.size)) = true → (∀ x ∈ ps, x.block < W.heap.size) → DataW.TrodAll enc P W 0 (fun _ => true) true ts vs ds ps → DataW.TrodAll enc P W' 0 (fun b => decide (b < W.heap.size)) true ts vs ds ps
  | [], [], [], _, _, _, h => h
  | t :: ts, v :: vs, d :: ds, ps, hr, hl, h => by
    obtain ⟨p, q, h1, h2, rfl⟩ := h
    simp only [List.all_cons, Bool.and_eq_true, decide_eq_true_eq] at hr
    exact ⟨p, q, Below.trod hP hr.1.1 hr.1.2 h1 (below_of_grown hg) (fun x hx => hl x (List.mem_append.2 (.inl hx))), args_again0 hP hg ts vs ds q hr.2 (fun x hx => hl x (List.mem_append.2 (.inr hx))) h2, rfl⟩
  | [], [], _ :: _, _, _, _, h => h.elim
  | [], _ :: _, _, _, _, _, h => h.elim
  | _ :: _, [], _, _, _, _, h => h.elim
  | _ :: _, _ :: _, [], _, _, _, h => h.elim

theorem args_again {H : Type} {enc : TypeId × Value → H} {W W' : World} (hg : W.grownBy W' none) {ts : List TypeId} {vs : List Value} {ds : List (DataW H)} {ps : List MemPlace}
    (hr : (ts.all fun t => Tryz.prog.readableRec t && decide (t < Tryz.prog.types.size)) = true) (hl : ∀ x ∈ ps, x.block < W.heap.size) (h : DataW.TrodAll enc Tryz.prog W 0 (fun _ => true) true ts vs ds ps) : DataW.TrodAll enc Tryz.prog W' 0 (fun b => decide (b < W.heap.size)) true ts vs ds ps :=
  args_again0 laidOut hg ts vs ds ps hr hl h

end Go.Proofs.YtckhafpejefbbaaGreatDoor

/- Two rows of tokens, one within the other: where both are parsed and neither parser is stuck, the trees are the same, moved. -/
namespace Go.Proofs.YtckhafpejefbbaaGreatDoor.Tw
open Go

variable {l1 l2 : List UInt8} {ts1 ts2 : List Tok} {o N dd : Nat} {m : Mv}

theorem Sim.take2 (E : Emb l1 l2 ts1 ts2 o m N) {s1 s2 s1' s2' : PS} (S : Sim o dd N s1 s2) {s : Int} {t t' : Tok} (h : takeS ts1 s s1 = some (t, s1')) (hs : s1'.stuck = false) (g : takeS ts2 s s2 = some (t', s2')) (h0 : s ≠ 0) : t' = t.re m ∧ Sim o dd N s1' s2' := by
  obtain ⟨_, _, u, e, S', _⟩ := S.take E h hs h0
  rw [e] at g
  cases g
  exact ⟨rfl, S'⟩

theorem Sim.begin2 (E : Emb l1 l2 ts1 ts2 o m N) {s1 s2 s1' s2' : PS} (S : Sim o dd N s1 s2) {s : Int} {k k' : Nat} (h : beginS ts1 s s1 = some (k, s1')) (hs : s1'.stuck = false) (g : beginS ts2 s s2 = some (k', s2')) (gs : s2'.stuck = false) (h0 : s ≠ 0) : k' = m.fr k ∧ Sim o dd N s1' s2' := by
  have d1 := (begin_deep h hs).1
  have d2 := (begin_deep g gs).1
  unfold beginS at h g
  rw [if_neg d1, Option.bind_some] at h
  rw [if_neg d2, Option.bind_some] at g
  split at h
  · split at g
    · obtain ⟨⟨t1, s3⟩, h2, h⟩ := Option.bind_eq_some_iff.1 h
      cases h
      obtain ⟨⟨t2, s4⟩, g2, g⟩ := Option.bind_eq_some_iff.1 g
      cases g
      have S1 : Sim o dd N { s1 with depth := s1.depth + 1 } { s2 with depth := s2.depth + 1 } := ⟨S.k1, S.k2, S.nx, by simp [S.dp]; omega, S.le⟩
      obtain ⟨e, S2⟩ := S1.take2 E h2 hs g2 h0
      subst e
      exact ⟨rfl, S2⟩
    · cases g
  · cases h

theorem Sim.end2 {s1 s2 s1' s2' : PS} (S : Sim o dd N s1 s2) (h : endS s1 = some s1') (g : endS s2 = some s2') : Sim o dd N s1' s2' := by
  obtain ⟨u, e, S', _⟩ := S.end h
  rw [e] at g
  cases g
  exact S'

theorem Sim.binder2 (E : Emb l1 l2 ts1 ts2 o m N) {s1 s2 s1' s2' : PS} (S : Sim o dd N s1 s2) {x x' : List UInt8} {k k' : Nat} (h : binderS l1 ts1 s1 = some ((x, k), s1')) (hs : s1'.stuck = false) (g : binderS l2 ts2 s2 = some ((x', k'), s2')) : s1.next < N ∧ x' = m.nm k x ∧ k' = m.fr k ∧ Sim o dd N s1' s2' := by
  obtain ⟨hl, u, e, S', _⟩ := S.binder E h hs
  rw [e] at g
  cases g
  exact ⟨hl, rfl, rfl, S'⟩

theorem Sim.any2 (E : Emb l1 l2 ts1 ts2 o m N) {s1 s2 s1' s2' : PS} (S : Sim o dd N s1 s2) {g : List Int} (h0 : ∀ x ∈ g, x ≠ 0) (hg : (∀ x ∈ g, stopSort x = false) ∨ s1.next < N) {k k' : Int} (h : takeAnyS ts1 g s1 = some (k, s1')) (hs : s1'.stuck = false) (g' : takeAnyS ts2 g s2 = some (k', s2')) : k' = k ∧ Sim o dd N s1' s2' := by
  obtain ⟨u, e, S', _⟩ := S.takeAny E h0 hg h hs
  rw [e] at g'
  cases g'
  exact ⟨rfl, S'⟩

/-- An expr does not begin behind the last token. -/
theorem cmp_eof {s1 s1' : PS} {t : Tok} {r : T} (ht : tokS ts1 s1 = some t) (h0 : t.sort = 0) (n : Nat) (h : cmpS l1 ts1 n s1 = some (r, s1')) : s1'.stuck = true := by
  have key : ∀ j {s' : PS} {q : T}, atomS l1 ts1 j s1 = some (q, s') → s'.stuck = true := by
    intro j s' q hm
    cases j with
    | zero => simp [atomS] at hm
    | succ j =>
      rw [atomS, ht, Option.bind_some, h0, if_neg (by decide), if_neg (by decide)] at hm
      obtain ⟨s3, q1, hm⟩ := Option.bind_eq_some_iff.1 hm
      cases hm
      exact (failS_stuck q1).1
  have kcall : ∀ j {s' : PS} {q : T}, callS l1 ts1 j s1 = some (q, s') → s'.stuck = true := by
    intro j s' q hm
    cases j with
    | zero => simp [callS] at hm
    | succ j =>
      rw [callS] at hm
      obtain ⟨⟨a, s3⟩, q1, hm⟩ := Option.bind_eq_some_iff.1 hm
      have := key j q1
      cases hq : s'.stuck
      · have := ((mild_all l1 ts1 j).callFrom hm).1 hq
        simp_all
      · rfl
  have kchain : ∀ j {p : Part} {g : List Int} {s' : PS} {q : T}, (∀ j {s' : PS} {q : T}, partS l1 ts1 j p s1 = some (q, s') → s'.stuck = true) → chainS l1 ts1 j p g s1 = some (q, s') → s'.stuck = true := by
    intro j p g s' q hp hm
    cases j with
    | zero => simp [chainS] at hm
    | succ j =>
      rw [chainS] at hm
      obtain ⟨⟨a, s3⟩, q1, hm⟩ := Option.bind_eq_some_iff.1 hm
      have := hp j q1
      cases hq : s'.stuck
      · have := ((mild_all l1 ts1 j).chainFrom hm).1 hq
        simp_all
      · rfl
  have kpc : ∀ j {s' : PS} {q : T}, partS l1 ts1 j .call s1 = some (q, s') → s'.stuck = true := by
    intro j s' q hm
    cases j with
    | zero => simp [partS] at hm
    | succ j => rw [partS] at hm; exact kcall j hm
  have kpt : ∀ j {s' : PS} {q : T}, partS l1 ts1 j .term s1 = some (q, s') → s'.stuck = true := by
    intro j s' q hm
    cases j with
    | zero => simp [partS] at hm
    | succ j =>
      rw [partS] at hm
      cases j with
      | zero => simp [termS] at hm
      | succ j => rw [termS] at hm; exact kchain j kpc hm
  cases n with
  | zero => simp [cmpS] at h
  | succ n =>
    rw [cmpS] at h
    obtain ⟨⟨a, s3⟩, q1, h⟩ := Option.bind_eq_some_iff.1 h
    have k1 : s3.stuck = true := by
      cases n with
      | zero => simp [sumS] at q1
      | succ n => rw [sumS] at q1; exact kchain n kpt q1
    obtain ⟨⟨sg, s4⟩, q2, h⟩ := Option.bind_eq_some_iff.1 h
    simp only at h q2
    have k2 : s4.stuck = true := by
      cases hq : s4.stuck
      · have := (takeAnyS_mild q2).1 hq
        simp_all
      · rfl
    split at h
    · cases h
      simp_all
    · obtain ⟨⟨c, s5⟩, q3, h⟩ := Option.bind_eq_some_iff.1 h
      cases h
      cases hq : s5.stuck
      · have := ((mild_all l1 ts1 n).sum q3).1 hq
        simp_all
      · rfl

variable (l1 l2 ts1 ts2 o m N dd)

def Two (f : Nat → PS → Option (T × PS)) (g : Nat → PS → Option (T × PS)) (n : Nat) : Prop :=
  ∀ {n' : Nat} {s1 s2 s1' s2' : PS} {r r2 : T}, Sim o dd N s1 s2 → f n s1 = some (r, s1') → s1'.stuck = false → g n' s2 = some (r2, s2') → s2'.stuck = false → r2 = r.re m ∧ Sim o dd N s1' s2'

structure WAll (n : Nat) : Prop where
  expr : Two o N dd m (exprS l1 ts1) (exprS l2 ts2) n
  lett : Two o N dd m (letS l1 ts1) (letS l2 ts2) n
  fn : Two o N dd m (funS l1 ts1) (funS l2 ts2) n
  cond : Two o N dd m (condS l1 ts1) (condS l2 ts2) n
  cmp : Two o N dd m (cmpS l1 ts1) (cmpS l2 ts2) n
  sum : Two o N dd m (sumS l1 ts1) (sumS l2 ts2) n
  term : Two o N dd m (termS l1 ts1) (termS l2 ts2) n
  part : ∀ (p : Part), Two o N dd m (fun n => partS l1 ts1 n p) (fun n => partS l2 ts2 n p) n
  chain : ∀ (p : Part) (g : List Int), (∀ x ∈ g, x ≠ 0) → (∀ x ∈ g, stopSort x = false) → Two o N dd m (fun n => chainS l1 ts1 n p g) (fun n => chainS l2 ts2 n p g) n
  chainFrom : ∀ (p : Part) (g : List Int) (a : T), (∀ x ∈ g, x ≠ 0) → (∀ x ∈ g, stopSort x = false) → Two o N dd m (fun n => chainFromS l1 ts1 n p g a) (fun n => chainFromS l2 ts2 n p g (a.re m)) n
  call : Two o N dd m (callS l1 ts1) (callS l2 ts2) n
  callFrom : ∀ (a : T), Two o N dd m (fun n => callFromS l1 ts1 n a) (fun n => callFromS l2 ts2 n (a.re m)) n
  atom : Two o N dd m (atomS l1 ts1) (atomS l2 ts2) n
  bracket : Two o N dd m (bracketS l1 ts1) (bracketS l2 ts2) n

variable {l1 l2 ts1 ts2 o m N dd}

theorem two_step (E : Emb l1 l2 ts1 ts2 o m N) {n : Nat} (ih : WAll l1 l2 ts1 ts2 o N dd m n) : WAll l1 l2 ts1 ts2 o N dd m (n + 1) := by
  have M := mild_all l1 ts1 n
  constructor
  case expr =>
    intro n' s1 s2 s1' s2' r r2 S h hs g gs
    cases n' with
    | zero => simp [exprS] at g
    | succ n' =>
    rw [exprS] at h g
    obtain ⟨t, ht, h⟩ := Option.bind_eq_some_iff.1 h
    obtain ⟨t2, gt, g⟩ := Option.bind_eq_some_iff.1 g
    rcases S.toks E with ⟨hl, t', e1, e2, e3, e4⟩ | ⟨hN, t', u, e1, e2, e3, e4⟩
    · rw [ht] at e1
      cases e1
      rw [gt] at e2
      cases e2
      have hsort : (t.re m).sort = t.sort := rfl
      rw [hsort] at g
      split at h
      · rename_i q
        rw [if_pos q] at g
        exact ih.lett S h hs g gs
      · rename_i q
        rw [if_neg q] at g
        split at h
        · rename_i q
          rw [if_pos q] at g
          exact ih.fn S h hs g gs
        · rename_i q
          rw [if_neg q] at g
          split at h
          · rename_i q
            rw [if_pos q] at g
            exact ih.cond S h hs g gs
          · rename_i q
            rw [if_neg q] at g
            exact ih.cmp S h hs g gs
    · rw [ht] at e1
      cases e1
      exfalso
      rw [e3, if_neg (by decide), if_neg (by decide), if_neg (by decide)] at h
      rw [cmp_eof ht e3 n h] at hs
      cases hs
  case lett =>
    intro n' s1 s2 s1' s2' r r2 S h hs g gs
    cases n' with
    | zero => simp [letS] at g
    | succ n' =>
    have M' := mild_all l2 ts2 n'
    simp only [letS, Option.bind_eq_some_iff, Option.some.injEq, Prod.mk.injEq, Prod.exists] at h g
    obtain ⟨k, t1, h1, rc, t2, h2, bn, bat, t3, h3, c4, t4, h4, d, t5, h5, c6, t6, h6, x, t7, h7, t8, h8, rfl, rfl⟩ := h
    obtain ⟨k', u1, g1, rc', u2, g2, bn', bat', u3, g3, c4', u4, g4, d', u5, g5, c6', u6, g6, x', u7, g7, u8, g8, rfl, rfl⟩ := g
    have a7 : t7.stuck = false := by rw [← (endS_mild h8).1]; exact hs
    have a6 := (M.expr h7).1 a7
    have a5 := (takeS_mild h6).1 a6
    have a4 := (M.expr h5).1 a5
    have a3 := (takeS_mild h4).1 a4
    have a2 := (binderS_mild h3).1 a3
    have a1 := (takeAnyS_mild h2).1 a2
    have b7 : u7.stuck = false := by rw [← (endS_mild g8).1]; exact gs
    have b6 := (M'.expr g7).1 b7
    have b5 := (takeS_mild g6).1 b6
    have b4 := (M'.expr g5).1 b5
    have b3 := (takeS_mild g4).1 b4
    have b2 := (binderS_mild g3).1 b3
    have b1 := (takeAnyS_mild g2).1 b2
    obtain ⟨rfl, S1⟩ := S.begin2 E h1 a1 g1 b1 (by decide)
    have hb3 : t2.next < N := by
      unfold binderS at h3
      obtain ⟨⟨c, s9⟩, q1, q2⟩ := Option.bind_eq_some_iff.1 h3
      obtain ⟨qa, qb, _, _⟩ := takeS_fine q1 (by split at q2 <;> cases q2; exact a3) (by decide)
      rcases Nat.lt_or_ge t2.next N with hlt | hge
      · exact hlt
      · exfalso
        have hle : t1.next ≤ N := S1.le
        have hcase : t2.next = t1.next ∨ (t2.next = t1.next + 1 ∧ t1.next < N) := by
          rcases S1.toks E with ⟨hl, _⟩ | ⟨hN, t, u, e1, e2, e3, e4⟩
          · rw [takeAnyS] at h2
            obtain ⟨tt, _, h2⟩ := Option.bind_eq_some_iff.1 h2
            split at h2
            · obtain ⟨⟨c9, s9⟩, q9, h2⟩ := Option.bind_eq_some_iff.1 h2
              cases h2
              obtain ⟨_, _, rfl, _⟩ := takeS_fine q9 a2 (by decide)
              exact .inr ⟨rfl, hl⟩
            · rw [takeAnyS] at h2
              cases h2
              exact .inl rfl
          · rw [takeAnyS, e1, Option.bind_some, if_neg (by rw [e3]; decide), takeAnyS] at h2
            cases h2
            exact .inl rfl
        have hN : t2.next = N := by omega
        obtain ⟨te, he, h0⟩ := E.eof
        have : tokS ts1 t2 = some te := by simp [tokS, a2, hN, he]
        rw [this] at qa
        cases qa
        rw [h0] at qb
        cases qb
    have hb1 : t1.next < N := S1.one E (by decide) h2 (.inr hb3)
    obtain ⟨rfl, S2⟩ := S1.any2 E (by simp) (.inr hb1) h2 a2 g2
    obtain ⟨_, rfl, rfl, S3⟩ := S2.binder2 E h3 a3 g3
    obtain ⟨_, S4⟩ := S3.take2 E h4 a4 g4 (by decide)
    obtain ⟨rfl, S5⟩ := ih.expr S4 h5 a5 g5 b5
    obtain ⟨_, S6⟩ := S5.take2 E h6 a6 g6 (by decide)
    obtain ⟨rfl, S7⟩ := ih.expr S6 h7 a7 g7 b7
    refine ⟨?_, S7.end2 h8 g8⟩
    simp only [T.re, T.re_to]
  case fn =>
    intro n' s1 s2 s1' s2' r r2 S h hs g gs
    cases n' with
    | zero => simp [funS] at g
    | succ n' =>
    have M' := mild_all l2 ts2 n'
    simp only [funS, Option.bind_eq_some_iff, Option.some.injEq, Prod.mk.injEq, Prod.exists] at h g
    obtain ⟨k, t1, h1, bn, bat, t3, h3, c4, t4, h4, d, t5, h5, t8, h8, rfl, rfl⟩ := h
    obtain ⟨k', u1, g1, bn', bat', u3, g3, c4', u4, g4, d', u5, g5, u8, g8, rfl, rfl⟩ := g
    have a5 : t5.stuck = false := by rw [← (endS_mild h8).1]; exact hs
    have a4 := (M.expr h5).1 a5
    have a3 := (takeS_mild h4).1 a4
    have a1 := (binderS_mild h3).1 a3
    have b5 : u5.stuck = false := by rw [← (endS_mild g8).1]; exact gs
    have b4 := (M'.expr g5).1 b5
    have b3 := (takeS_mild g4).1 b4
    have b1 := (binderS_mild g3).1 b3
    obtain ⟨rfl, S1⟩ := S.begin2 E h1 a1 g1 b1 (by decide)
    obtain ⟨_, rfl, rfl, S3⟩ := S1.binder2 E h3 a3 g3
    obtain ⟨_, S4⟩ := S3.take2 E h4 a4 g4 (by decide)
    obtain ⟨rfl, S5⟩ := ih.expr S4 h5 a5 g5 b5
    refine ⟨?_, S5.end2 h8 g8⟩
    simp only [T.re, T.re_to]
  case cond =>
    intro n' s1 s2 s1' s2' r r2 S h hs g gs
    cases n' with
    | zero => simp [condS] at g
    | succ n' =>
    have M' := mild_all l2 ts2 n'
    simp only [condS, Option.bind_eq_some_iff, Option.some.injEq, Prod.mk.injEq, Prod.exists] at h g
    obtain ⟨k, t1, h1, x, t2, h2, c3, t3, h3, y, t4, h4, c5, t5, h5, z, t6, h6, t8, h8, rfl, rfl⟩ := h
    obtain ⟨k', u1, g1, x', u2, g2, c3', u3, g3, y', u4, g4, c5', u5, g5, z', u6, g6, u8, g8, rfl, rfl⟩ := g
    have a6 : t6.stuck = false := by rw [← (endS_mild h8).1]; exact hs
    have a5 := (M.expr h6).1 a6
    have a4 := (takeS_mild h5).1 a5
    have a3 := (M.expr h4).1 a4
    have a2 := (takeS_mild h3).1 a3
    have a1 := (M.expr h2).1 a2
    have b6 : u6.stuck = false := by rw [← (endS_mild g8).1]; exact gs
    have b5 := (M'.expr g6).1 b6
    have b4 := (takeS_mild g5).1 b5
    have b3 := (M'.expr g4).1 b4
    have b2 := (takeS_mild g3).1 b3
    have b1 := (M'.expr g2).1 b2
    obtain ⟨rfl, S1⟩ := S.begin2 E h1 a1 g1 b1 (by decide)
    obtain ⟨rfl, S2⟩ := ih.expr S1 h2 a2 g2 b2
    obtain ⟨_, S3⟩ := S2.take2 E h3 a3 g3 (by decide)
    obtain ⟨rfl, S4⟩ := ih.expr S3 h4 a4 g4 b4
    obtain ⟨_, S5⟩ := S4.take2 E h5 a5 g5 (by decide)
    obtain ⟨rfl, S6⟩ := ih.expr S5 h6 a6 g6 b6
    refine ⟨?_, S6.end2 h8 g8⟩
    simp only [T.re, T.re_to]
  case cmp =>
    intro n' s1 s2 s1' s2' r r2 S h hs g gs
    cases n' with
    | zero => simp [cmpS] at g
    | succ n' =>
    have M' := mild_all l2 ts2 n'
    simp only [cmpS, Option.bind_eq_some_iff, Prod.exists] at h g
    obtain ⟨x, t1, h1, sg, t2, h2, h⟩ := h
    obtain ⟨x', u1, g1, sg', u2, g2, g⟩ := g
    have a2 : t2.stuck = false := by
      split at h
      · cases h; exact hs
      · simp only [Option.bind_eq_some_iff, Option.some.injEq, Prod.mk.injEq, Prod.exists] at h
        obtain ⟨y, t3, h3, rfl, rfl⟩ := h
        exact (M.sum h3).1 hs
    have b2 : u2.stuck = false := by
      split at g
      · cases g; exact gs
      · simp only [Option.bind_eq_some_iff, Option.some.injEq, Prod.mk.injEq, Prod.exists] at g
        obtain ⟨y, t3, h3, rfl, rfl⟩ := g
        exact (M'.sum h3).1 gs
    have a1 := (takeAnyS_mild h2).1 a2
    have b1 := (takeAnyS_mild g2).1 b2
    obtain ⟨rfl, S1⟩ := ih.sum S h1 a1 g1 b1
    obtain ⟨rfl, S2⟩ := S1.any2 E (by simp) (.inl (by decide)) h2 a2 g2
    split at h
    · rename_i q
      rw [if_pos q] at g
      cases h
      cases g
      exact ⟨rfl, S2⟩
    · rename_i q
      rw [if_neg q] at g
      simp only [Option.bind_eq_some_iff, Option.some.injEq, Prod.mk.injEq, Prod.exists] at h g
      obtain ⟨y, t3, h3, rfl, rfl⟩ := h
      obtain ⟨y', u3, g3, rfl, rfl⟩ := g
      obtain ⟨rfl, S3⟩ := ih.sum S2 h3 hs g3 gs
      refine ⟨?_, S3⟩
      simp only [T.re, T.re_to, T.re_fr]
  case sum =>
    intro n' s1 s2 s1' s2' r r2 S h hs g gs
    cases n' with
    | zero => simp [sumS] at g
    | succ n' =>
    rw [sumS] at h g
    exact ih.chain _ _ (by simp) (by decide) S h hs g gs
  case term =>
    intro n' s1 s2 s1' s2' r r2 S h hs g gs
    cases n' with
    | zero => simp [termS] at g
    | succ n' =>
    rw [termS] at h g
    exact ih.chain _ _ (by simp) (by decide) S h hs g gs
  case part =>
    intro p n' s1 s2 s1' s2' r r2 S h hs g gs
    cases n' with
    | zero => simp [partS] at g
    | succ n' =>
    cases p with
    | term => simp only [partS] at h g; exact ih.term S h hs g gs
    | call => simp only [partS] at h g; exact ih.call S h hs g gs
  case chain =>
    intro p sg hg0 hg n' s1 s2 s1' s2' r r2 S h hs g gs
    cases n' with
    | zero => simp [chainS] at g
    | succ n' =>
    have M' := mild_all l2 ts2 n'
    simp only [chainS, Option.bind_eq_some_iff, Prod.exists] at h g
    obtain ⟨a, t1, h1, h2⟩ := h
    obtain ⟨a', u1, g1, g2⟩ := g
    have a1 := (M.chainFrom h2).1 hs
    have b1 := (M'.chainFrom g2).1 gs
    obtain ⟨rfl, S1⟩ := ih.part p S h1 a1 g1 b1
    exact ih.chainFrom p sg a hg0 hg S1 h2 hs g2 gs
  case chainFrom =>
    intro p sg a hg0 hg n' s1 s2 s1' s2' r r2 S h hs g gs
    cases n' with
    | zero => simp [chainFromS] at g
    | succ n' =>
    have M' := mild_all l2 ts2 n'
    simp only [chainFromS, Option.bind_eq_some_iff, Prod.exists] at h g
    obtain ⟨k, t1, h1, h⟩ := h
    obtain ⟨k', u1, g1, g⟩ := g
    have a1 : t1.stuck = false := by
      split at h
      · cases h; exact hs
      · simp only [Option.bind_eq_some_iff, Prod.exists] at h
        obtain ⟨c, t2, h2, h3⟩ := h
        exact (M.part h2).1 ((M.chainFrom h3).1 hs)
    obtain ⟨rfl, S1⟩ := S.any2 E hg0 (.inl hg) h1 a1 g1
    split at h
    · rename_i q
      rw [if_pos q] at g
      cases h
      cases g
      exact ⟨rfl, S1⟩
    · rename_i q
      rw [if_neg q] at g
      simp only [Option.bind_eq_some_iff, Prod.exists] at h g
      obtain ⟨c, t2, h2, h3⟩ := h
      obtain ⟨c', u2, g2, g3⟩ := g
      have a2 := (M.chainFrom h3).1 hs
      have b2 := (M'.chainFrom g3).1 gs
      obtain ⟨rfl, S2⟩ := ih.part p S1 h2 a2 g2 b2
      rw [T.re_to, T.re_fr] at g3
      exact ih.chainFrom p sg (.binary a.fr c.to k' a c) hg0 hg S2 h3 hs g3 gs
  case call =>
    intro n' s1 s2 s1' s2' r r2 S h hs g gs
    cases n' with
    | zero => simp [callS] at g
    | succ n' =>
    have M' := mild_all l2 ts2 n'
    simp only [callS, Option.bind_eq_some_iff, Prod.exists] at h g
    obtain ⟨a, t1, h1, h2⟩ := h
    obtain ⟨a', u1, g1, g2⟩ := g
    have a1 := (M.callFrom h2).1 hs
    have b1 := (M'.callFrom g2).1 gs
    obtain ⟨rfl, S1⟩ := ih.atom S h1 a1 g1 b1
    exact ih.callFrom a S1 h2 hs g2 gs
  case callFrom =>
    intro a n' s1 s2 s1' s2' r r2 S h hs g gs
    cases n' with
    | zero => simp [callFromS] at g
    | succ n' =>
    have M' := mild_all l2 ts2 n'
    simp only [callFromS, Option.bind_eq_some_iff] at h g
    obtain ⟨t, ht, h⟩ := h
    obtain ⟨t2, gt, g⟩ := g
    rcases S.toks E with ⟨hl, t', e1, e2, e3, e4⟩ | ⟨hN, t', u, e1, e2, e3, e4⟩
    · rw [ht] at e1
      cases e1
      rw [gt] at e2
      cases e2
      have hsort : (t.re m).sort = t.sort := rfl
      rw [hsort] at g
      split at h
      · rename_i q
        rw [if_pos q] at g
        simp only [Option.bind_eq_some_iff, Prod.exists] at h g
        obtain ⟨c, t3, h2, h3⟩ := h
        obtain ⟨c', u3, g2, g3⟩ := g
        have a2 := (M.callFrom h3).1 hs
        have b2 := (M'.callFrom g3).1 gs
        obtain ⟨rfl, S2⟩ := ih.atom S h2 a2 g2 b2
        rw [T.re_to, T.re_fr] at g3
        exact ih.callFrom (.call a.fr c.to a c) S2 h3 hs g3 gs
      · rename_i q
        rw [if_neg q] at g
        cases h
        cases g
        exact ⟨rfl, S⟩
    · rw [ht] at e1
      cases e1
      rw [gt] at e2
      cases e2
      rw [e3, if_neg (by decide)] at h
      have q : ¬ beginsAtom t2.sort = true := by
        simp [stopSort] at e4
        simp [beginsAtom]
        omega
      rw [if_neg q] at g
      cases h
      cases g
      exact ⟨rfl, S⟩
  case atom =>
    intro n' s1 s2 s1' s2' r r2 S h hs g gs
    cases n' with
    | zero => simp [atomS] at g
    | succ n' =>
    simp only [atomS, Option.bind_eq_some_iff] at h g
    obtain ⟨t, ht, h⟩ := h
    obtain ⟨t2, gt, g⟩ := g
    rcases S.toks E with ⟨hl, t', e1, e2, e3, e4⟩ | ⟨hN, t', u, e1, e2, e3, e4⟩
    · rw [ht] at e1
      cases e1
      rw [gt] at e2
      cases e2
      have hsort : (t.re m).sort = t.sort := rfl
      rw [hsort] at g
      split at h
      · rename_i q
        rw [if_pos q] at g
        exact ih.bracket S h hs g gs
      · rename_i q
        rw [if_neg q] at g
        split at h
        · rename_i q2
          rw [if_pos q2] at g
          simp only [Option.bind_eq_some_iff, Option.some.injEq, Prod.mk.injEq, Prod.exists] at h g
          obtain ⟨c, t3, h2, x, h3, rfl, rfl⟩ := h
          obtain ⟨c', u3, g2, x', g3, rfl, rfl⟩ := g
          obtain ⟨_, S2⟩ := S.take2 E h2 hs g2 e3
          rw [(leafS_re e4 h3).1] at g3
          cases g3
          exact ⟨rfl, S2⟩
        · simp only [Option.bind_eq_some_iff, Option.some.injEq, Prod.mk.injEq] at h
          obtain ⟨_, h2, _, rfl⟩ := h
          rw [(failS_stuck h2).1] at hs
          cases hs
    · rw [ht] at e1
      cases e1
      rw [e3, if_neg (by decide), if_neg (by decide)] at h
      simp only [Option.bind_eq_some_iff, Option.some.injEq, Prod.mk.injEq] at h
      obtain ⟨_, h2, _, rfl⟩ := h
      rw [(failS_stuck h2).1] at hs
      cases hs
  case bracket =>
    intro n' s1 s2 s1' s2' r r2 S h hs g gs
    cases n' with
    | zero => simp [bracketS] at g
    | succ n' =>
    have M' := mild_all l2 ts2 n'
    simp only [bracketS, Option.bind_eq_some_iff, Prod.exists] at h g
    obtain ⟨k, t1, h1, x, t2, h2, sg, t3, h3, h⟩ := h
    obtain ⟨k', u1, g1, x', u2, g2, sg', u3, g3, g⟩ := g
    have a3 : t3.stuck = false := by
      split at h
      · simp only [Option.bind_eq_some_iff, Option.some.injEq, Prod.mk.injEq, Prod.exists] at h
        obtain ⟨y, t4, h4, c5, t5, h5, t6, h6, rfl, rfl⟩ := h
        exact (M.expr h4).1 ((takeS_mild h5).1 (by rw [← (endS_mild h6).1]; exact hs))
      · simp only [Option.bind_eq_some_iff, Option.some.injEq, Prod.mk.injEq, Prod.exists] at h
        obtain ⟨c5, t5, h5, t6, h6, rfl, rfl⟩ := h
        exact (takeS_mild h5).1 (by rw [← (endS_mild h6).1]; exact hs)
    have b3 : u3.stuck = false := by
      split at g
      · simp only [Option.bind_eq_some_iff, Option.some.injEq, Prod.mk.injEq, Prod.exists] at g
        obtain ⟨y, t4, h4, c5, t5, h5, t6, h6, rfl, rfl⟩ := g
        exact (M'.expr h4).1 ((takeS_mild h5).1 (by rw [← (endS_mild h6).1]; exact gs))
      · simp only [Option.bind_eq_some_iff, Option.some.injEq, Prod.mk.injEq, Prod.exists] at g
        obtain ⟨c5, t5, h5, t6, h6, rfl, rfl⟩ := g
        exact (takeS_mild h5).1 (by rw [← (endS_mild h6).1]; exact gs)
    have a2 := (takeAnyS_mild h3).1 a3
    have a1 := (M.expr h2).1 a2
    have b2 := (takeAnyS_mild g3).1 b3
    have b1 := (M'.expr g2).1 b2
    obtain ⟨rfl, S1⟩ := S.begin2 E h1 a1 g1 b1 (by decide)
    obtain ⟨rfl, S2⟩ := ih.expr S1 h2 a2 g2 b2
    have hk : sg ≠ 0 ∨ t3.next < N := by
      rcases S2.toks E with ⟨hl, tt, q1, q2, q3, q4⟩ | ⟨hN, t, u, q1, q2, q3, q4⟩
      · rw [takeAnyS, q1, Option.bind_some] at h3
        split at h3
        · obtain ⟨⟨c9, s9⟩, q9, h3⟩ := Option.bind_eq_some_iff.1 h3
          cases h3
          obtain ⟨w1, w2, _, _⟩ := takeS_fine q9 a3 (by decide)
          exact .inl (by simp [w2])
        · rw [takeAnyS] at h3
          cases h3
          exact .inr hl
      · exfalso
        rw [takeAnyS, q1, Option.bind_some, if_neg (by rw [q3]; decide), takeAnyS] at h3
        cases h3
        rw [if_neg (by decide)] at h
        simp only [Option.bind_eq_some_iff, Option.some.injEq, Prod.mk.injEq, Prod.exists] at h
        obtain ⟨c5, t5, h5, t6, h6, rfl, rfl⟩ := h
        obtain ⟨w1, w2, _, _⟩ := takeS_fine h5 (by rw [← (endS_mild h6).1]; exact hs) (by decide)
        rw [q1] at w1
        cases w1
        rw [q3] at w2
        cases w2
    have hl2 : t2.next < N := S2.one E (by decide) h3 hk
    obtain ⟨rfl, S3⟩ := S2.any2 E (by simp) (.inr hl2) h3 a3 g3
    split at h
    · rename_i q
      rw [if_pos q] at g
      simp only [Option.bind_eq_some_iff, Option.some.injEq, Prod.mk.injEq, Prod.exists] at h g
      obtain ⟨y, t4, h4, c5, t5, h5, t6, h6, rfl, rfl⟩ := h
      obtain ⟨y', u4, g4, c5', u5, g5, u6, g6, rfl, rfl⟩ := g
      have a5 : t5.stuck = false := by rw [← (endS_mild h6).1]; exact hs
      have a4 := (takeS_mild h5).1 a5
      have b5 : u5.stuck = false := by rw [← (endS_mild g6).1]; exact gs
      have b4 := (takeS_mild g5).1 b5
      obtain ⟨rfl, S4⟩ := ih.expr S3 h4 a4 g4 b4
      obtain ⟨rfl, S5⟩ := S4.take2 E h5 a5 g5 (by decide)
      exact ⟨rfl, S5.end2 h6 g6⟩
    · rename_i q
      rw [if_neg q] at g
      simp only [Option.bind_eq_some_iff, Option.some.injEq, Prod.mk.injEq, Prod.exists] at h g
      obtain ⟨c5, t5, h5, t6, h6, rfl, rfl⟩ := h
      obtain ⟨c5', u5, g5, u6, g6, rfl, rfl⟩ := g
      have a5 : t5.stuck = false := by rw [← (endS_mild h6).1]; exact hs
      obtain ⟨rfl, S5⟩ := S3.take2 E h5 a5 g5 (by decide)
      exact ⟨rfl, S5.end2 h6 g6⟩

theorem two_all (E : Emb l1 l2 ts1 ts2 o m N) : ∀ n, WAll l1 l2 ts1 ts2 o N dd m n
  | 0 => by constructor <;> (intros; intro n' s1 s2 s1' s2' r r2 S h; simp [exprS, letS, funS, condS, cmpS, sumS, termS, partS, chainS, chainFromS, callS, callFromS, atomS, bracketS] at h)
  | n + 1 => two_step E (two_all E n)

end Go.Proofs.YtckhafpejefbbaaGreatDoor.Tw

/- Trees of the same types have their type shown the same. -/
namespace Go.Proofs.YtckhafpejefbbaaGreatDoor.Tw
open Go

def Ty.has (p : Nat) : Ty → Prop
  | .var q => q = p
  | .int => False
  | .bool => False
  | .fn a b => a.has p ∨ b.has p
  | .pair a b => a.has p ∨ b.has p

theorem idx_ren {ρ τ : Nat → Nat} {r : Nat} (hr : τ (ρ r) = r) : ∀ (l : List Nat) (i : Nat), (∀ p ∈ l, τ (ρ p) = p) → idxS (ρ r) (l.map ρ) i = idxS r l i
  | [], i, _ => rfl
  | x :: l, i, h => by
    simp only [List.map_cons, idxS]
    have hx := h x (by simp)
    by_cases e : r = x
    · rw [if_pos e, if_pos (by rw [e])]
    · rw [if_neg e, if_neg (fun q => e (by rw [← hr, q, hx])), idx_ren hr l (i + 1) fun p hp => h p (by simp [hp])]

theorem num_ren {ρ τ : Nat → Nat} {r : Nat} (hr : τ (ρ r) = r) (l : List Nat) (h : ∀ p ∈ l, τ (ρ p) = p) : numT (l.map ρ) (ρ r) = ((numT l r).1, (numT l r).2.map ρ) ∧ ∀ p ∈ (numT l r).2, p ∈ l ∨ p = r := by
  unfold numT
  rw [idx_ren hr l 0 h]
  cases idxS r l 0 with
  | some i => exact ⟨rfl, fun p hp => .inl hp⟩
  | none => exact ⟨by simp, fun p hp => by simpa using hp⟩

def Rn (ρ : Nat → Nat) (s : List Nat × List UInt8) : List Nat × List UInt8 := (s.1.map ρ, s.2)

theorem tsort_ren (ρ : Nat → Nat) (a : Ty) : (a.sub fun p => .var (ρ p)).tsort = a.tsort := by cases a <;> rfl

def WrRen (ρ τ : Nat → Nat) (a : Ty) : Prop := ∀ (s : List Nat × List UInt8), (∀ p, p ∈ s.1 ∨ a.has p → τ (ρ p) = p) →
  wrT (a.sub fun p => .var (ρ p)) (Rn ρ s) = Rn ρ (wrT a s) ∧ ∀ p ∈ (wrT a s).1, p ∈ s.1 ∨ a.has p

theorem brk_ren {ρ τ : Nat → Nat} {a : Ty} (h : WrRen ρ τ a) (b : Bool) (s : List Nat × List UInt8) (hs : ∀ p, p ∈ s.1 ∨ a.has p → τ (ρ p) = p) :
    brk b (wrT (a.sub fun p => .var (ρ p))) (Rn ρ s) = Rn ρ (brk b (wrT a) s) ∧ ∀ p ∈ (brk b (wrT a) s).1, p ∈ s.1 ∨ a.has p := by
  cases b with
  | false => exact h s hs
  | true =>
    obtain ⟨h1, h2⟩ := h (s.1, putS 400 s.2 [40]) hs
    simp only [brk, if_true]
    refine ⟨?_, h2⟩
    have : ((Rn ρ s).1, putS 400 (Rn ρ s).2 [40]) = Rn ρ (s.1, putS 400 s.2 [40]) := rfl
    rw [this, h1]
    rfl

theorem wr_ren (ρ τ : Nat → Nat) : ∀ a : Ty, WrRen ρ τ a := by
  intro a
  induction a with
  | var q =>
    intro s hs
    simp only [Ty.sub, wrT]
    have e : (Rn ρ s).2 = s.2 := rfl
    rw [e]
    by_cases hf : 400 < s.2.length
    · rw [if_pos hf, if_pos hf]
      exact ⟨rfl, fun p hp => .inl hp⟩
    · rw [if_neg hf, if_neg hf]
      obtain ⟨h1, h2⟩ := num_ren (ρ := ρ) (τ := τ) (hs q (.inr rfl)) s.1 fun p hp => hs p (.inl hp)
      have : (Rn ρ s).1 = s.1.map ρ := rfl
      rw [this, h1]
      exact ⟨rfl, fun p hp => (h2 p hp).imp id fun e => e.symm⟩
  | int =>
    intro s hs
    simp only [Ty.sub, wrT]
    have e : (Rn ρ s).2 = s.2 := rfl
    rw [e]
    by_cases hf : 400 < s.2.length
    · rw [if_pos hf, if_pos hf]
      exact ⟨rfl, fun p hp => .inl hp⟩
    · rw [if_neg hf, if_neg hf]
      exact ⟨rfl, fun p hp => .inl hp⟩
  | bool =>
    intro s hs
    simp only [Ty.sub, wrT]
    have e : (Rn ρ s).2 = s.2 := rfl
    rw [e]
    by_cases hf : 400 < s.2.length
    · rw [if_pos hf, if_pos hf]
      exact ⟨rfl, fun p hp => .inl hp⟩
    · rw [if_neg hf, if_neg hf]
      exact ⟨rfl, fun p hp => .inl hp⟩
  | fn a b iha ihb =>
    intro s hs
    simp only [Ty.sub, wrT, tsort_ren]
    have e : (Rn ρ s).2 = s.2 := rfl
    rw [e]
    by_cases hf : 400 < s.2.length
    · rw [if_pos hf, if_pos hf]
      exact ⟨rfl, fun p hp => .inl hp⟩
    · rw [if_neg hf, if_neg hf]
      obtain ⟨h1, h2⟩ := brk_ren iha (a.tsort == 3) s fun p hp => hs p (hp.imp id .inl)
      rw [h1]
      obtain ⟨h3, h4⟩ := ihb ((brk (a.tsort == 3) (wrT a) s).1, putS 400 (brk (a.tsort == 3) (wrT a) s).2 [32, 45, 62, 32]) fun p hp => hs p (hp.elim (fun q => (h2 p q).imp id .inl) fun q => .inr (.inr q))
      exact ⟨h3, fun p hp => (h4 p hp).elim (fun q => (h2 p q).imp id .inl) fun q => .inr (.inr q)⟩
  | pair a b iha ihb =>
    intro s hs
    simp only [Ty.sub, wrT, tsort_ren]
    have e : (Rn ρ s).2 = s.2 := rfl
    rw [e]
    by_cases hf : 400 < s.2.length
    · rw [if_pos hf, if_pos hf]
      exact ⟨rfl, fun p hp => .inl hp⟩
    · rw [if_neg hf, if_neg hf]
      obtain ⟨h1, h2⟩ := brk_ren iha (a.tsort == 3 || a.tsort == 4) s fun p hp => hs p (hp.imp id .inl)
      rw [h1]
      obtain ⟨h3, h4⟩ := brk_ren ihb (b.tsort == 3 || b.tsort == 4) ((brk (a.tsort == 3 || a.tsort == 4) (wrT a) s).1, putS 400 (brk (a.tsort == 3 || a.tsort == 4) (wrT a) s).2 [32, 42, 32]) fun p hp => hs p (hp.elim (fun q => (h2 p q).imp id .inl) fun q => .inr (.inr q))
      exact ⟨h3, fun p hp => (h4 p hp).elim (fun q => (h2 p q).imp id .inl) fun q => .inr (.inr q)⟩

/-- What goes there and back takes each variable to a variable. -/
theorem sub_back {σ τ : Nat → Ty} : ∀ {a : Ty}, (a.sub σ).sub τ = a → ∀ p, a.has p → ∃ q, σ p = .var q ∧ τ q = .var p
  | .var r, h, p, hp => by
    cases hp
    simp only [Ty.sub] at h
    cases hs : σ r with
    | var q => rw [hs] at h; exact ⟨q, rfl, h⟩
    | int => rw [hs] at h; cases h
    | bool => rw [hs] at h; cases h
    | fn _ _ => rw [hs] at h; cases h
    | pair _ _ => rw [hs] at h; cases h
  | .int, _, _, hp => hp.elim
  | .bool, _, _, hp => hp.elim
  | .fn a b, h, p, hp => by
    simp only [Ty.sub, Ty.fn.injEq] at h
    exact hp.elim (sub_back h.1 p) (sub_back h.2 p)
  | .pair a b, h, p, hp => by
    simp only [Ty.sub, Ty.pair.injEq] at h
    exact hp.elim (sub_back h.1 p) (sub_back h.2 p)

theorem sub_congr {σ τ : Nat → Ty} : ∀ {a : Ty}, (∀ p, a.has p → σ p = τ p) → a.sub σ = a.sub τ
  | .var r, h => h r rfl
  | .int, _ => rfl
  | .bool, _ => rfl
  | .fn a b, h => by
    simp only [Ty.sub]
    rw [sub_congr (a := a) fun p hp => h p (.inl hp), sub_congr (a := b) fun p hp => h p (.inr hp)]
  | .pair a b, h => by
    simp only [Ty.sub]
    rw [sub_congr (a := a) fun p hp => h p (.inl hp), sub_congr (a := b) fun p hp => h p (.inr hp)]

def Ty.idx : Ty → Nat
  | .var q => q
  | _ => 0

theorem shown_back {σ τ : Nat → Ty} {a b : Ty} (h1 : b = a.sub σ) (h2 : a = b.sub τ) : b.shown = a.shown := by
  have hb := sub_back (σ := σ) (τ := τ) (a := a) (by rw [← h1, ← h2])
  have e : b = a.sub fun p => .var (σ p).idx := by
    rw [h1]
    refine sub_congr fun p hp => ?_
    obtain ⟨q, hq, _⟩ := hb p hp
    rw [hq]
    rfl
  unfold Ty.shown
  have := (wr_ren (fun p => (σ p).idx) (fun q => (τ q).idx) a ([], []) (fun p hp => by
    rcases hp with hp | hp
    · cases hp
    · obtain ⟨q, hq, hq2⟩ := hb p hp
      simp only [hq, Ty.idx, hq2])).1
  rw [e]
  have e2 : Rn (fun p => (σ p).idx) ([], []) = (([], []) : List Nat × List UInt8) := rfl
  rw [e2] at this
  rw [this]
  rfl

theorem sub_var : ∀ a : Ty, a = a.sub .var
  | .var _ => rfl
  | .int => rfl
  | .bool => rfl
  | .fn a b => by simp only [Ty.sub]; rw [← sub_var a, ← sub_var b]
  | .pair a b => by simp only [Ty.sub]; rw [← sub_var a, ← sub_var b]

theorem Most.typ {t : T} {a : Ty} (h : Most t a) : Typ t .nil a := (h a).2 ⟨.var, sub_var a⟩

/-- **Trees of the same types are shown the same type.** -/
theorem most_shown {t1 t2 : T} {a1 a2 : Ty} (h1 : Most t1 a1) (h2 : Most t2 a2) (h : ∀ b, Typ t1 .nil b ↔ Typ t2 .nil b) : a2.shown = a1.shown := by
  have r1 := h1.typ
  have r2 := h2.typ
  obtain ⟨σ, e1⟩ := (h1 a2).1 ((h a2).2 r2)
  obtain ⟨τ, e2⟩ := (h2 a1).1 ((h a1).1 r1)
  exact shown_back e1 e2

/-- What Of answers, of two trees of the same types. -/
theorem of_same {t1 t2 : T} {w1 w2 : Nat} (hw1 : weightS t1 .nil = some w1) (hl1 : w1 ≤ 2000) (hw2 : weightS t2 .nil = some w2) (hl2 : w2 ≤ 2000) (h : ∀ b, Typ t1 .nil b ↔ Typ t2 .nil b) : ∃ n0 res, (∀ n, n0 ≤ n → ofS n t1 = some res) ∧ (∀ n, n0 ≤ n → ofS n t2 = some res) := by
  obtain ⟨n1, r1, g1, s1⟩ := of_spec hw1 hl1
  obtain ⟨n2, r2, g2, s2⟩ := of_spec hw2 hl2
  have e : r1 = r2 := by
    rcases s1 with ⟨rfl, n1⟩ | ⟨a1, rfl, m1⟩
    · rcases s2 with ⟨rfl, n2⟩ | ⟨a2, rfl, m2⟩
      · rfl
      · exact absurd ((h a2).2 m2.typ) (n1 a2)
    · rcases s2 with ⟨rfl, n2⟩ | ⟨a2, rfl, m2⟩
      · exact absurd ((h a1).1 m1.typ) (n2 a1)
      · rw [most_shown m1 m2 h]
  subst e
  exact ⟨max n1 n2, r1, fun n hn => g1 n (by omega), fun n hn => g2 n (by omega)⟩

end Go.Proofs.YtckhafpejefbbaaGreatDoor.Tw

/- The run's twin: more fuel alters nothing; a moved tree comes to the same; it answers of every tree whose names are bound. -/
namespace Go.Proofs.YtckhafpejefbbaaGreatDoor.Tw
open Go

theorem evalS_more1 (bud : Nat) : ∀ (n : Nat) {t : T} {e : VEnv} {st : RS} {r : Option Val × RS}, evalS bud n t e st = some r → evalS bud (n + 1) t e st = some r
  | 0, t, e, st, r, h => by simp [evalS] at h
  | n + 1, t, e, st, r, h => by
    have ih : ∀ {t : T} {e : VEnv} {st : RS} {r : Option Val × RS}, evalS bud n t e st = some r → evalS bud (n + 1) t e st = some r := fun h => evalS_more1 bud n h
    have both : ∀ {l r : T} {e : VEnv} {st : RS} {c : Option (Val × Val) × RS}, bothS bud n l r e st = some c → bothS bud (n + 1) l r e st = some c := by
      intro l r e st c h
      unfold bothS at h ⊢
      obtain ⟨a, h1, h⟩ := Option.bind_eq_some_iff.1 h
      rw [ih h1, Option.bind_some]
      obtain ⟨a1, a2⟩ := a
      cases a1 with
      | none => exact h
      | some x =>
        simp only at h ⊢
        obtain ⟨b, h2, h⟩ := Option.bind_eq_some_iff.1 h
        rw [ih h2, Option.bind_some]
        exact h
    cases t with
    | name fr to x => rw [evalS] at h ⊢; exact h
    | int fr to v => rw [evalS] at h ⊢; exact h
    | truth fr to v => rw [evalS] at h ⊢; exact h
    | side fr to v => rw [evalS] at h ⊢; exact h
    | fn fr to bn bat b => rw [evalS] at h ⊢; exact h
    | bracket fr to i => rw [evalS] at h ⊢; exact ih h
    | pair fr to x y =>
      rw [evalS_pair] at h ⊢
      obtain ⟨c, h1, h⟩ := Option.bind_eq_some_iff.1 h
      rw [both h1, Option.bind_some]
      exact h
    | binary fr to s x y =>
      rw [evalS_binary] at h ⊢
      obtain ⟨c, h1, h⟩ := Option.bind_eq_some_iff.1 h
      rw [both h1, Option.bind_some]
      exact h
    | call fr to x y =>
      rw [evalS_call] at h ⊢
      obtain ⟨c, h1, h⟩ := Option.bind_eq_some_iff.1 h
      rw [both h1, Option.bind_some]
      obtain ⟨c1, c2⟩ := c
      cases c1 with
      | none => exact h
      | some p =>
        obtain ⟨f, a⟩ := p
        simp only at h ⊢
        unfold applyS at h ⊢
        cases f with
        | clo _ _ bn _ body env =>
          simp only at h ⊢
          split at h
          · rename_i q; rw [if_pos q]; exact h
          · rename_i q; rw [if_neg q]; exact ih h
        | num _ => exact h
        | truth _ => exact h
        | side _ => exact h
        | pair _ _ => exact h
    | cond fr to c x y =>
      rw [evalS] at h ⊢
      obtain ⟨a, h1, h⟩ := Option.bind_eq_some_iff.1 h
      rw [ih h1, Option.bind_some]
      obtain ⟨a1, a2⟩ := a
      cases a1 with
      | none => exact h
      | some v =>
        simp only at h ⊢
        split at h
        · rename_i q; rw [if_pos q]; exact ih h
        · rename_i q; rw [if_neg q]; exact ih h
    | lett fr to rc bn bat d b =>
      rw [evalS] at h ⊢
      obtain ⟨a, h1, h⟩ := Option.bind_eq_some_iff.1 h
      rw [ih h1, Option.bind_some]
      obtain ⟨a1, a2⟩ := a
      cases a1 with
      | none => exact h
      | some v => exact ih h

theorem evalS_more {bud n k : Nat} (hk : n ≤ k) {t : T} {e : VEnv} {st : RS} {r : Option Val × RS} (h : evalS bud n t e st = some r) : evalS bud k t e st = some r := by
  induction k with
  | zero => rw [show n = 0 from by omega] at h; exact h
  | succ k ih =>
    rcases Nat.lt_or_ge n (k + 1) with h1 | h1
    · exact evalS_more1 bud k (ih (by omega))
    · rw [show n = k + 1 from by omega] at h; exact h

theorem runS_more {n k : Nat} (hk : n ≤ k) {t : T} {bud : Nat} {r : Int × Nat × List UInt8} (h : runS n t bud = some r) : runS k t bud = some r := by
  unfold runS at h ⊢
  obtain ⟨a, h1, h⟩ := Option.bind_eq_some_iff.1 h
  rw [evalS_more hk h1, Option.bind_some]
  exact h

/-! ### A moved tree -/

def envMv (d : Nat) (e : VEnv) : VEnv := e.map fun p => (p.1, d + p.2)

def Val.mv (m : Mv) (d : Nat) : Val → Val
  | .num n => .num n
  | .truth b => .truth b
  | .side b => .side b
  | .pair l r => .pair (l.mv m d) (r.mv m d)
  | .clo fr to bn bat body env => .clo (m.fr fr) (m.to to) bn (m.fr bat) (body.re m) (envMv d env)

def RS.mv (m : Mv) (pre : List (Option Val)) (st : RS) : RS := ⟨pre ++ st.slots.map (Option.map (Val.mv m pre.length)), st.steps, st.fin⟩

def outMv (m : Mv) (pre : List (Option Val)) (a : Option Val × RS) : Option Val × RS := (a.1.map (Val.mv m pre.length), a.2.mv m pre)

theorem lookV_mv (d : Nat) (x : List UInt8) : ∀ e : VEnv, lookV (envMv d e) x = (lookV e x).map (d + ·)
  | [] => rfl
  | (n, k) :: o => by
    simp only [envMv, List.map_cons, lookV]
    split
    · rfl
    · exact lookV_mv d x o

theorem asNum_mv (m : Mv) (d : Nat) (v : Val) : asNum (v.mv m d) = asNum v := by cases v <;> rfl

theorem reckon_mv (m : Mv) (pre : List (Option Val)) (s a b : Int) (st : RS) : reckonS s a b (st.mv m pre) = outMv m pre (reckonS s a b st) := by
  unfold reckonS
  (repeat' split) <;> rfl

theorem writeV_mv (m : Mv) (d : Nat) : ∀ (v : Val) (acc : List UInt8), writeV (v.mv m d) acc = writeV v acc
  | .num _, _ => rfl
  | .truth _, _ => rfl
  | .side _, _ => rfl
  | .clo _ _ _ _ _ _, _ => rfl
  | .pair l r, acc => by
    simp only [Val.mv, writeV]
    rw [writeV_mv m d l, writeV_mv m d r]

theorem truth_mv (m : Mv) (d : Nat) (v : Val) : (v.mv m d = .truth true) ↔ (v = .truth true) := by cases v <;> simp [Val.mv]

theorem evalS_mv (bud : Nat) (m : Mv) (hv : ∀ f x, m.val f x = x) (hn : ∀ f x, m.nm f x = x) (pre : List (Option Val)) : ∀ (n : Nat) (t : T) (e : VEnv) (st : RS), evalS bud n (t.re m) (envMv pre.length e) (st.mv m pre) = (evalS bud n t e st).map (outMv m pre)
  | 0, _, _, _ => rfl
  | n + 1, t, e, st => by
    have ih : ∀ (t : T) (e : VEnv) (st : RS), evalS bud n (t.re m) (envMv pre.length e) (st.mv m pre) = (evalS bud n t e st).map (outMv m pre) := evalS_mv bud m hv hn pre n
    have both : ∀ (l r : T) (e : VEnv) (st : RS), bothS bud n (l.re m) (r.re m) (envMv pre.length e) (st.mv m pre) = (bothS bud n l r e st).map fun c => (c.1.map fun p => (p.1.mv m pre.length, p.2.mv m pre.length), c.2.mv m pre) := by
      intro l r e st
      unfold bothS
      rw [ih]
      cases evalS bud n l e st with
      | none => rfl
      | some a =>
        obtain ⟨a1, a2⟩ := a
        cases a1 with
        | none => rfl
        | some x =>
          simp only [Option.map_some, Option.bind_some, outMv]
          rw [ih]
          cases evalS bud n r e a2 with
          | none => rfl
          | some b =>
            obtain ⟨b1, b2⟩ := b
            cases b1 <;> rfl
    cases t with
    | name fr to x =>
      simp only [T.re, evalS, hn]
      rw [lookV_mv]
      cases lookV e x with
      | none => rfl
      | some i =>
        simp only [Option.map_some, Option.bind_some]
        have hs : (st.mv m pre).slots[pre.length + i]? = (st.slots[i]?).map (Option.map (Val.mv m pre.length)) := by
          simp only [RS.mv]
          rw [List.getElem?_append_right (by omega), Nat.add_sub_cancel_left, List.getElem?_map]
        rw [hs]
        cases st.slots[i]? with
        | none => rfl
        | some o => cases o <;> rfl
    | int fr to v =>
      simp only [T.re, evalS]
      rw [hv]
      split <;> rfl
    | truth fr to v => rfl
    | side fr to v => rfl
    | fn fr to bn bat b => simp only [T.re, evalS, hn]; rfl
    | bracket fr to i => simp only [T.re, evalS]; exact ih _ _ _
    | pair fr to x y =>
      simp only [T.re]
      rw [evalS_pair, evalS_pair, both]
      cases bothS bud n x y e st with
      | none => rfl
      | some c =>
        obtain ⟨c1, c2⟩ := c
        cases c1 <;> rfl
    | binary fr to s x y =>
      simp only [T.re]
      rw [evalS_binary, evalS_binary, both]
      cases bothS bud n x y e st with
      | none => rfl
      | some c =>
        obtain ⟨c1, c2⟩ := c
        cases c1 with
        | none => rfl
        | some p =>
          simp only [Option.map_some, Option.bind_some, asNum_mv, reckon_mv]
    | call fr to x y =>
      simp only [T.re]
      rw [evalS_call, evalS_call, both]
      cases bothS bud n x y e st with
      | none => rfl
      | some c =>
        obtain ⟨c1, c2⟩ := c
        cases c1 with
        | none => rfl
        | some p =>
          obtain ⟨f, a⟩ := p
          simp only [Option.map_some, Option.bind_some]
          unfold applyS
          cases f with
          | clo f1 t1 bn bat body env =>
            simp only [Val.mv]
            have hsteps : (c2.mv m pre).steps = c2.steps := rfl
            rw [hsteps]
            by_cases q : c2.steps = bud
            · rw [if_pos q, if_pos q]; rfl
            · rw [if_neg q, if_neg q, ← ih]
              congr 1
              · simp [envMv, RS.mv]
              · simp [RS.mv]
          | num _ => rfl
          | truth _ => rfl
          | side s =>
            simp only [Val.mv, Option.map_some, outMv]
            cases a <;> simp [sideS, Val.mv]
            split <;> rfl
          | pair _ _ => rfl
    | cond fr to c x y =>
      simp only [T.re, evalS]
      rw [ih]
      cases evalS bud n c e st with
      | none => rfl
      | some a =>
        obtain ⟨a1, a2⟩ := a
        cases a1 with
        | none => rfl
        | some v =>
          simp only [Option.map_some, Option.bind_some, outMv, truth_mv]
          split
          · exact ih _ _ _
          · exact ih _ _ _
    | lett fr to rc bn bat d b =>
      simp only [T.re, evalS, hn]
      have hl : (st.mv m pre).slots.length = pre.length + st.slots.length := by simp [RS.mv]
      have e1 : (if rc then (bn, (st.mv m pre).slots.length) :: envMv pre.length e else envMv pre.length e) = envMv pre.length (if rc then (bn, st.slots.length) :: e else e) := by
        rw [hl]
        cases rc <;> rfl
      have e2 : { st.mv m pre with slots := (st.mv m pre).slots ++ [none] } = RS.mv m pre { st with slots := st.slots ++ [none] } := by
        simp [RS.mv]
      rw [e1, e2, ih]
      cases evalS bud n d (if rc then (bn, st.slots.length) :: e else e) { st with slots := st.slots ++ [none] } with
      | none => rfl
      | some a =>
        obtain ⟨a1, a2⟩ := a
        cases a1 with
        | none => rfl
        | some v =>
          simp only [Option.map_some, Option.bind_some, outMv]
          rw [← ih]
          congr 1
          · rw [hl]; rfl
          · rw [hl]
            simp only [RS.mv, RS.mk.injEq, and_true]
            rw [List.set_append_right _ _ (by omega), Nat.add_sub_cancel_left, List.map_set]
            rfl

/-! ### It answers -/

def T.fit : T → Prop
  | .name .. | .truth .. | .side .. => True
  | .int _ _ v => -9223372036854775808 ≤ v ∧ v ≤ 9223372036854775807
  | .bracket _ _ i => i.fit
  | .pair _ _ x y => x.fit ∧ y.fit
  | .call _ _ x y => x.fit ∧ y.fit
  | .binary _ _ _ x y => x.fit ∧ y.fit
  | .cond _ _ x y z => x.fit ∧ y.fit ∧ z.fit
  | .fn _ _ _ _ x => x.fit
  | .lett _ _ _ _ _ x y => x.fit ∧ y.fit

def OkE (N : Nat) (e : VEnv) : Prop := ∀ p ∈ e, p.2 < N

def OkV (N : Nat) : Val → Prop
  | .num _ | .truth _ | .side _ => True
  | .pair l r => OkV N l ∧ OkV N r
  | .clo _ _ bn _ body env => body.freeS (bn :: env.map (·.1)) = none ∧ body.fit ∧ OkE N env

theorem OkE.mono {N M : Nat} (h : N ≤ M) {e : VEnv} (k : OkE N e) : OkE M e := fun p hp => Nat.lt_of_lt_of_le (k p hp) h

theorem OkV.mono {N M : Nat} (h : N ≤ M) : ∀ {v : Val}, OkV N v → OkV M v
  | .num _, _ => trivial
  | .truth _, _ => trivial
  | .side _, _ => trivial
  | .pair _ _, k => ⟨OkV.mono h k.1, OkV.mono h k.2⟩
  | .clo _ _ _ _ _ _, k => ⟨k.1, k.2.1, k.2.2.mono h⟩

def OkS (st : RS) : Prop := ∀ v, some v ∈ st.slots → OkV st.slots.length v

theorem look_some {x : List UInt8} : ∀ {e : VEnv}, (e.map (·.1)).contains x = true → ∃ p ∈ e, lookV e x = some p.2
  | [], h => by simp at h
  | (n, k) :: o, h => by
    by_cases hn : n = x
    · exact ⟨(n, k), by simp, by simp [lookV, hn]⟩
    · simp only [List.map_cons, List.contains_cons, Bool.or_eq_true, beq_iff_eq] at h
      obtain ⟨p, hp, e⟩ := look_some (h.resolve_left fun q => hn q.symm)
      exact ⟨p, by simp [hp], by simp [lookV, hn, e]⟩

structure OkOut (bud : Nat) (st : RS) (a : Option Val × RS) : Prop where
  slots : OkS a.2
  val : ∀ v, a.1 = some v → OkV a.2.slots.length v
  len : st.slots.length ≤ a.2.slots.length
  up : st.steps ≤ a.2.steps
  top : a.2.steps ≤ bud

theorem OkOut.trans {bud : Nat} {st st' : RS} {a : Option Val × RS} (h : st.slots.length ≤ st'.slots.length) (h2 : st.steps ≤ st'.steps) (k : OkOut bud st' a) : OkOut bud st a := ⟨k.slots, k.val, Nat.le_trans h k.len, Nat.le_trans h2 k.up, k.top⟩

def Ans (bud : Nat) (t : T) (e : VEnv) (st : RS) : Prop := ∃ n a, evalS bud n t e st = some a ∧ OkOut bud st a

theorem reckon_ok {bud : Nat} (s a b : Int) {st : RS} (h : OkS st) (ht : st.steps ≤ bud) : OkOut bud st (reckonS s a b st) := by
  have fine : ∀ v : Val, OkV st.slots.length v → OkOut bud st (some v, st) := fun v hv => ⟨h, fun w hw => by cases hw; exact hv, Nat.le_refl _, Nat.le_refl _, ht⟩
  unfold reckonS
  split
  · exact fine _ trivial
  split
  · exact fine _ trivial
  split
  · exact fine _ trivial
  split
  · exact fine _ trivial
  split
  · exact fine _ trivial
  split
  · exact ⟨h, fun w hw => (by cases hw), Nat.le_refl _, Nat.le_refl _, ht⟩
  · exact fine _ trivial

theorem run_ans (bud : Nat) : ∀ (k : Nat) (t : T) (e : VEnv) (st : RS), st.steps ≤ bud → bud - st.steps ≤ k → t.freeS (e.map (·.1)) = none → t.fit → OkE st.slots.length e → OkS st → Ans bud t e st := by
  intro k
  induction k using Nat.strongRecOn with
  | _ k IH =>
  have both : ∀ (l r : T), (∀ (e : VEnv) (st : RS), st.steps ≤ bud → bud - st.steps ≤ k → l.freeS (e.map (·.1)) = none → l.fit → OkE st.slots.length e → OkS st → Ans bud l e st) → (∀ (e : VEnv) (st : RS), st.steps ≤ bud → bud - st.steps ≤ k → r.freeS (e.map (·.1)) = none → r.fit → OkE st.slots.length e → OkS st → Ans bud r e st) →
      ∀ (e : VEnv) (st : RS), st.steps ≤ bud → bud - st.steps ≤ k → l.freeS (e.map (·.1)) = none → r.freeS (e.map (·.1)) = none → l.fit → r.fit → OkE st.slots.length e → OkS st →
      ∃ n c, (∀ j, n ≤ j → bothS bud j l r e st = some c) ∧ OkOut bud st (none, c.2) ∧ ∀ x y, c.1 = some (x, y) → OkV c.2.slots.length x ∧ OkV c.2.slots.length y := by
    intro l r hl hr e st h1 h2 h3 h4 h5 h6 h7 h8
    obtain ⟨n1, ⟨a1, a2⟩, g1, o1⟩ := hl e st h1 h2 h3 h5 h7 h8
    cases a1 with
    | none =>
      refine ⟨n1, (none, a2), fun j hj => ?_, o1, fun x y q => by cases q⟩
      unfold bothS
      rw [evalS_more hj g1]
      rfl
    | some x =>
      have u := o1.up
      obtain ⟨n2, ⟨b1, b2⟩, g2, o2⟩ := hr e a2 o1.top (by simp only at u; omega) h4 h6 (h7.mono o1.len) o1.slots
      cases b1 with
      | none =>
        refine ⟨max n1 n2, (none, b2), fun j hj => ?_, o2.trans o1.len o1.up, fun x y q => by cases q⟩
        unfold bothS
        rw [evalS_more (by omega) g1]
        simp only [Option.bind_some]
        rw [evalS_more (by omega) g2]
        rfl
      | some y =>
        refine ⟨max n1 n2, (some (x, y), b2), fun j hj => ?_, ?_, fun x' y' q => ?_⟩
        · unfold bothS
          rw [evalS_more (by omega) g1]
          simp only [Option.bind_some]
          rw [evalS_more (by omega) g2]
          rfl
        · have := o2.trans o1.len o1.up
          exact ⟨this.slots, fun v q => (by cases q), this.len, this.up, this.top⟩
        · cases q
          exact ⟨(o1.val x rfl).mono o2.len, o2.val y rfl⟩
  intro t
  induction t with
  | name fr to x =>
    intro e st h1 h2 h3 h4 h5 h6
    simp only [T.freeS] at h3
    split at h3
    · rename_i hx
      obtain ⟨p, hp, hl⟩ := look_some hx
      have hlt := h5 p hp
      have hg : st.slots[p.2]? = some st.slots[p.2] := List.getElem?_eq_getElem hlt
      cases hs : st.slots[p.2] with
      | none =>
        refine ⟨1, (none, { st with fin := 1 }), ?_, ⟨h6, fun v q => (by cases q), Nat.le_refl _, Nat.le_refl _, h1⟩⟩
        simp only [evalS]
        rw [hl]
        simp only [Option.bind_some]
        rw [hg, hs]
      | some v =>
        refine ⟨1, (some v, st), ?_, ⟨h6, fun w q => by cases q; exact h6 v (by rw [← hs]; exact List.getElem_mem hlt), Nat.le_refl _, Nat.le_refl _, h1⟩⟩
        simp only [evalS]
        rw [hl]
        simp only [Option.bind_some]
        rw [hg, hs]
    · cases h3
  | int fr to v =>
    intro e st h1 h2 h3 h4 h5 h6
    exact ⟨1, (some (.num v), st), by simp only [evalS]; rw [if_pos (show -9223372036854775808 ≤ v ∧ v ≤ 9223372036854775807 from h4)], ⟨h6, fun w q => (by cases q; exact trivial), Nat.le_refl _, Nat.le_refl _, h1⟩⟩
  | truth fr to v =>
    intro e st h1 h2 h3 h4 h5 h6
    exact ⟨1, (some (.truth v), st), rfl, ⟨h6, fun w q => (by cases q; exact trivial), Nat.le_refl _, Nat.le_refl _, h1⟩⟩
  | side fr to v =>
    intro e st h1 h2 h3 h4 h5 h6
    exact ⟨1, (some (.side v), st), rfl, ⟨h6, fun w q => (by cases q; exact trivial), Nat.le_refl _, Nat.le_refl _, h1⟩⟩
  | fn fr to bn bat b ih =>
    intro e st h1 h2 h3 h4 h5 h6
    exact ⟨1, (some (.clo fr to bn bat b e), st), rfl, ⟨h6, fun w q => (by cases q; exact ⟨h3, h4, h5⟩), Nat.le_refl _, Nat.le_refl _, h1⟩⟩
  | bracket fr to i ih =>
    intro e st h1 h2 h3 h4 h5 h6
    obtain ⟨n, a, g, o⟩ := ih e st h1 h2 h3 h4 h5 h6
    exact ⟨n + 1, a, by simp only [evalS]; exact g, o⟩
  | pair fr to x y ihx ihy =>
    intro e st h1 h2 h3 h4 h5 h6
    simp only [T.freeS, Option.or_eq_none_iff] at h3
    obtain ⟨n, ⟨c1, c2⟩, g, o, hv⟩ := both x y ihx ihy e st h1 h2 h3.1 h3.2 h4.1 h4.2 h5 h6
    cases c1 with
    | none => exact ⟨n + 1, (none, c2), by rw [evalS_pair, g n (Nat.le_refl _)]; rfl, o⟩
    | some p =>
      obtain ⟨u, v⟩ := p
      exact ⟨n + 1, (some (.pair u v), c2), by rw [evalS_pair, g n (Nat.le_refl _)]; rfl, ⟨o.slots, fun w q => (by cases q; exact hv u v rfl), o.len, o.up, o.top⟩⟩
  | binary fr to s x y ihx ihy =>
    intro e st h1 h2 h3 h4 h5 h6
    simp only [T.freeS, Option.or_eq_none_iff] at h3
    obtain ⟨n, ⟨c1, c2⟩, g, o, hv⟩ := both x y ihx ihy e st h1 h2 h3.1 h3.2 h4.1 h4.2 h5 h6
    cases c1 with
    | none => exact ⟨n + 1, (none, c2), by rw [evalS_binary, g n (Nat.le_refl _)]; rfl, o⟩
    | some p =>
      obtain ⟨u, v⟩ := p
      exact ⟨n + 1, _, by rw [evalS_binary, g n (Nat.le_refl _)]; rfl, (reckon_ok s (asNum u) (asNum v) o.slots o.top).trans o.len o.up⟩
  | call fr to x y ihx ihy =>
    intro e st h1 h2 h3 h4 h5 h6
    simp only [T.freeS, Option.or_eq_none_iff] at h3
    obtain ⟨n, ⟨c1, c2⟩, g, o, hv⟩ := both x y ihx ihy e st h1 h2 h3.1 h3.2 h4.1 h4.2 h5 h6
    cases c1 with
    | none => exact ⟨n + 1, (none, c2), by rw [evalS_call, g n (Nat.le_refl _)]; rfl, o⟩
    | some p =>
      obtain ⟨u, v⟩ := p
      obtain ⟨hu, hw⟩ := hv u v rfl
      have stop : ∀ st' : RS, st'.slots = c2.slots → st'.steps = c2.steps → OkOut bud st (none, st') := fun st' q1 q2 =>
        ⟨by have := o.slots; unfold OkS at this ⊢; simp only at this ⊢; rw [q1]; exact this, fun w q => (by cases q), by have := o.len; simp only at this ⊢; rw [q1]; exact this, by have := o.up; simp only at this ⊢; rw [q2]; exact this, by have := o.top; simp only at this ⊢; rw [q2]; exact this⟩
      cases u with
      | clo f1 t1 bn bat body env =>
        by_cases hb : c2.steps = bud
        · refine ⟨n + 1, (none, { c2 with fin := 2 }), ?_, stop _ rfl rfl⟩
          rw [evalS_call, g n (Nat.le_refl _)]
          simp only [Option.bind_some, applyS]
          rw [if_pos hb]
        · have t1 := o.top
          have u1 := o.up
          simp only at t1 u1
          obtain ⟨n2, a, g2, o2⟩ := IH (k - 1) (by omega) body ((bn, c2.slots.length) :: env) { c2 with slots := c2.slots ++ [some v], steps := c2.steps + 1 } (by simp only; omega) (by simp only; omega) hu.1 hu.2.1 (by
              intro p hp
              simp only [List.length_append, List.length_singleton]
              simp only [List.mem_cons] at hp
              rcases hp with rfl | hp
              · simp
              · exact Nat.lt_succ_of_lt (hu.2.2 p hp)) (by
              intro w hw'
              simp only [List.length_append, List.length_singleton, List.mem_append, List.mem_singleton, Option.some.injEq] at hw' ⊢
              rcases hw' with hw' | rfl
              · exact (o.slots w hw').mono (by simp)
              · exact hw.mono (by simp))
          refine ⟨max n n2 + 1, a, ?_, (o2.trans (st := c2) (by simp) (by simp)).trans o.len o.up⟩
          rw [evalS_call, g _ (by omega)]
          simp only [Option.bind_some, applyS]
          rw [if_neg hb]
          exact evalS_more (by omega) g2
      | num _ => exact ⟨n + 1, (none, c2), by rw [evalS_call, g n (Nat.le_refl _)]; rfl, stop _ rfl rfl⟩
      | truth _ => exact ⟨n + 1, (none, c2), by rw [evalS_call, g n (Nat.le_refl _)]; rfl, stop _ rfl rfl⟩
      | pair _ _ => exact ⟨n + 1, (none, c2), by rw [evalS_call, g n (Nat.le_refl _)]; rfl, stop _ rfl rfl⟩
      | side s =>
        refine ⟨n + 1, (sideS v s, c2), by rw [evalS_call, g n (Nat.le_refl _)]; rfl, ?_⟩
        cases v with
        | pair a b =>
          refine ⟨o.slots, fun w q => ?_, o.len, o.up, o.top⟩
          simp only [sideS, Option.some.injEq] at q
          subst q
          split
          · exact hw.2
          · exact hw.1
        | num _ => exact stop _ rfl rfl
        | truth _ => exact stop _ rfl rfl
        | side _ => exact stop _ rfl rfl
        | clo _ _ _ _ _ _ => exact stop _ rfl rfl
  | cond fr to c x y ihc ihx ihy =>
    intro e st h1 h2 h3 h4 h5 h6
    simp only [T.freeS, Option.or_eq_none_iff] at h3
    obtain ⟨n, ⟨a1, a2⟩, g, o⟩ := ihc e st h1 h2 h3.1.1 h4.1 h5 h6
    have u := o.up
    simp only at u
    cases a1 with
    | none => exact ⟨n + 1, (none, a2), by simp only [evalS]; rw [g]; rfl, o⟩
    | some v =>
      by_cases hv : v = .truth true
      · obtain ⟨n2, b, g2, o2⟩ := ihx e a2 o.top (by omega) h3.1.2 h4.2.1 (h5.mono o.len) o.slots
        refine ⟨max n n2 + 1, b, ?_, o2.trans o.len o.up⟩
        simp only [evalS]
        rw [evalS_more (by omega) g]
        simp only [Option.bind_some]
        rw [if_pos hv]
        exact evalS_more (by omega) g2
      · obtain ⟨n2, b, g2, o2⟩ := ihy e a2 o.top (by omega) h3.2 h4.2.2 (h5.mono o.len) o.slots
        refine ⟨max n n2 + 1, b, ?_, o2.trans o.len o.up⟩
        simp only [evalS]
        rw [evalS_more (by omega) g]
        simp only [Option.bind_some]
        rw [if_neg hv]
        exact evalS_more (by omega) g2
  | lett fr to rc bn bat d b ihd ihb =>
    intro e st h1 h2 h3 h4 h5 h6
    simp only [T.freeS, Option.or_eq_none_iff] at h3
    have hE : ∀ N, st.slots.length < N → OkE N ((bn, st.slots.length) :: e) := fun N hN p hp => by
      simp only [List.mem_cons] at hp
      rcases hp with rfl | hp
      · exact hN
      · have := h5 p hp; omega
    have hS : OkS { st with slots := st.slots ++ [none] } := fun v hv => by
      simp only [List.mem_append, List.mem_singleton, reduceCtorEq, or_false] at hv
      exact (h6 v hv).mono (by simp)
    obtain ⟨n, ⟨a1, a2⟩, g, o⟩ := ihd (if rc then (bn, st.slots.length) :: e else e) { st with slots := st.slots ++ [none] } h1 h2 (by
      cases rc with
      | true => exact h3.1
      | false => exact h3.1) h4.1 (by
      cases rc with
      | true => exact hE _ (by simp)
      | false => exact h5.mono (by simp)) hS
    have u := o.up
    have ln := o.len
    simp only [List.length_append, List.length_singleton] at u ln
    cases a1 with
    | none => exact ⟨n + 1, (none, a2), by simp only [evalS]; rw [g]; rfl, OkOut.trans (st' := { st with slots := st.slots ++ [none] }) (by simp) (Nat.le_refl _) o⟩
    | some x =>
      have hx := o.val x rfl
      obtain ⟨n2, c, g2, o2⟩ := ihb ((bn, st.slots.length) :: e) { a2 with slots := a2.slots.set st.slots.length (some x) } o.top (by simp only; omega) h3.2 h4.2 (hE _ (by simp; omega)) (fun v hv => by
        simp only [List.length_set]
        rcases List.mem_or_eq_of_mem_set hv with hv | hv
        · exact o.slots v hv
        · cases hv; exact hx)
      refine ⟨max n n2 + 1, c, ?_, OkOut.trans (st' := { a2 with slots := a2.slots.set st.slots.length (some x) }) (by simp; omega) u o2⟩
      simp only [evalS]
      rw [evalS_more (by omega) g]
      simp only [Option.bind_some]
      exact evalS_more (by omega) g2

/-- **A run answers.** -/
theorem run_tot {t : T} (hf : t.freeS [] = none) (hi : t.fit) (bud : Nat) : ∃ n r, runS n t bud = some r := by
  obtain ⟨n, ⟨a1, a2⟩, g, _⟩ := run_ans bud bud t [] ⟨[], 0, 0⟩ (Nat.zero_le _) (Nat.sub_le _ _) hf hi (fun p hp => by cases hp) (fun v hv => by cases hv)
  cases a1 with
  | none => exact ⟨n, _, by unfold runS; rw [g]; rfl⟩
  | some v => exact ⟨n, _, by unfold runS; rw [g]; rfl⟩

end Go.Proofs.YtckhafpejefbbaaGreatDoor.Tw

/- What every tree of the parser keeps. -/
namespace Go.Proofs.YtckhafpejefbbaaGreatDoor.Tw
open Go

/-- What is kept by every way in which the parser makes a tree. -/
structure Makes (l : List UInt8) (P : T → Prop) : Prop where
  leaf : ∀ {t : Tok} {x : T}, leafS l t = some x → P x
  none : P (.name 0 0 [])
  bracket : ∀ {f t : Nat} {x : T}, P x → P (.bracket f t x)
  pair : ∀ {f t : Nat} {x y : T}, P x → P y → P (.pair f t x y)
  call : ∀ {f t : Nat} {x y : T}, P x → P y → P (.call f t x y)
  binary : ∀ {f t : Nat} {s : Int} {x y : T}, P x → P y → P (.binary f t s x y)
  cond : ∀ {f t : Nat} {x y z : T}, P x → P y → P z → P (.cond f t x y z)
  fn : ∀ {f t k : Nat} {n : List UInt8} {x : T}, P x → P (.fn f t n k x)
  lett : ∀ {f t k : Nat} {r : Bool} {n : List UInt8} {x y : T}, P x → P y → P (.lett f t r n k x y)

variable {l : List UInt8} {ts : List Tok}

structure PAll (l : List UInt8) (ts : List Tok) (P : T → Prop) (n : Nat) : Prop where
  expr : ∀ {s s' : PS} {r : T}, exprS l ts n s = some (r, s') → P r
  lett : ∀ {s s' : PS} {r : T}, letS l ts n s = some (r, s') → P r
  fn : ∀ {s s' : PS} {r : T}, funS l ts n s = some (r, s') → P r
  cond : ∀ {s s' : PS} {r : T}, condS l ts n s = some (r, s') → P r
  cmp : ∀ {s s' : PS} {r : T}, cmpS l ts n s = some (r, s') → P r
  sum : ∀ {s s' : PS} {r : T}, sumS l ts n s = some (r, s') → P r
  term : ∀ {s s' : PS} {r : T}, termS l ts n s = some (r, s') → P r
  part : ∀ {p : Part} {s s' : PS} {r : T}, partS l ts n p s = some (r, s') → P r
  chain : ∀ {p : Part} {g : List Int} {s s' : PS} {r : T}, chainS l ts n p g s = some (r, s') → P r
  chainFrom : ∀ {p : Part} {g : List Int} {a : T} {s s' : PS} {r : T}, P a → chainFromS l ts n p g a s = some (r, s') → P r
  call : ∀ {s s' : PS} {r : T}, callS l ts n s = some (r, s') → P r
  callFrom : ∀ {a : T} {s s' : PS} {r : T}, P a → callFromS l ts n a s = some (r, s') → P r
  atom : ∀ {s s' : PS} {r : T}, atomS l ts n s = some (r, s') → P r
  bracket : ∀ {s s' : PS} {r : T}, bracketS l ts n s = some (r, s') → P r

theorem inv_all {P : T → Prop} (K : Makes l P) : ∀ n, PAll l ts P n
  | 0 => by constructor <;> (intros; rename_i h; simp [exprS, letS, funS, condS, cmpS, sumS, termS, partS, chainS, chainFromS, callS, callFromS, atomS, bracketS] at h)
  | n + 1 => by
    have ih := inv_all K n
    constructor
    case expr =>
      intro s s' r h
      rw [exprS] at h
      obtain ⟨t, _, h⟩ := Option.bind_eq_some_iff.1 h
      split at h
      · exact ih.lett h
      split at h
      · exact ih.fn h
      split at h
      · exact ih.cond h
      · exact ih.cmp h
    case lett =>
      intro s s' r h
      simp only [letS, Option.bind_eq_some_iff, Option.some.injEq, Prod.mk.injEq, Prod.exists] at h
      obtain ⟨k, t1, h1, rc, t2, h2, bn, bat, t3, h3, c4, t4, h4, d, t5, h5, c6, t6, h6, x, t7, h7, t8, h8, rfl, rfl⟩ := h
      exact K.lett (ih.expr h5) (ih.expr h7)
    case fn =>
      intro s s' r h
      simp only [funS, Option.bind_eq_some_iff, Option.some.injEq, Prod.mk.injEq, Prod.exists] at h
      obtain ⟨k, t1, h1, bn, bat, t3, h3, c4, t4, h4, d, t5, h5, t8, h8, rfl, rfl⟩ := h
      exact K.fn (ih.expr h5)
    case cond =>
      intro s s' r h
      simp only [condS, Option.bind_eq_some_iff, Option.some.injEq, Prod.mk.injEq, Prod.exists] at h
      obtain ⟨k, t1, h1, x, t2, h2, c3, t3, h3, y, t4, h4, c5, t5, h5, z, t6, h6, t8, h8, rfl, rfl⟩ := h
      exact K.cond (ih.expr h2) (ih.expr h4) (ih.expr h6)
    case cmp =>
      intro s s' r h
      simp only [cmpS, Option.bind_eq_some_iff, Prod.exists] at h
      obtain ⟨x, t1, h1, sg, t2, h2, h⟩ := h
      split at h
      · cases h; exact ih.sum h1
      · simp only [Option.bind_eq_some_iff, Option.some.injEq, Prod.mk.injEq, Prod.exists] at h
        obtain ⟨y, t3, h3, rfl, rfl⟩ := h
        exact K.binary (ih.sum h1) (ih.sum h3)
    case sum =>
      intro s s' r h
      rw [sumS] at h
      exact ih.chain h
    case term =>
      intro s s' r h
      rw [termS] at h
      exact ih.chain h
    case part =>
      intro p s s' r h
      cases p with
      | term => rw [partS] at h; exact ih.term h
      | call => rw [partS] at h; exact ih.call h
    case chain =>
      intro p g s s' r h
      simp only [chainS, Option.bind_eq_some_iff, Prod.exists] at h
      obtain ⟨a, t1, h1, h2⟩ := h
      exact ih.chainFrom (ih.part h1) h2
    case chainFrom =>
      intro p g a s s' r ha h
      simp only [chainFromS, Option.bind_eq_some_iff, Prod.exists] at h
      obtain ⟨k, t1, h1, h⟩ := h
      split at h
      · cases h; exact ha
      · simp only [Option.bind_eq_some_iff, Prod.exists] at h
        obtain ⟨c, t2, h2, h3⟩ := h
        exact ih.chainFrom (K.binary ha (ih.part h2)) h3
    case call =>
      intro s s' r h
      simp only [callS, Option.bind_eq_some_iff, Prod.exists] at h
      obtain ⟨a, t1, h1, h2⟩ := h
      exact ih.callFrom (ih.atom h1) h2
    case callFrom =>
      intro a s s' r ha h
      simp only [callFromS, Option.bind_eq_some_iff] at h
      obtain ⟨t, ht, h⟩ := h
      split at h
      · simp only [Option.bind_eq_some_iff, Prod.exists] at h
        obtain ⟨c, t3, h2, h3⟩ := h
        exact ih.callFrom (K.call ha (ih.atom h2)) h3
      · cases h; exact ha
    case atom =>
      intro s s' r h
      simp only [atomS, Option.bind_eq_some_iff] at h
      obtain ⟨t, ht, h⟩ := h
      split at h
      · exact ih.bracket h
      split at h
      · simp only [Option.bind_eq_some_iff, Option.some.injEq, Prod.mk.injEq, Prod.exists] at h
        obtain ⟨c, t3, h2, x, h3, rfl, rfl⟩ := h
        exact K.leaf h3
      · simp only [Option.bind_eq_some_iff, Option.some.injEq, Prod.mk.injEq] at h
        obtain ⟨_, h2, rfl, rfl⟩ := h
        exact K.none
    case bracket =>
      intro s s' r h
      simp only [bracketS, Option.bind_eq_some_iff, Prod.exists] at h
      obtain ⟨k, t1, h1, x, t2, h2, sg, t3, h3, h⟩ := h
      split at h
      · simp only [Option.bind_eq_some_iff, Option.some.injEq, Prod.mk.injEq, Prod.exists] at h
        obtain ⟨y, t4, h4, c5, t5, h5, t6, h6, rfl, rfl⟩ := h
        exact K.pair (ih.expr h2) (ih.expr h4)
      · simp only [Option.bind_eq_some_iff, Option.some.injEq, Prod.mk.injEq, Prod.exists] at h
        obtain ⟨c5, t5, h5, t6, h6, rfl, rfl⟩ := h
        exact K.bracket (ih.expr h2)

theorem parse_inv {P : T → Prop} (K : Makes l P) {n : Nat} {t : T} (h : parseS l ts n = some (.ok t)) : P t := by
  unfold parseS at h
  obtain ⟨⟨x, s⟩, hx, h⟩ := Option.bind_eq_some_iff.1 h
  obtain ⟨r, _, h⟩ := Option.bind_eq_some_iff.1 h
  simp only [Option.some.injEq] at h
  split at h
  · cases h
  · cases h
    exact (inv_all K n).expr hx

theorem parseIntB_range {l : List UInt8} {v : Int} (h : Lib.parseIntB 64 l = .ok v) : -9223372036854775808 ≤ v ∧ v ≤ 9223372036854775807 := by
  unfold Lib.parseIntB at h
  split at h
  · cases h
  · simp only at h
    split at h
    · cases h
    · cases h
    · split at h
      · cases h
      · split at h
        · cases h
        · rename_i h1 h2
          cases h
          split <;> omega

/-- Every number fits. -/
theorem makes_fit (l : List UInt8) : Makes l T.fit where
  leaf := by
    intro t x h
    unfold leafS at h
    split at h
    · split at h
      · obtain ⟨v, hv, h⟩ := Option.bind_eq_some_iff.1 h
        cases h
        unfold valueS at hv
        split at hv
        · rename_i v' hv'
          cases hv
          exact parseIntB_range hv'
        · cases hv
      · cases h
    split at h
    · cases h; exact trivial
    split at h
    · cases h; exact trivial
    split at h
    · cases h; exact trivial
    · cases h
  none := trivial
  bracket := fun h => h
  pair := fun h k => ⟨h, k⟩
  call := fun h k => ⟨h, k⟩
  binary := fun h k => ⟨h, k⟩
  cond := fun h k j => ⟨h, k, j⟩
  fn := fun h => h
  lett := fun h k => ⟨h, k⟩

theorem parse_fit {n : Nat} {t : T} (h : parseS l ts n = some (.ok t)) : t.fit := parse_inv (makes_fit l) h

end Go.Proofs.YtckhafpejefbbaaGreatDoor.Tw

/- A text within a greater one: tokens and trees, read back from a parse that came out fine. -/
namespace Go.Proofs.YtckhafpejefbbaaGreatDoor.Tw
open Go

def shM (d : Nat) : Mv := ⟨fun p => d + p, fun q => d + q, fun _ v => v, fun _ x => x⟩

theorem re_shift (d : Nat) (l : List Tok) : l.map (Tok.re (shM d)) = l.map (Tok.shift d) := by
  refine List.map_congr_left fun t _ => ?_
  simp [Tok.re, Tok.shift, shM, Nat.add_comm]

/-- Where the parser is. -/
structure At (st : PS) (k d : Nat) : Prop where
  go : st.stuck = false
  next : st.next = k
  depth : st.depth = d

section
variable {l : List UInt8} {ts : List Tok} {st st' : PS} {k d : Nat} {u : Tok}

theorem At.tok (A : At st k d) (hu : ts[k]? = some u) : tokS ts st = some u := by
  unfold tokS
  rw [A.go, A.next]
  simpa using hu

theorem At.take (A : At st k d) (hu : ts[k]? = some u) {s : Int} {t : Tok} (h : takeS ts s st = some (t, st')) (hs : st'.stuck = false) (h0 : s ≠ 0) : t = u ∧ At st' (k + 1) d := by
  obtain ⟨h1, h2, rfl, _⟩ := takeS_fine h hs h0
  rw [A.tok hu] at h1
  cases h1
  exact ⟨rfl, hs, by simp [A.next], A.depth⟩

theorem At.begin (A : At st k d) (hu : ts[k]? = some u) {s : Int} {p : Nat} (h : beginS ts s st = some (p, st')) (hs : st'.stuck = false) (h0 : s ≠ 0) : p = u.fr ∧ At st' (k + 1) (d + 1) := by
  have d1 := (begin_deep h hs).1
  unfold beginS at h
  rw [if_neg d1, Option.bind_some] at h
  split at h
  · obtain ⟨⟨t1, s3⟩, h2, h⟩ := Option.bind_eq_some_iff.1 h
    cases h
    have A1 : At { st with depth := st.depth + 1 } k (d + 1) := ⟨A.go, A.next, by simp [A.depth]⟩
    obtain ⟨rfl, A2⟩ := A1.take hu h2 hs h0
    exact ⟨rfl, A2⟩
  · cases h

theorem At.no (A : At st k d) (hu : ts[k]? = some u) {x c : Int} (h : takeAnyS ts [x] st = some (c, st')) (hx : u.sort ≠ x) : c = 0 ∧ At st' k d := by
  rw [takeAnyS, A.tok hu, Option.bind_some, if_neg hx, takeAnyS] at h
  cases h
  exact ⟨rfl, A⟩

theorem At.yes (A : At st k d) (hu : ts[k]? = some u) {x c : Int} (h : takeAnyS ts [x] st = some (c, st')) (hs : st'.stuck = false) (hx : u.sort = x) (h0 : x ≠ 0) : c = x ∧ At st' (k + 1) d := by
  rw [takeAnyS, A.tok hu, Option.bind_some, if_pos hx] at h
  obtain ⟨⟨t1, s3⟩, h2, h⟩ := Option.bind_eq_some_iff.1 h
  cases h
  obtain ⟨rfl, A2⟩ := A.take hu h2 hs h0
  exact ⟨hx, A2⟩

theorem At.binder (A : At st k d) (hu : ts[k]? = some u) {x : List UInt8} {p : Nat} (h : binderS l ts st = some ((x, p), st')) (hs : st'.stuck = false) : x = piece l u.fr u.to ∧ p = u.fr ∧ At st' (k + 1) d := by
  unfold binderS at h
  obtain ⟨⟨t, s3⟩, h1, h⟩ := Option.bind_eq_some_iff.1 h
  split at h
  · cases h
    obtain ⟨rfl, A2⟩ := A.take hu h1 hs (by decide)
    exact ⟨rfl, rfl, A2⟩
  · cases h

theorem At.end (A : At st k (d + 1)) (h : endS st = some st') : At st' k d := by
  unfold endS at h
  rw [if_neg (by rw [A.depth]; omega)] at h
  cases h
  exact ⟨A.go, A.next, by simp [A.depth]⟩

theorem end_go (h : endS st = some st') (hs : st'.stuck = false) : st.stuck = false := by rw [← (endS_mild h).1]; exact hs

theorem At.leaf (A : At st k d) (hu : ts[k]? = some u) {n : Nat} {a : T} (h : atomS l ts n st = some (a, st')) (hs : st'.stuck = false) (h16 : u.sort ≠ 16) (hb : beginsAtom u.sort = true) (h0 : u.sort ≠ 0) : leafS l u = some a ∧ At st' (k + 1) d := by
  cases n with
  | zero => simp [atomS] at h
  | succ n =>
    rw [atomS, A.tok hu, Option.bind_some, if_neg h16, if_pos hb] at h
    simp only [Option.bind_eq_some_iff, Option.some.injEq, Prod.mk.injEq, Prod.exists] at h
    obtain ⟨c, t3, h2, x, h3, rfl, rfl⟩ := h
    exact ⟨h3, (A.take hu h2 hs h0).2⟩

theorem At.bracket (A : At st k d) (hu : ts[k]? = some u) {n : Nat} {a : T} (h : atomS l ts n st = some (a, st')) (h16 : u.sort = 16) : ∃ n', bracketS l ts n' st = some (a, st') := by
  cases n with
  | zero => simp [atomS] at h
  | succ n =>
    rw [atomS, A.tok hu, Option.bind_some, if_pos h16] at h
    exact ⟨n, h⟩

/-- No sign, no atom: the tree is as it is. -/
theorem chain_stop {n : Nat} {p : Part} {g : List Int} {a r : T} (hu : tokS ts st = some u) (hg : ∀ x ∈ g, stopSort x = false) (hst : stopSort u.sort = true) (h : chainFromS l ts n p g a st = some (r, st')) : r = a ∧ st' = st := by
  cases n with
  | zero => simp [chainFromS] at h
  | succ n =>
    rw [chainFromS] at h
    have : takeAnyS ts g st = some (0, st) := by
      clear h
      induction g with
      | nil => rfl
      | cons x g ih =>
        rw [takeAnyS, hu, Option.bind_some, if_neg (fun e => by have := hg x (by simp); rw [← e, hst] at this; cases this)]
        exact ih fun y hy => hg y (by simp [hy])
    rw [this] at h
    simp only [Option.bind_some, if_true, Option.some.injEq, Prod.mk.injEq] at h
    exact ⟨h.1.symm, h.2.symm⟩

theorem callFrom_stop {n : Nat} {a r : T} (hu : tokS ts st = some u) (hst : stopSort u.sort = true) (h : callFromS l ts n a st = some (r, st')) : r = a ∧ st' = st := by
  cases n with
  | zero => simp [callFromS] at h
  | succ n =>
    have q : ¬ beginsAtom u.sort = true := by
      simp [stopSort] at hst
      simp [beginsAtom]
      omega
    rw [callFromS, hu, Option.bind_some, if_neg q] at h
    cases h
    exact ⟨rfl, rfl⟩

/-- An expr that begins with an atom: it, or a call. -/
theorem expr_atoms {n : Nat} {y : T} (hu : tokS ts st = some u) (h3 : u.sort ≠ 3) (h6 : u.sort ≠ 6) (h7 : u.sort ≠ 7) (h : exprS l ts n st = some (y, st')) (hs : st'.stuck = false) :
    ∃ n1 a s1, atomS l ts n1 st = some (a, s1) ∧ s1.stuck = false ∧ ∀ v, tokS ts s1 = some v → (stopSort v.sort = true → y = a ∧ st' = s1) ∧
      (beginsAtom v.sort = true → ∃ n2 b s2, atomS l ts n2 s1 = some (b, s2) ∧ s2.stuck = false ∧ ∀ v2, tokS ts s2 = some v2 → stopSort v2.sort = true → y = .call a.fr b.to a b ∧ st' = s2) := by
  cases n with
  | zero => simp [exprS] at h
  | succ n =>
  rw [exprS, hu, Option.bind_some, if_neg h3, if_neg h6, if_neg h7] at h
  cases n with
  | zero => simp [cmpS] at h
  | succ n =>
  rw [cmpS] at h
  simp only [Option.bind_eq_some_iff, Prod.exists] at h
  obtain ⟨x1, t1, q1, sg, t2, q2, h⟩ := h
  have g2 : t2.stuck = false := by
    split at h
    · cases h; exact hs
    · simp only [Option.bind_eq_some_iff, Option.some.injEq, Prod.mk.injEq, Prod.exists] at h
      obtain ⟨y, t3, h3, rfl, rfl⟩ := h
      exact ((mild_all l ts n).sum h3).1 hs
  have g1 := (takeAnyS_mild q2).1 g2
  cases n with
  | zero => simp [sumS] at q1
  | succ n =>
  rw [sumS] at q1
  cases n with
  | zero => simp [chainS] at q1
  | succ n =>
  rw [chainS] at q1
  simp only [Option.bind_eq_some_iff, Prod.exists] at q1
  obtain ⟨x3, t3, q3, q4⟩ := q1
  have g3 := ((mild_all l ts n).chainFrom q4).1 g1
  cases n with
  | zero => simp [partS] at q3
  | succ n =>
  rw [partS] at q3
  cases n with
  | zero => simp [termS] at q3
  | succ n =>
  rw [termS] at q3
  cases n with
  | zero => simp [chainS] at q3
  | succ n =>
  rw [chainS] at q3
  simp only [Option.bind_eq_some_iff, Prod.exists] at q3
  obtain ⟨x5, t5, q5, q6⟩ := q3
  have g5 := ((mild_all l ts n).chainFrom q6).1 g3
  cases n with
  | zero => simp [partS] at q5
  | succ n =>
  rw [partS] at q5
  cases n with
  | zero => simp [callS] at q5
  | succ n =>
  rw [callS] at q5
  simp only [Option.bind_eq_some_iff, Prod.exists] at q5
  obtain ⟨a, s1, q7, q8⟩ := q5
  have g7 := ((mild_all l ts n).callFrom q8).1 g5
  -- from the call's end on
  have fin : ∀ {v : Tok}, tokS ts t5 = some v → stopSort v.sort = true → y = x5 ∧ st' = t5 := by
    intro v hv hst
    obtain ⟨rfl, rfl⟩ := chain_stop hv (by decide) hst q6
    obtain ⟨rfl, rfl⟩ := chain_stop hv (by decide) hst q4
    have : takeAnyS ts [23, 15] t1 = some (0, t1) := by
      rw [takeAnyS, hv, Option.bind_some, if_neg (fun e => by rw [e] at hst; simp [stopSort] at hst), takeAnyS, hv, Option.bind_some, if_neg (fun e => by rw [e] at hst; simp [stopSort] at hst), takeAnyS]
    rw [this] at q2
    cases q2
    rw [if_pos rfl] at h
    cases h
    exact ⟨rfl, rfl⟩
  refine ⟨n, a, s1, q7, g7, fun v hv => ⟨fun hst => ?_, fun hb => ?_⟩⟩
  · obtain ⟨rfl, rfl⟩ := callFrom_stop hv hst q8
    exact fin hv hst
  · cases n with
    | zero => simp [callFromS] at q8
    | succ n =>
      rw [callFromS, hv, Option.bind_some, if_pos hb] at q8
      simp only [Option.bind_eq_some_iff, Prod.exists] at q8
      obtain ⟨b, s2, q9, q10⟩ := q8
      refine ⟨n, b, s2, q9, ((mild_all l ts n).callFrom q10).1 g5, fun v2 hv2 hst => ?_⟩
      obtain ⟨rfl, rfl⟩ := callFrom_stop hv2 hst q10
      exact fin hv2 hst

/-- Brackets, read back. -/
theorem bracket_back {n : Nat} {a : T} (A : At st k d) (hu : ts[k]? = some u) (h : bracketS l ts n st = some (a, st')) (hs : st'.stuck = false) :
    ∃ s1 x s2, At s1 (k + 1) (d + 1) ∧ (∃ n', exprS l ts n' s1 = some (x, s2)) ∧ s2.stuck = false ∧ ∀ k2 v, At s2 k2 (d + 1) → ts[k2]? = some v → (v.sort ≠ 18 → (∃ f t, a = .bracket f t x) ∧ At st' (k2 + 1) d) ∧
      (v.sort = 18 → ∃ s3 y s4, At s3 (k2 + 1) (d + 1) ∧ (∃ n', exprS l ts n' s3 = some (y, s4)) ∧ s4.stuck = false ∧ ∀ k4 v4, At s4 k4 (d + 1) → ts[k4]? = some v4 → (∃ f t, a = .pair f t x y) ∧ At st' (k4 + 1) d) := by
  cases n with
  | zero => simp [bracketS] at h
  | succ n =>
  have M := mild_all l ts n
  simp only [bracketS, Option.bind_eq_some_iff, Prod.exists] at h
  obtain ⟨p, t1, h1, x, t2, h2, sg, t3, h3, h⟩ := h
  have a3 : t3.stuck = false := by
    split at h
    · simp only [Option.bind_eq_some_iff, Option.some.injEq, Prod.mk.injEq, Prod.exists] at h
      obtain ⟨y, t4, h4, c5, t5, h5, t6, h6, rfl, rfl⟩ := h
      exact (M.expr h4).1 ((takeS_mild h5).1 (end_go h6 hs))
    · simp only [Option.bind_eq_some_iff, Option.some.injEq, Prod.mk.injEq, Prod.exists] at h
      obtain ⟨c5, t5, h5, t6, h6, rfl, rfl⟩ := h
      exact (takeS_mild h5).1 (end_go h6 hs)
  have a2 := (takeAnyS_mild h3).1 a3
  have a1 := (M.expr h2).1 a2
  obtain ⟨_, A1⟩ := A.begin hu h1 a1 (by decide)
  refine ⟨t1, x, t2, A1, ⟨n, h2⟩, a2, fun k2 v A2 hv => ⟨fun hne => ?_, fun he => ?_⟩⟩
  · obtain ⟨rfl, A3⟩ := A2.no hv h3 hne
    rw [if_neg (by decide)] at h
    simp only [Option.bind_eq_some_iff, Option.some.injEq, Prod.mk.injEq, Prod.exists] at h
    obtain ⟨c5, t5, h5, t6, h6, rfl, rfl⟩ := h
    obtain ⟨_, A5⟩ := A3.take hv h5 (end_go h6 hs) (by decide)
    exact ⟨⟨_, _, rfl⟩, A5.end h6⟩
  · obtain ⟨rfl, A3⟩ := A2.yes hv h3 a3 he (by decide)
    rw [if_pos rfl] at h
    simp only [Option.bind_eq_some_iff, Option.some.injEq, Prod.mk.injEq, Prod.exists] at h
    obtain ⟨y, t4, h4, c5, t5, h5, t6, h6, rfl, rfl⟩ := h
    refine ⟨t3, y, t4, A3, ⟨n, h4⟩, (takeS_mild h5).1 (end_go h6 hs), fun k4 v4 A4 hv4 => ?_⟩
    obtain ⟨_, A5⟩ := A4.take hv4 h5 (end_go h6 hs) (by decide)
    exact ⟨⟨_, _, rfl⟩, A5.end h6⟩

theorem let_back {y : T} {n : Nat} (A : At st k d) (hu : ts[k]? = some u) (h3 : u.sort = 3) {v w : Tok} (hv : ts[k + 1]? = some v) (hv1 : v.sort ≠ 4) (hw : ts[k + 2]? = some w) (h : exprS l ts n st = some (y, st')) (hs : st'.stuck = false) :
    ∃ s1 x s2, At s1 (k + 3) (d + 1) ∧ (∃ n', exprS l ts n' s1 = some (x, s2)) ∧ s2.stuck = false ∧ ∀ k2 v2, At s2 k2 (d + 1) → ts[k2]? = some v2 →
      ∃ s3 z s4, At s3 (k2 + 1) (d + 1) ∧ (∃ n', exprS l ts n' s3 = some (z, s4)) ∧ s4.stuck = false ∧ (∃ f t b, y = .lett f t false (piece l v.fr v.to) b x z) ∧ ∀ k4, At s4 k4 (d + 1) → At st' k4 d := by
  cases n with
  | zero => simp [exprS] at h
  | succ n =>
  rw [exprS, A.tok hu, Option.bind_some, if_pos h3] at h
  cases n with
  | zero => simp [letS] at h
  | succ n =>
  have M := mild_all l ts n
  simp only [letS, Option.bind_eq_some_iff, Option.some.injEq, Prod.mk.injEq, Prod.exists] at h
  obtain ⟨p, t1, h1, rc, t2, h2, bn, bat, t3, h3', c4, t4, h4, x, t5, h5, c6, t6, h6, z, t7, h7, t8, h8, rfl, rfl⟩ := h
  have a7 := end_go h8 hs
  have a6 := (M.expr h7).1 a7
  have a5 := (takeS_mild h6).1 a6
  have a4 := (M.expr h5).1 a5
  have a3 := (takeS_mild h4).1 a4
  have a2 := (binderS_mild h3').1 a3
  have a1 := (takeAnyS_mild h2).1 a2
  obtain ⟨_, A1⟩ := A.begin hu h1 a1 (by decide)
  obtain ⟨rfl, A2⟩ := A1.no hv h2 hv1
  obtain ⟨rfl, _, A3⟩ := A2.binder hv h3' a3
  obtain ⟨_, A4⟩ := A3.take hw h4 a4 (by decide)
  refine ⟨t4, x, t5, A4, ⟨n, h5⟩, a5, fun k2 v2 A5 hv2 => ?_⟩
  obtain ⟨_, A6⟩ := A5.take hv2 h6 a6 (by decide)
  exact ⟨t6, z, t7, A6, ⟨n, h7⟩, a7, ⟨_, _, _, rfl⟩, fun k4 A7 => A7.end h8⟩

theorem fun_back {y : T} {n : Nat} (A : At st k d) (hu : ts[k]? = some u) (h6 : u.sort = 6) {v w : Tok} (hv : ts[k + 1]? = some v) (hw : ts[k + 2]? = some w) (h : exprS l ts n st = some (y, st')) (hs : st'.stuck = false) :
    ∃ s1 x s2, At s1 (k + 3) (d + 1) ∧ (∃ n', exprS l ts n' s1 = some (x, s2)) ∧ s2.stuck = false ∧ (∃ f t b, y = .fn f t (piece l v.fr v.to) b x) ∧ ∀ k2, At s2 k2 (d + 1) → At st' k2 d := by
  cases n with
  | zero => simp [exprS] at h
  | succ n =>
  rw [exprS, A.tok hu, Option.bind_some, if_neg (by rw [h6]; decide), if_pos h6] at h
  cases n with
  | zero => simp [funS] at h
  | succ n =>
  have M := mild_all l ts n
  simp only [funS, Option.bind_eq_some_iff, Option.some.injEq, Prod.mk.injEq, Prod.exists] at h
  obtain ⟨p, t1, h1, bn, bat, t3, h3, c4, t4, h4, x, t5, h5, t8, h8, rfl, rfl⟩ := h
  have a5 := end_go h8 hs
  have a4 := (M.expr h5).1 a5
  have a3 := (takeS_mild h4).1 a4
  have a1 := (binderS_mild h3).1 a3
  obtain ⟨_, A1⟩ := A.begin hu h1 a1 (by decide)
  obtain ⟨rfl, _, A3⟩ := A1.binder hv h3 a3
  obtain ⟨_, A4⟩ := A3.take hw h4 a4 (by decide)
  exact ⟨t4, x, t5, A4, ⟨n, h5⟩, a5, ⟨_, _, _, rfl⟩, fun k2 A5 => A5.end h8⟩

theorem cond_back {y : T} {n : Nat} (A : At st k d) (hu : ts[k]? = some u) (h7 : u.sort = 7) (h : exprS l ts n st = some (y, st')) (hs : st'.stuck = false) :
    ∃ s1 x s2, At s1 (k + 1) (d + 1) ∧ (∃ n', exprS l ts n' s1 = some (x, s2)) ∧ s2.stuck = false ∧ ∀ k2 v2, At s2 k2 (d + 1) → ts[k2]? = some v2 →
      ∃ s3 z s4, At s3 (k2 + 1) (d + 1) ∧ (∃ n', exprS l ts n' s3 = some (z, s4)) ∧ s4.stuck = false ∧ ∀ k4 v4, At s4 k4 (d + 1) → ts[k4]? = some v4 →
      ∃ s5 e s6, At s5 (k4 + 1) (d + 1) ∧ (∃ n', exprS l ts n' s5 = some (e, s6)) ∧ s6.stuck = false ∧ (∃ f t, y = .cond f t x z e) ∧ ∀ k6, At s6 k6 (d + 1) → At st' k6 d := by
  cases n with
  | zero => simp [exprS] at h
  | succ n =>
  rw [exprS, A.tok hu, Option.bind_some, if_neg (by rw [h7]; decide), if_neg (by rw [h7]; decide), if_pos h7] at h
  cases n with
  | zero => simp [condS] at h
  | succ n =>
  have M := mild_all l ts n
  simp only [condS, Option.bind_eq_some_iff, Option.some.injEq, Prod.mk.injEq, Prod.exists] at h
  obtain ⟨p, t1, h1, x, t2, h2, c3, t3, h3, z, t4, h4, c5, t5, h5, e, t6, h6, t8, h8, rfl, rfl⟩ := h
  have a6 := end_go h8 hs
  have a5 := (M.expr h6).1 a6
  have a4 := (takeS_mild h5).1 a5
  have a3 := (M.expr h4).1 a4
  have a2 := (takeS_mild h3).1 a3
  have a1 := (M.expr h2).1 a2
  obtain ⟨_, A1⟩ := A.begin hu h1 a1 (by decide)
  refine ⟨t1, x, t2, A1, ⟨n, h2⟩, a2, fun k2 v2 A2 hv2 => ?_⟩
  obtain ⟨_, A3⟩ := A2.take hv2 h3 a3 (by decide)
  refine ⟨t3, z, t4, A3, ⟨n, h4⟩, a4, fun k4 v4 A4 hv4 => ?_⟩
  obtain ⟨_, A5⟩ := A4.take hv4 h5 a5 (by decide)
  exact ⟨t5, e, t6, A5, ⟨n, h6⟩, a6, ⟨_, _, rfl⟩, fun k6 A6 => A6.end h8⟩

/-- An expr that is one token. -/
theorem leaf_back {y : T} {n : Nat} (A : At st k d) (hu : ts[k]? = some u) (hb : beginsAtom u.sort = true) (h16 : u.sort ≠ 16) {v : Tok} (hv : ts[k + 1]? = some v) (hst : stopSort v.sort = true) (h : exprS l ts n st = some (y, st')) (hs : st'.stuck = false) : leafS l u = some y ∧ At st' (k + 1) d := by
  have hb' := hb
  simp only [beginsAtom, decide_eq_true_eq] at hb'
  obtain ⟨n1, a, s1, q1, g1, q2⟩ := expr_atoms (A.tok hu) (by omega) (by omega) (by omega) h hs
  obtain ⟨q3, A1⟩ := A.leaf hu q1 g1 h16 hb (by omega)
  obtain ⟨rfl, rfl⟩ := (q2 v (A1.tok hv)).1 hst
  exact ⟨q3, A1⟩

end

/-- A fine parse: its expr ends at the last token. -/
theorem parse_fine {l : List UInt8} {body : List Tok} {e1 : Tok} (hb : ∀ t ∈ body, t.sort ≠ 0) {n : Nat} {t : T} (h : parseS l (body ++ [e1]) n = some (.ok t)) : ∃ s, exprS l (body ++ [e1]) n ⟨0, 0, false, 0⟩ = some (t, s) ∧ s.stuck = false ∧ (s.next ≤ body.length → s.next = body.length) := by
  unfold parseS at h
  obtain ⟨⟨x, s1⟩, hx, h⟩ := Option.bind_eq_some_iff.1 h
  obtain ⟨⟨k, s2⟩, hk, h⟩ := Option.bind_eq_some_iff.1 h
  simp only [Option.some.injEq] at h hk
  have hs2 : s2.stuck = false := by
    cases hq : s2.stuck
    · rfl
    · rw [hq] at h; simp at h
  rw [hs2] at h
  simp only [Bool.false_eq_true, if_false, Except.ok.injEq] at h
  subst h
  have hs1 := (takeS_mild hk).1 hs2
  refine ⟨s1, hx, hs1, fun hle => ?_⟩
  rcases Nat.lt_or_ge s1.next body.length with hlt | hge
  · exfalso
    have ht : tokS (body ++ [e1]) s1 = some body[s1.next] := by
      unfold tokS
      rw [hs1]
      simp [List.getElem?_append_left hlt, List.getElem?_eq_getElem hlt]
    unfold takeS at hk
    rw [ht, Option.bind_some, if_neg (hb _ (List.getElem_mem hlt))] at hk
    obtain ⟨s9, q9, hk⟩ := Option.bind_eq_some_iff.1 hk
    cases hk
    rw [(failS_stuck q9).1] at hs2
    cases hs2
  · omega

/-- **A text within a greater one is read as it is alone.** -/
theorem inner {x y z : List UInt8} {body : List Tok} {fp : Nat} {t : T} (hL : Lex 0 y body) (hp : parseS y (body ++ [⟨0, y.length, y.length⟩]) fp = some (.ok t)) {e2 : Tok} (h2 : stopSort e2.sort = true) {pre post ts : List Tok} (hts : ts = pre ++ (body.map (Tok.re (shM x.length)) ++ e2 :: post)) (hf : body.length + pre.length ≤ 300)
    {n : Nat} {st st' : PS} {r : T} {dd : Nat} (A : At st pre.length dd) (h : exprS (x ++ (y ++ z)) ts n st = some (r, st')) (hs : st'.stuck = false) : r = t.re (shM x.length) ∧ At st' (pre.length + body.length) dd := by
  subst hts
  have hg := hL.toks
  have E : Emb y (x ++ (y ++ z)) (body ++ [⟨0, y.length, y.length⟩]) (pre ++ (body.map (Tok.re (shM x.length)) ++ e2 :: post)) pre.length (shM x.length) body.length := by
    refine Emb.of_map (fun t ht => ?_) rfl h2 pre post hf
    have k := hg.1 t ht
    have h1 := k.high
    have h2 := k.lt
    simp only [Nat.zero_add] at h1
    have e : piece (x ++ (y ++ z)) ((shM x.length).fr t.fr) ((shM x.length).to t.to) = piece y t.fr t.to := piece_mid x y z h1
    exact ⟨k.sort, ⟨by simp only [shM]; omega, by simp only [shM, List.length_append]; omega⟩, fun _ v hv => by rw [e]; exact hv, fun _ => e⟩
  obtain ⟨s1, hx, hs1, hN⟩ := parse_fine (fun t ht => (hg.1 t ht).sort) hp
  have S0 : Sim pre.length dd body.length ⟨0, 0, false, 0⟩ st := ⟨rfl, A.go, by rw [A.next]; simp, by rw [A.depth]; simp, Nat.zero_le _⟩
  obtain ⟨e, S⟩ := (two_all E fp).expr S0 hx hs1 h hs
  have hd := ((mild_all y (body ++ [⟨0, y.length, y.length⟩]) fp).expr hx).2
  refine ⟨e, S.k2, ?_, ?_⟩
  · rw [S.nx, hN S.le, Nat.add_comm]
  · rw [S.dp, hd]
    simp

end Go.Proofs.YtckhafpejefbbaaGreatDoor.Tw

/- General's four texts: their tokens and their trees. -/
namespace Go.Proofs.YtckhafpejefbbaaGreatDoor.Tw
open Go

def zz9 : List UInt8 := [122, 122, 57]

def gPre : Nat → List UInt8
  | 0 => [108, 101, 116, 32, 122, 122, 57, 32, 61, 32]
  | 1 => [102, 115, 116, 32, 40, 40]
  | 2 => [105, 102, 32, 116, 114, 117, 101, 32, 116, 104, 101, 110, 32]
  | _ => [115, 110, 100, 32, 40, 49, 44, 32, 40, 102, 117, 110, 32, 122, 122, 57, 32, 45, 62, 32, 122, 122, 57, 41, 32, 40]

def gPost : Nat → List UInt8 → List UInt8
  | 0, _ => [32, 105, 110, 32, 122, 122, 57]
  | 1, _ => [41, 44, 32, 49, 41]
  | 2, s => [32, 101, 108, 115, 101, 32, 40] ++ (s ++ [41])
  | _, _ => [41, 41]

def gText (i : Nat) (s : List UInt8) : List UInt8 := gPre i ++ (s ++ gPost i s)

theorem Lex.sp {off : Nat} {X : List UInt8} {ts : List Tok} (h : Lex (off + 1) X ts) : Lex off (32 :: X) ts := .gap (by simp) (by simp [gapL, headI]) (by
  have : gapL (32 :: X) = 1 := by simp [gapL, headI]
  rw [this]
  exact h)

theorem Lex.br {off : Nat} {X : List UInt8} {ts : List Tok} (h : Lex (off + 1) X ts) : Lex off (40 :: X) (⟨16, off, off + 1⟩ :: ts) := by
  have e : firstL (40 :: X) = (16, 1) := by
    unfold firstL
    have hh : headI (40 :: X) = 40 := rfl
    rw [hh, if_neg (by decide), if_neg (by decide), if_neg (by cases X <;> simp)]
    decide
  have := Lex.tok (off := off) (m := 40 :: X) (ts := ts) (by simp) (by simp [gapL, headI]) (by rw [e]; decide) (by rw [e]; exact h)
  rw [e] at this
  exact this

theorem lex_of {l : List UInt8} {ts : List Tok} (h : split l = .ok (ts ++ [⟨0, l.length, l.length⟩])) : Lex 0 l ts := by
  obtain ⟨b2, hL2, hb2⟩ := split_ok_iff.1 h
  have : ts = b2 := List.append_inj_left hb2 (by simpa using congrArg List.length hb2)
  rw [this]
  exact hL2

def gPreT : Nat → List Tok
  | 0 => [⟨3, 0, 3⟩, ⟨1, 4, 7⟩, ⟨15, 8, 9⟩]
  | 1 => [⟨12, 0, 3⟩, ⟨16, 4, 5⟩, ⟨16, 5, 6⟩]
  | 2 => [⟨7, 0, 2⟩, ⟨10, 3, 7⟩, ⟨8, 8, 12⟩]
  | _ => [⟨13, 0, 3⟩, ⟨16, 4, 5⟩, ⟨2, 5, 6⟩, ⟨18, 6, 7⟩, ⟨16, 8, 9⟩, ⟨6, 9, 12⟩, ⟨1, 13, 16⟩, ⟨14, 17, 19⟩, ⟨1, 20, 23⟩, ⟨17, 23, 24⟩, ⟨16, 25, 26⟩]

theorem sep32 (X : List UInt8) : sepH (32 :: X) := ⟨by decide, by decide⟩
theorem sep41 (X : List UInt8) : sepH (41 :: X) := ⟨by decide, by decide⟩

theorem mid_get {α : Type} (pre mid post : List α) (j : Nat) {k : Nat} (hk : k = pre.length + mid.length + j) : (pre ++ (mid ++ post))[k]? = post[j]? := by
  subst hk
  rw [List.getElem?_append_right (by omega), List.getElem?_append_right (by omega)]
  congr 1
  omega

section
variable {s : List UInt8} {body : List Tok} {fp : Nat} {t : T} (hL : Lex 0 s body) (hp : parseS s (body ++ [⟨0, s.length, s.length⟩]) fp = some (.ok t)) (hl : s.length ≤ 100)
include hL

theorem gLex0 : Lex 0 (gText 0 s) (gPreT 0 ++ (body.map (Tok.re (shM 10)) ++ [⟨5, 1, 3⟩, ⟨1, 4, 7⟩].map (Tok.shift (10 + s.length)))) := by
  have hA : Lex 0 [108, 101, 116, 32, 122, 122, 57, 32, 61] (gPreT 0) := lex_of (by kernel_rfl)
  have hB : Lex 0 [32, 105, 110, 32, 122, 122, 57] [⟨5, 1, 3⟩, ⟨1, 4, 7⟩] := lex_of (by kernel_rfl)
  have h2 := (hL.shift 10).append (r := [32, 105, 110, 32, 122, 122, 57]) (sep32 _) (by simpa using hB.shift (10 + s.length))
  rw [re_shift]
  exact hA.append (sep32 _) (Lex.sp (by simpa [gPost] using h2))

theorem gLex1 : Lex 0 (gText 1 s) (gPreT 1 ++ (body.map (Tok.re (shM 6)) ++ [⟨17, 0, 1⟩, ⟨18, 1, 2⟩, ⟨2, 3, 4⟩, ⟨17, 4, 5⟩].map (Tok.shift (6 + s.length)))) := by
  have hA : Lex 0 [102, 115, 116] [⟨12, 0, 3⟩] := lex_of (by kernel_rfl)
  have hB : Lex 0 [41, 44, 32, 49, 41] [⟨17, 0, 1⟩, ⟨18, 1, 2⟩, ⟨2, 3, 4⟩, ⟨17, 4, 5⟩] := lex_of (by kernel_rfl)
  have h2 := (hL.shift 6).append (r := [41, 44, 32, 49, 41]) (sep41 _) (by simpa using hB.shift (6 + s.length))
  rw [re_shift]
  exact hA.append (sep32 _) (Lex.sp (Lex.br (Lex.br (by simpa [gPost] using h2))))

theorem gLex2 : Lex 0 (gText 2 s) (gPreT 2 ++ (body.map (Tok.re (shM 13)) ++ ([⟨9, 13 + s.length + 1, 13 + s.length + 5⟩, ⟨16, 13 + s.length + 6, 13 + s.length + 7⟩] ++ (body.map (Tok.re (shM (20 + s.length))) ++ [⟨17, 20 + s.length + s.length, 20 + s.length + s.length + 1⟩])))) := by
  have hA : Lex 0 [105, 102, 32, 116, 114, 117, 101, 32, 116, 104, 101, 110] (gPreT 2) := lex_of (by kernel_rfl)
  have hB : Lex 0 [32, 101, 108, 115, 101] [⟨9, 1, 5⟩] := lex_of (by kernel_rfl)
  have hC : Lex 0 [41] [⟨17, 0, 1⟩] := lex_of (by kernel_rfl)
  have h3 := (hL.shift (20 + s.length)).append (r := [41]) (sep41 _) (by simpa using hC.shift (20 + s.length + s.length))
  have h4 := (hB.shift (13 + s.length)).append (r := 32 :: 40 :: (s ++ [41])) (sep32 _) (Lex.sp (Lex.br (by
    rw [show 0 + (13 + s.length) + ([32, 101, 108, 115, 101] : List UInt8).length + 1 + 1 = 0 + (20 + s.length) from by simp; omega]
    exact h3)))
  have h2 := (hL.shift 13).append (r := [32, 101, 108, 115, 101, 32, 40] ++ (s ++ [41])) (sep32 _) (by
    rw [show 0 + 13 + s.length = 0 + (13 + s.length) from by omega]
    exact h4)
  have h1 := hA.append (sep32 _) (Lex.sp (by simpa using h2))
  rw [re_shift, re_shift]
  have e : gText 2 s = [105, 102, 32, 116, 114, 117, 101, 32, 116, 104, 101, 110] ++ 32 :: (s ++ ([32, 101, 108, 115, 101, 32, 40] ++ (s ++ [41]))) := rfl
  rw [e]
  simpa [Tok.shift, Nat.add_comm, Nat.add_left_comm, Nat.add_assoc] using h1

theorem gLex3 : Lex 0 (gText 3 s) (gPreT 3 ++ (body.map (Tok.re (shM 26)) ++ [⟨17, 0, 1⟩, ⟨17, 1, 2⟩].map (Tok.shift (26 + s.length)))) := by
  have hA : Lex 0 [115, 110, 100, 32, 40, 49, 44, 32, 40, 102, 117, 110, 32, 122, 122, 57, 32, 45, 62, 32, 122, 122, 57, 41] [⟨13, 0, 3⟩, ⟨16, 4, 5⟩, ⟨2, 5, 6⟩, ⟨18, 6, 7⟩, ⟨16, 8, 9⟩, ⟨6, 9, 12⟩, ⟨1, 13, 16⟩, ⟨14, 17, 19⟩, ⟨1, 20, 23⟩, ⟨17, 23, 24⟩] := lex_of (by kernel_rfl)
  have hB : Lex 0 [41, 41] [⟨17, 0, 1⟩, ⟨17, 1, 2⟩] := lex_of (by kernel_rfl)
  have h2 := (hL.shift 26).append (r := [41, 41]) (sep41 _) (by simpa using hB.shift (26 + s.length))
  rw [re_shift]
  exact hA.append (sep32 _) (Lex.sp (Lex.br (by simpa [gPost] using h2)))

include hp hl

theorem gTree0 {n : Nat} {t' : T} (h : parseS (gText 0 s) (gPreT 0 ++ (body.map (Tok.re (shM 10)) ++ [⟨5, 1, 3⟩, ⟨1, 4, 7⟩].map (Tok.shift (10 + s.length))) ++ [⟨0, (gText 0 s).length, (gText 0 s).length⟩]) n = some (.ok t')) :
    ∃ f t0 b f1 t1, t' = .lett f t0 false zz9 b (t.re (shM 10)) (.name f1 t1 zz9) := by
  have hlen := hL.toks.2
  have hg := (gLex0 hL).toks
  obtain ⟨st', hx, hs, _⟩ := parse_fine (fun t ht => (hg.1 t ht).sort) h
  clear h
  generalize hts : gPreT 0 ++ (body.map (Tok.re (shM 10)) ++ [⟨5, 1, 3⟩, ⟨1, 4, 7⟩].map (Tok.shift (10 + s.length))) ++ [⟨0, (gText 0 s).length, (gText 0 s).length⟩] = ts at hx
  have hts' : ts = gPreT 0 ++ (body.map (Tok.re (shM 10)) ++ (⟨5, 1 + (10 + s.length), 3 + (10 + s.length)⟩ :: [⟨1, 4 + (10 + s.length), 7 + (10 + s.length)⟩, ⟨0, (gText 0 s).length, (gText 0 s).length⟩])) := by
    rw [← hts]
    simp [Tok.shift]
  have g : ∀ j {k : Nat}, k = 3 + body.length + j → ts[k]? = (⟨5, 1 + (10 + s.length), 3 + (10 + s.length)⟩ :: [⟨1, 4 + (10 + s.length), 7 + (10 + s.length)⟩, ⟨0, (gText 0 s).length, (gText 0 s).length⟩])[j]? := fun j k hk => by
    rw [hts']
    exact mid_get _ _ _ j (by rw [hk]; simp [gPreT])
  have A0 : At ⟨0, 0, false, 0⟩ 0 0 := ⟨rfl, rfl, rfl⟩
  obtain ⟨s1, x, s2, A1, ⟨n1, h1⟩, g2, B⟩ := let_back (u := ⟨3, 0, 3⟩) (v := ⟨1, 4, 7⟩) (w := ⟨15, 8, 9⟩) A0 (by rw [hts']; rfl) rfl (by rw [hts']; rfl) (by first | decide | (dsimp only; decide)) (by rw [hts']; rfl) hx hs
  obtain ⟨rfl, A2⟩ := inner (x := gPre 0) (z := gPost 0 s) hL hp (by first | decide | (dsimp only; decide)) hts' (by simp [gPreT]; omega) A1 h1 g2
  obtain ⟨s3, z, s4, A3, ⟨n3, h3⟩, g4, ⟨f, t0, b, e⟩, C⟩ := B _ _ A2 (g 0 (by simp [gPreT]))
  obtain ⟨h5, A5⟩ := leaf_back A3 (u := ⟨1, 4 + (10 + s.length), 7 + (10 + s.length)⟩) (g 1 (by simp [gPreT])) (by first | decide | (dsimp only; decide)) (by first | decide | (dsimp only; decide)) (v := ⟨0, (gText 0 s).length, (gText 0 s).length⟩) (g 2 (by simp [gPreT])) (by first | decide | (dsimp only; decide)) h3 g4
  have e2 : piece (gText 0 s) (4 + (10 + s.length)) (7 + (10 + s.length)) = zz9 := by
    have := piece_mid (gPre 0 ++ s) (gPost 0 s) [] (a := 4) (b := 7) (by simp [gPost])
    simp only [List.append_nil, List.append_assoc, List.length_append] at this
    rw [show 4 + (10 + s.length) = (gPre 0).length + s.length + 4 from by simp [gPre]; omega, show 7 + (10 + s.length) = (gPre 0).length + s.length + 7 from by simp [gPre]; omega]
    unfold gText
    rw [this]
    rfl
  have e3 : piece (gText 0 s) 4 7 = zz9 := by
    have := piece_mid [] (gPre 0) (s ++ gPost 0 s) (a := 4) (b := 7) (by simp [gPre])
    simp only [List.nil_append, List.length_nil, Nat.zero_add] at this
    unfold gText
    rw [this]
    rfl
  unfold leafS at h5
  rw [if_neg (by first | decide | (dsimp only; decide)), if_neg (by first | decide | (dsimp only; decide)), if_neg (by first | decide | (dsimp only; decide))] at h5
  split at h5
  · cases h5
    simp only at e
    rw [e2, e3] at e
    exact ⟨f, t0, b, _, _, e⟩
  · cases h5

theorem gTree1 {n : Nat} {t' : T} (h : parseS (gText 1 s) (gPreT 1 ++ (body.map (Tok.re (shM 6)) ++ [⟨17, 0, 1⟩, ⟨18, 1, 2⟩, ⟨2, 3, 4⟩, ⟨17, 4, 5⟩].map (Tok.shift (6 + s.length))) ++ [⟨0, (gText 1 s).length, (gText 1 s).length⟩]) n = some (.ok t')) :
    ∃ f1 t1 f2 t2 f3 t3 f4 t4 f5 t5, t' = .call f1 t1 (.side f2 t2 false) (.pair f3 t3 (.bracket f4 t4 (t.re (shM 6))) (.int f5 t5 1)) := by
  have hlen := hL.toks.2
  have hg := (gLex1 hL).toks
  obtain ⟨st', hx, hs, _⟩ := parse_fine (fun t ht => (hg.1 t ht).sort) h
  clear h
  generalize hts : gPreT 1 ++ (body.map (Tok.re (shM 6)) ++ [⟨17, 0, 1⟩, ⟨18, 1, 2⟩, ⟨2, 3, 4⟩, ⟨17, 4, 5⟩].map (Tok.shift (6 + s.length))) ++ [⟨0, (gText 1 s).length, (gText 1 s).length⟩] = ts at hx
  have hts' : ts = gPreT 1 ++ (body.map (Tok.re (shM 6)) ++ (⟨17, 0 + (6 + s.length), 1 + (6 + s.length)⟩ :: [⟨18, 1 + (6 + s.length), 2 + (6 + s.length)⟩, ⟨2, 3 + (6 + s.length), 4 + (6 + s.length)⟩, ⟨17, 4 + (6 + s.length), 5 + (6 + s.length)⟩, ⟨0, (gText 1 s).length, (gText 1 s).length⟩])) := by
    rw [← hts]
    simp [Tok.shift]
  have g : ∀ j {k : Nat}, k = 3 + body.length + j → ts[k]? = (⟨17, 0 + (6 + s.length), 1 + (6 + s.length)⟩ :: [⟨18, 1 + (6 + s.length), 2 + (6 + s.length)⟩, ⟨2, 3 + (6 + s.length), 4 + (6 + s.length)⟩, ⟨17, 4 + (6 + s.length), 5 + (6 + s.length)⟩, ⟨0, (gText 1 s).length, (gText 1 s).length⟩])[j]? := fun j k hk => by
    rw [hts']
    exact mid_get _ _ _ j (by rw [hk]; simp [gPreT])
  have A0 : At ⟨0, 0, false, 0⟩ 0 0 := ⟨rfl, rfl, rfl⟩
  have k0 : ts[0]? = some ⟨12, 0, 3⟩ := by rw [hts']; rfl
  have k1 : ts[1]? = some ⟨16, 4, 5⟩ := by rw [hts']; rfl
  have k2 : ts[2]? = some ⟨16, 5, 6⟩ := by rw [hts']; rfl
  obtain ⟨n1, a, s1, q1, g1, B⟩ := expr_atoms (A0.tok k0) (by first | decide | (dsimp only; decide)) (by first | decide | (dsimp only; decide)) (by first | decide | (dsimp only; decide)) hx hs
  obtain ⟨ha, A1⟩ := A0.leaf k0 q1 g1 (by first | decide | (dsimp only; decide)) (by first | decide | (dsimp only; decide)) (by first | decide | (dsimp only; decide))
  obtain ⟨n2, b, s2, q2, g2, C⟩ := (B _ (A1.tok k1)).2 (by first | decide | (dsimp only; decide))
  obtain ⟨n3, q3⟩ := A1.bracket k1 q2 rfl
  obtain ⟨s3, x, s4, A3, ⟨n4, q4⟩, g4, D⟩ := bracket_back A1 k1 q3 g2
  obtain ⟨n5, a5, s5, q5, g5, F⟩ := expr_atoms (A3.tok k2) (by first | decide | (dsimp only; decide)) (by first | decide | (dsimp only; decide)) (by first | decide | (dsimp only; decide)) q4 g4
  obtain ⟨n6, q6⟩ := A3.bracket k2 q5 rfl
  obtain ⟨s7, y, s8, A7, ⟨n8, q8⟩, g8, G⟩ := bracket_back A3 k2 q6 g5
  obtain ⟨rfl, A8⟩ := inner (x := gPre 1) (z := gPost 1 s) hL hp (by first | decide | (dsimp only; decide)) hts' (by simp [gPreT]; omega) A7 q8 g8
  obtain ⟨⟨f4, t4, rfl⟩, A9⟩ := (G _ _ A8 (g 0 (by simp [gPreT]))).1 (by first | decide | (dsimp only; decide))
  obtain ⟨rfl, rfl⟩ := (F _ (A9.tok (g 1 (by simp [gPreT])))).1 (by first | decide | (dsimp only; decide))
  obtain ⟨s10, z, s11, A10, ⟨n11, q11⟩, g11, H⟩ := (D _ _ A9 (g 1 (by simp [gPreT]))).2 rfl
  obtain ⟨h12, A12⟩ := leaf_back A10 (u := ⟨2, 3 + (6 + s.length), 4 + (6 + s.length)⟩) (g 2 (by simp [gPreT])) (by first | decide | (dsimp only; decide)) (by first | decide | (dsimp only; decide)) (v := ⟨17, 4 + (6 + s.length), 5 + (6 + s.length)⟩) (g 3 (by simp [gPreT])) (by first | decide | (dsimp only; decide)) q11 g11
  obtain ⟨⟨f3, t3, rfl⟩, A13⟩ := H _ _ A12 (g 3 (by simp [gPreT]))
  obtain ⟨e, _⟩ := C _ (A13.tok (g 4 (by simp [gPreT]))) (by first | decide | (dsimp only; decide))
  have e2 : piece (gText 1 s) (3 + (6 + s.length)) (4 + (6 + s.length)) = [49] := by
    have := piece_mid (gPre 1 ++ s) (gPost 1 s) [] (a := 3) (b := 4) (by simp [gPost])
    simp only [List.append_nil, List.append_assoc, List.length_append] at this
    rw [show 3 + (6 + s.length) = (gPre 1).length + s.length + 3 from by simp [gPre]; omega, show 4 + (6 + s.length) = (gPre 1).length + s.length + 4 from by simp [gPre]; omega]
    unfold gText
    rw [this]
    rfl
  unfold leafS at h12
  rw [if_pos rfl] at h12
  split at h12
  · simp only at h12
    rw [e2, show valueS [49] = some 1 from by kernel_rfl] at h12
    cases h12
    unfold leafS at ha
    rw [if_neg (by first | decide | (dsimp only; decide)), if_neg (by first | decide | (dsimp only; decide)), if_pos (by first | decide | (dsimp only; decide))] at ha
    cases ha
    exact ⟨_, _, _, _, _, _, _, _, _, _, e⟩
  · cases h12

theorem gTree2 {n : Nat} {t' : T} (h : parseS (gText 2 s) (gPreT 2 ++ (body.map (Tok.re (shM 13)) ++ ([⟨9, 13 + s.length + 1, 13 + s.length + 5⟩, ⟨16, 13 + s.length + 6, 13 + s.length + 7⟩] ++ (body.map (Tok.re (shM (20 + s.length))) ++ [⟨17, 20 + s.length + s.length, 20 + s.length + s.length + 1⟩]))) ++ [⟨0, (gText 2 s).length, (gText 2 s).length⟩]) n = some (.ok t')) :
    ∃ f1 t1 f2 t2 f3 t3, t' = .cond f1 t1 (.truth f2 t2 true) (t.re (shM 13)) (.bracket f3 t3 (t.re (shM (20 + s.length)))) := by
  have hlen := hL.toks.2
  have hg := (gLex2 hL).toks
  obtain ⟨st', hx, hs, _⟩ := parse_fine (fun t ht => (hg.1 t ht).sort) h
  clear h
  generalize hts : gPreT 2 ++ (body.map (Tok.re (shM 13)) ++ ([⟨9, 13 + s.length + 1, 13 + s.length + 5⟩, ⟨16, 13 + s.length + 6, 13 + s.length + 7⟩] ++ (body.map (Tok.re (shM (20 + s.length))) ++ [⟨17, 20 + s.length + s.length, 20 + s.length + s.length + 1⟩]))) ++ [⟨0, (gText 2 s).length, (gText 2 s).length⟩] = ts at hx
  have hts' : ts = gPreT 2 ++ (body.map (Tok.re (shM 13)) ++ (⟨9, 13 + s.length + 1, 13 + s.length + 5⟩ :: (⟨16, 13 + s.length + 6, 13 + s.length + 7⟩ :: (body.map (Tok.re (shM (20 + s.length))) ++ [⟨17, 20 + s.length + s.length, 20 + s.length + s.length + 1⟩, ⟨0, (gText 2 s).length, (gText 2 s).length⟩])))) := by
    rw [← hts]
    simp
  have hts2 : ts = (gPreT 2 ++ (body.map (Tok.re (shM 13)) ++ [⟨9, 13 + s.length + 1, 13 + s.length + 5⟩, ⟨16, 13 + s.length + 6, 13 + s.length + 7⟩])) ++ (body.map (Tok.re (shM (gPre 2 ++ (s ++ ([32, 101, 108, 115, 101, 32, 40] : List UInt8))).length)) ++ (⟨17, 20 + s.length + s.length, 20 + s.length + s.length + 1⟩ :: [⟨0, (gText 2 s).length, (gText 2 s).length⟩])) := by
    rw [hts', show (gPre 2 ++ (s ++ ([32, 101, 108, 115, 101, 32, 40] : List UInt8))).length = 20 + s.length from by simp [gPre]; omega]
    simp
  have g : ∀ j {k : Nat}, k = 3 + body.length + j → ts[k]? = (⟨9, 13 + s.length + 1, 13 + s.length + 5⟩ :: (⟨16, 13 + s.length + 6, 13 + s.length + 7⟩ :: (body.map (Tok.re (shM (20 + s.length))) ++ [⟨17, 20 + s.length + s.length, 20 + s.length + s.length + 1⟩, ⟨0, (gText 2 s).length, (gText 2 s).length⟩])))[j]? := fun j k hk => by
    rw [hts']
    exact mid_get _ _ _ j (by rw [hk]; simp [gPreT])
  have g' : ∀ j {k : Nat}, k = 5 + body.length + body.length + j → ts[k]? = (⟨17, 20 + s.length + s.length, 20 + s.length + s.length + 1⟩ :: [⟨0, (gText 2 s).length, (gText 2 s).length⟩])[j]? := fun j k hk => by
    rw [hts2]
    exact mid_get _ _ _ j (by rw [hk]; simp [gPreT]; omega)
  have A0 : At ⟨0, 0, false, 0⟩ 0 0 := ⟨rfl, rfl, rfl⟩
  have k0 : ts[0]? = some ⟨7, 0, 2⟩ := by rw [hts']; rfl
  have k1 : ts[1]? = some ⟨10, 3, 7⟩ := by rw [hts']; rfl
  have k2 : ts[2]? = some ⟨8, 8, 12⟩ := by rw [hts']; rfl
  obtain ⟨s1, x, s2, A1, ⟨n1, q1⟩, g2, B⟩ := cond_back A0 k0 rfl hx hs
  obtain ⟨hxl, A2⟩ := leaf_back A1 k1 (by first | decide | (dsimp only; decide)) (by first | decide | (dsimp only; decide)) k2 (by first | decide | (dsimp only; decide)) q1 g2
  obtain ⟨s3, z, s4, A3, ⟨n3, q3⟩, g4, C⟩ := B _ _ A2 k2
  obtain ⟨rfl, A4⟩ := inner (x := gPre 2) (z := gPost 2 s) hL hp (by first | decide | (dsimp only; decide)) hts' (by simp [gPreT]; omega) A3 q3 g4
  obtain ⟨s5, e, s6, A5, ⟨n5, q5⟩, g6, ⟨f1, t1, e1⟩, D⟩ := C _ _ A4 (g 0 (by simp [gPreT]))
  have k5 : ts[(gPreT 2).length + body.length + 1]? = some ⟨16, 13 + s.length + 6, 13 + s.length + 7⟩ := g 1 (by simp [gPreT])
  obtain ⟨n7, a, s7, q7, g7, F⟩ := expr_atoms (A5.tok k5) (by first | decide | (dsimp only; decide)) (by first | decide | (dsimp only; decide)) (by first | decide | (dsimp only; decide)) q5 g6
  obtain ⟨n8, q8⟩ := A5.bracket k5 q7 rfl
  obtain ⟨s9, y, s10, A9, ⟨n10, q10⟩, g10, G⟩ := bracket_back A5 k5 q8 g7
  have eu : gText 2 s = (gPre 2 ++ (s ++ [32, 101, 108, 115, 101, 32, 40])) ++ (s ++ [41]) := by simp [gText, gPost]
  rw [eu] at q10
  obtain ⟨rfl, A10⟩ := inner (x := gPre 2 ++ (s ++ [32, 101, 108, 115, 101, 32, 40])) (z := [41]) hL hp (by first | decide | (dsimp only; decide)) hts2 (by simp [gPreT]; omega) (by
    have : (gPreT 2).length + body.length + 1 + 1 = (gPreT 2 ++ (body.map (Tok.re (shM 13)) ++ ([⟨9, 13 + s.length + 1, 13 + s.length + 5⟩, ⟨16, 13 + s.length + 6, 13 + s.length + 7⟩] : List Tok))).length := by simp [gPreT]; omega
    rw [← this]
    exact A9) q10 g10
  have kk : (gPreT 2 ++ (body.map (Tok.re (shM 13)) ++ ([⟨9, 13 + s.length + 1, 13 + s.length + 5⟩, ⟨16, 13 + s.length + 6, 13 + s.length + 7⟩] : List Tok))).length + body.length = 5 + body.length + body.length := by simp [gPreT]; omega
  rw [kk] at A10
  obtain ⟨⟨f3, t3, rfl⟩, A11⟩ := (G _ _ A10 (g' 0 (by omega))).1 (by first | decide | (dsimp only; decide))
  obtain ⟨rfl, rfl⟩ := (F _ (A11.tok (g' 1 (by omega)))).1 (by first | decide | (dsimp only; decide))
  unfold leafS at hxl
  rw [if_neg (by first | decide | (dsimp only; decide)), if_pos (by first | decide | (dsimp only; decide))] at hxl
  cases hxl
  rw [show (gPre 2 ++ (s ++ ([32, 101, 108, 115, 101, 32, 40] : List UInt8))).length = 20 + s.length from by simp [gPre]; omega] at e1
  exact ⟨f1, t1, _, _, f3, t3, e1⟩

theorem gTree3 {n : Nat} {t' : T} (h : parseS (gText 3 s) (gPreT 3 ++ (body.map (Tok.re (shM 26)) ++ [⟨17, 0, 1⟩, ⟨17, 1, 2⟩].map (Tok.shift (26 + s.length))) ++ [⟨0, (gText 3 s).length, (gText 3 s).length⟩]) n = some (.ok t')) :
    ∃ f1 t1 f2 t2 f3 t3 f4 t4 f5 t5 f6 t6 f7 t7 b7 f8 t8 f9 t9, t' = .call f1 t1 (.side f2 t2 true) (.pair f3 t3 (.int f4 t4 1) (.call f5 t5 (.bracket f6 t6 (.fn f7 t7 zz9 b7 (.name f8 t8 zz9))) (.bracket f9 t9 (t.re (shM 26))))) := by
  have hlen := hL.toks.2
  have hg := (gLex3 hL).toks
  obtain ⟨st', hx, hs, _⟩ := parse_fine (fun t ht => (hg.1 t ht).sort) h
  clear h
  generalize hts : gPreT 3 ++ (body.map (Tok.re (shM 26)) ++ [⟨17, 0, 1⟩, ⟨17, 1, 2⟩].map (Tok.shift (26 + s.length))) ++ [⟨0, (gText 3 s).length, (gText 3 s).length⟩] = ts at hx
  have hts' : ts = gPreT 3 ++ (body.map (Tok.re (shM 26)) ++ (⟨17, 0 + (26 + s.length), 1 + (26 + s.length)⟩ :: [⟨17, 1 + (26 + s.length), 2 + (26 + s.length)⟩, ⟨0, (gText 3 s).length, (gText 3 s).length⟩])) := by
    rw [← hts]
    simp [Tok.shift]
  have g : ∀ j {k : Nat}, k = 11 + body.length + j → ts[k]? = (⟨17, 0 + (26 + s.length), 1 + (26 + s.length)⟩ :: [⟨17, 1 + (26 + s.length), 2 + (26 + s.length)⟩, ⟨0, (gText 3 s).length, (gText 3 s).length⟩])[j]? := fun j k hk => by
    rw [hts']
    exact mid_get _ _ _ j (by rw [hk]; simp [gPreT])
  have A0 : At ⟨0, 0, false, 0⟩ 0 0 := ⟨rfl, rfl, rfl⟩
  have k0 : ts[0]? = some ⟨13, 0, 3⟩ := by rw [hts']; rfl
  have k1 : ts[1]? = some ⟨16, 4, 5⟩ := by rw [hts']; rfl
  have k2 : ts[2]? = some ⟨2, 5, 6⟩ := by rw [hts']; rfl
  have k3 : ts[3]? = some ⟨18, 6, 7⟩ := by rw [hts']; rfl
  have k4 : ts[4]? = some ⟨16, 8, 9⟩ := by rw [hts']; rfl
  have k5 : ts[5]? = some ⟨6, 9, 12⟩ := by rw [hts']; rfl
  have k6 : ts[6]? = some ⟨1, 13, 16⟩ := by rw [hts']; rfl
  have k7 : ts[7]? = some ⟨14, 17, 19⟩ := by rw [hts']; rfl
  have k8 : ts[8]? = some ⟨1, 20, 23⟩ := by rw [hts']; rfl
  have k9 : ts[9]? = some ⟨17, 23, 24⟩ := by rw [hts']; rfl
  have k10 : ts[10]? = some ⟨16, 25, 26⟩ := by rw [hts']; rfl
  have pc : ∀ {a b : Nat}, b ≤ 26 → piece (gText 3 s) a b = piece (gPre 3) a b := fun {a b} hb => by
    have := piece_mid [] (gPre 3) (s ++ gPost 3 s) (a := a) (b := b) (by simpa [gPre] using hb)
    simp only [List.nil_append, List.length_nil, Nat.zero_add] at this
    exact this
  obtain ⟨n1, a, s1, q1, g1, B⟩ := expr_atoms (A0.tok k0) (by first | decide | (dsimp only; decide)) (by first | decide | (dsimp only; decide)) (by first | decide | (dsimp only; decide)) hx hs
  obtain ⟨ha, A1⟩ := A0.leaf k0 q1 g1 (by first | decide | (dsimp only; decide)) (by first | decide | (dsimp only; decide)) (by first | decide | (dsimp only; decide))
  obtain ⟨n2, b, s2, q2, g2, C⟩ := (B _ (A1.tok k1)).2 (by first | decide | (dsimp only; decide))
  obtain ⟨n3, q3⟩ := A1.bracket k1 q2 rfl
  obtain ⟨s3, x, s4, A3, ⟨n4, q4⟩, g4, D⟩ := bracket_back A1 k1 q3 g2
  obtain ⟨hxl, A4⟩ := leaf_back A3 k2 (by first | decide | (dsimp only; decide)) (by first | decide | (dsimp only; decide)) k3 (by first | decide | (dsimp only; decide)) q4 g4
  obtain ⟨s5, y, s6, A5, ⟨n6, q6⟩, g6, F⟩ := (D _ _ A4 k3).2 rfl
  obtain ⟨n7, c, s7, q7, g7, G⟩ := expr_atoms (A5.tok k4) (by first | decide | (dsimp only; decide)) (by first | decide | (dsimp only; decide)) (by first | decide | (dsimp only; decide)) q6 g6
  obtain ⟨n8, q8⟩ := A5.bracket k4 q7 rfl
  obtain ⟨s9, fx, s10, A9, ⟨n10, q10⟩, g10, H⟩ := bracket_back A5 k4 q8 g7
  obtain ⟨s11, nb, s12, A11, ⟨n12, q12⟩, g12, ⟨f7, t7, b7, e7⟩, I⟩ := fun_back A9 k5 rfl k6 k7 q10 g10
  obtain ⟨hnb, A12⟩ := leaf_back A11 k8 (by first | decide | (dsimp only; decide)) (by first | decide | (dsimp only; decide)) k9 (by first | decide | (dsimp only; decide)) q12 g12
  have A13 := I _ A12
  obtain ⟨⟨f6, t6, rfl⟩, A14⟩ := (H _ _ A13 k9).1 (by first | decide | (dsimp only; decide))
  obtain ⟨n15, dd, s15, q15, g15, J⟩ := (G _ (A14.tok k10)).2 (by first | decide | (dsimp only; decide))
  obtain ⟨n16, q16⟩ := A14.bracket k10 q15 rfl
  obtain ⟨s17, w, s18, A17, ⟨n18, q18⟩, g18, K⟩ := bracket_back A14 k10 q16 g15
  obtain ⟨rfl, A18⟩ := inner (x := gPre 3) (z := gPost 3 s) hL hp (by first | decide | (dsimp only; decide)) hts' (by simp [gPreT]; omega) A17 q18 g18
  obtain ⟨⟨f9, t9, rfl⟩, A19⟩ := (K _ _ A18 (g 0 (by simp [gPreT]))).1 (by first | decide | (dsimp only; decide))
  obtain ⟨e5, rfl⟩ := J _ (A19.tok (g 1 (by simp [gPreT]))) (by first | decide | (dsimp only; decide))
  obtain ⟨⟨f3, t3, rfl⟩, A20⟩ := F _ _ A19 (g 1 (by simp [gPreT]))
  obtain ⟨e, _⟩ := C _ (A20.tok (g 2 (by simp [gPreT]))) (by first | decide | (dsimp only; decide))
  unfold leafS at ha hxl hnb
  rw [if_neg (by first | decide | (dsimp only; decide)), if_neg (by first | decide | (dsimp only; decide)), if_pos (by first | decide | (dsimp only; decide))] at ha
  cases ha
  rw [if_pos rfl] at hxl
  rw [if_neg (by first | decide | (dsimp only; decide)), if_neg (by first | decide | (dsimp only; decide)), if_neg (by first | decide | (dsimp only; decide))] at hnb
  simp only at hxl hnb
  rw [pc (by first | decide | (dsimp only; decide))] at hxl hnb
  split at hxl
  · rw [show valueS (piece (gPre 3) 5 6) = some 1 from by kernel_rfl] at hxl
    cases hxl
    split at hnb
    · cases hnb
      rw [e, e5, e7, pc (by first | decide | (dsimp only; decide))]
      exact ⟨_, _, _, _, _, _, _, _, _, _, _, _, _, _, _, _, _, _, _, rfl⟩
    · cases hnb
  · cases hxl

end

end Go.Proofs.YtckhafpejefbbaaGreatDoor.Tw
