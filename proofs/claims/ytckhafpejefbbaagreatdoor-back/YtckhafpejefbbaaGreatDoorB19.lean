/- Texts of the proof, put together: RowBase, EmbThy3, TyThy8, RunThy, InvThy, GenThy, GenThy2, GenThy3, GenThy4, AlThy, RenThy. -/
import Derived.Test.YtckhafpejefbbaaGreatDoorB18
import Derived.Test.YtckhafpejefbbaaGreatDoorB01
import Derived.Test.YtckhafpejefbbaaGreatDoorRows
import Derived.Test.YtckhafpejefbbaaGreatDoorCards
import Derived.Test.YtckhafpejefbbaaGreatDoorTie
import Derived.ChangeSame
import Derived.ChangeVars
import Derived.JoinedOf
import Derived.RowKit
import Derived.RowKitTokens
import Derived.LaidLaws
import Derived.LaidMore
import Derived.OpenShut
import Derived.ProofKit
import Derived.Stop.Joined
import Derived.SevenTiedAt
import Derived.Carry
import Derived.Test.YtckhafpejefbbaaGreatDoorB17
import Derived.Test.YtckhafpejefbbaaGreatDoorB15
import Derived.Test.YtckhafpejefbbaaGreatDoorB13
import Derived.Test.YtckhafpejefbbaaGreatDoorB14

/- What the rows share: the library's contracts, what is listed, arguments read again. -/
namespace Go.Proofs.YtckhafpejefbbaaGreatDoor
open Go.ChangeShapes Go.WideShapes Go.ChangeAt Go.RowKit

theorem grown_bytesWorld (w : World) (e : TypeId) (s : ByteArray) : w.grownBy (Lib.bytesWorld w e s) none :=
  ⟨rfl, rfl, rfl, by rw [Lib.bytesWorld_size]; omega, fun k hk _ => Lib.bytesWorld_at_old w e s k hk⟩

theorem grown_grow (w : World) (k : Nat) (os : Array Obj) : w.grownBy (Sort.grow (w.drewN k) os) none :=
  ⟨rfl, rfl, rfl, by simp [Sort.grow], fun i hi _ => by simp [Sort.grow, Array.getElem?_append, hi]⟩

theorem lib4 : Lib4 :=
  { ib := fun s c w => (Tryz.strings_IndexByte s c w).mono fun e w' ⟨h1, h2⟩ => ⟨h1, h2.symm⟩
    pi := fun s hs v h w => (Tryz.strconv_ParseInt_10_at64_ok s (by omega) v h w).mono fun e w' ⟨h1, h2⟩ => ⟨h1, by
      rcases h2 with rfl | ⟨t, rfl⟩
      · exact grown_refl _
      · exact grown_bytesWorld _ _ _⟩
    fi := fun n h0 h1 w hT => (Tryz.strconv_FormatInt_10 n h0 h1 w hT).mono fun e w' ⟨h1, k, os, h2⟩ => ⟨h1, by rw [h2]; exact grown_grow _ _ _⟩
    fb := fun b w => (Tryz.strconv_FormatBool b w).mono fun e w' ⟨h1, h2⟩ => ⟨by rw [h1]; cases b <;> rfl, h2.symm⟩ }

theorem own : ownKnob Tryz.prog.godebug = none := by kernel_rfl
theorem tPow : (Tryz.prog.globals[1]?).map (fun x => x.type) = some 378 := by kernel_rfl

abbrev laid5 : List (String × DataW Unit) := Rows.recursiveRow.laid

theorem of_laid {W : World} (h : laidMetH Tryz.prog laid5 W) : Tab W ∧ 1 < W.heap.size := by
  rw [MakeChecks.laidMetH_plain _ _ _ (by kernel_rfl)] at h
  obtain ⟨ps, ⟨g0, t0, cs0, f0, p0, q0, hg0, ht0, hv0, hd0, ⟨g1, t1, cs1, f1, p1, q1, hg1, ht1, hv1, hd1, ⟨g2, t2, cs2, f2, p2, q2, hg2, ht2, hv2, hd2, _, _⟩, _⟩, _⟩, _, _⟩ := h
  obtain rfl := Option.some.inj (gPow.symm.trans hg2)
  obtain rfl := Option.some.inj (tPow.symm.trans ht2)
  have hz : (Rows.laid_internal_strconv_uint64pow10 : DataW Unit) = Lib.tabData .u64 Lib.pow10Tab := by kernel_rfl
  have hT : Tab W := by
    show W.var? Tryz.prog "internal/strconv.uint64pow10" = _
    rw [hv2]
    have := Lib.cells_of_tab (zs := Lib.pow10Tab) Tryz.underlying378 Tryz.underlying372 (by kernel_rfl) (by kernel_rfl) (by rw [← hz]; exact hd2)
    rw [← this]
  refine ⟨hT, ?_⟩
  rcases Nat.lt_or_ge 1 W.heap.size with h1 | h1
  · exact h1
  · have hv : W.var? Tryz.prog "internal/strconv.uint64pow10" = _ := hT
    unfold World.var? at hv
    rw [gPow] at hv
    simp only [Option.bind_some] at hv
    rw [Array.getElem?_eq_none h1] at hv
    simp at hv

theorem door_met (os : Os) (args : Array Value) : laidMetH Tryz.prog laid5 ((World.doorLaid Tryz.prog 62 os).forCall (fun _ _ => 0) ⟨#[], args, []⟩).memory :=
  laidMetH_of_parts3 (fuel := 8) (laidMet_of_run' 8 (by kernel_rfl) (by kernel_rfl)) (by kernel_rfl) (by kernel_rfl)

theorem keptBut_of_grown {W W' : World} (h : W.grownBy W' none) (may : MemPlace → Prop) : W.keptBut W' may := by
  refine ⟨h.os, h.output, fun i hi => ?_⟩
  rw [h.block i hi (by simp)]
  cases W.heap[i]? with
  | none => trivial
  | some o => cases o <;> simp

theorem laidOut : laidOutB Tryz.prog = true := by kernel_rfl

theorem below_of_grown {W W' : World} (h : W.grownBy W' none) : Below W.heap.size W W' := ⟨h.os, h.tape, h.output, h.size, fun k hk => h.block k hk (by simp)⟩

theorem args_again0 {H : Type} {enc : TypeId × Value → H} {P : Program} (hP : laidOutB P = true) {W W' : World} (hg : W.grownBy W' none) : ∀ (ts : List TypeId) (vs : List Value) (ds : List (DataW H)) (ps : List MemPlace),
    (ts.all fun t => P.readableRec t && decide (t < P.types.size)) = true → (∀ x ∈ ps, x.block < W.heap.size) → DataW.TrodAll enc P W 0 (fun _ => true) true ts vs ds ps → DataW.TrodAll enc P W' 0 (fun b => decide (b < W.heap.size)) true ts vs ds ps
  | [], [], [], _, _, _, h => h
  | t :: ts, v :: vs, d :: ds, ps, hr, hl, h => by
    obtain ⟨p, q, h1, h2, rfl⟩ := h
    simp only [List.all_cons, Bool.and_eq_true, decide_eq_true_eq] at hr
    exact ⟨p, q, Below.trod hP hr.1.1 hr.1.2 h1 (below_of_grown hg) (fun x hx => hl x (List.mem_append.2 (.inl hx))), args_again0 hP hg ts vs ds q hr.2 (fun x hx => hl x (List.mem_append.2 (.inr hx))) h2, rfl⟩
  | [], [], _ :: _, _, _, _, h => h.elim
  | [], _ :: _, _, _, _, _, h => h.elim
  | _ :: _, [], _, _, _, _, h => h.elim
  | _ :: _, _ :: _, [], _, _, _, h => h.elim

theorem args_again {H : Type} {enc : TypeId × Value → H} {W W' : World} (hg : W.grownBy W' none) {ts : List TypeId} {vs : List Value} {ds : List (DataW H)} {ps : List MemPlace}
    (hr : (ts.all fun t => Tryz.prog.readableRec t && decide (t < Tryz.prog.types.size)) = true) (hl : ∀ x ∈ ps, x.block < W.heap.size) (h : DataW.TrodAll enc Tryz.prog W 0 (fun _ => true) true ts vs ds ps) : DataW.TrodAll enc Tryz.prog W' 0 (fun b => decide (b < W.heap.size)) true ts vs ds ps :=
  args_again0 laidOut hg ts vs ds ps hr hl h

end Go.Proofs.YtckhafpejefbbaaGreatDoor

/- Two rows of tokens, one within the other: where both are parsed and neither parser is stuck, the trees are the same, moved. -/
namespace Go.Proofs.YtckhafpejefbbaaGreatDoor.Tw
open Go

variable {l1 l2 : List UInt8} {ts1 ts2 : List Tok} {o N dd : Nat} {m : Mv}

theorem Sim.take2 (E : Emb l1 l2 ts1 ts2 o m N) {s1 s2 s1' s2' : PS} (S : Sim o dd N s1 s2) {s : Int} {t t' : Tok} (h : takeS ts1 s s1 = some (t, s1')) (hs : s1'.stuck = false) (g : takeS ts2 s s2 = some (t', s2')) (h0 : s ≠ 0) : t' = t.re m ∧ Sim o dd N s1' s2' := by
  obtain ⟨_, _, u, e, S', _⟩ := S.take E h hs h0
  rw [e] at g
  cases g
  exact ⟨rfl, S'⟩

theorem Sim.begin2 (E : Emb l1 l2 ts1 ts2 o m N) {s1 s2 s1' s2' : PS} (S : Sim o dd N s1 s2) {s : Int} {k k' : Nat} (h : beginS ts1 s s1 = some (k, s1')) (hs : s1'.stuck = false) (g : beginS ts2 s s2 = some (k', s2')) (gs : s2'.stuck = false) (h0 : s ≠ 0) : k' = m.fr k ∧ Sim o dd N s1' s2' := by
  have d1 := (begin_deep h hs).1
  have d2 := (begin_deep g gs).1
  unfold beginS at h g
  rw [if_neg d1, Option.bind_some] at h
  rw [if_neg d2, Option.bind_some] at g
  split at h
  · split at g
    · obtain ⟨⟨t1, s3⟩, h2, h⟩ := Option.bind_eq_some_iff.1 h
      cases h
      obtain ⟨⟨t2, s4⟩, g2, g⟩ := Option.bind_eq_some_iff.1 g
      cases g
      have S1 : Sim o dd N { s1 with depth := s1.depth + 1 } { s2 with depth := s2.depth + 1 } := ⟨S.k1, S.k2, S.nx, by simp [S.dp]; omega, S.le⟩
      obtain ⟨e, S2⟩ := S1.take2 E h2 hs g2 h0
      subst e
      exact ⟨rfl, S2⟩
    · cases g
  · cases h

theorem Sim.end2 {s1 s2 s1' s2' : PS} (S : Sim o dd N s1 s2) (h : endS s1 = some s1') (g : endS s2 = some s2') : Sim o dd N s1' s2' := by
  obtain ⟨u, e, S', _⟩ := S.end h
  rw [e] at g
  cases g
  exact S'

theorem Sim.binder2 (E : Emb l1 l2 ts1 ts2 o m N) {s1 s2 s1' s2' : PS} (S : Sim o dd N s1 s2) {x x' : List UInt8} {k k' : Nat} (h : binderS l1 ts1 s1 = some ((x, k), s1')) (hs : s1'.stuck = false) (g : binderS l2 ts2 s2 = some ((x', k'), s2')) : s1.next < N ∧ x' = m.nm k x ∧ k' = m.fr k ∧ Sim o dd N s1' s2' := by
  obtain ⟨hl, u, e, S', _⟩ := S.binder E h hs
  rw [e] at g
  cases g
  exact ⟨hl, rfl, rfl, S'⟩

theorem Sim.any2 (E : Emb l1 l2 ts1 ts2 o m N) {s1 s2 s1' s2' : PS} (S : Sim o dd N s1 s2) {g : List Int} (h0 : ∀ x ∈ g, x ≠ 0) (hg : (∀ x ∈ g, stopSort x = false) ∨ s1.next < N) {k k' : Int} (h : takeAnyS ts1 g s1 = some (k, s1')) (hs : s1'.stuck = false) (g' : takeAnyS ts2 g s2 = some (k', s2')) : k' = k ∧ Sim o dd N s1' s2' := by
  obtain ⟨u, e, S', _⟩ := S.takeAny E h0 hg h hs
  rw [e] at g'
  cases g'
  exact ⟨rfl, S'⟩

theorem cmp_eof {s1 s1' : PS} {t : Tok} {r : T} (ht : tokS ts1 s1 = some t) (h0 : t.sort = 0) (n : Nat) (h : cmpS l1 ts1 n s1 = some (r, s1')) : s1'.stuck = true := by
  have key : ∀ j {s' : PS} {q : T}, atomS l1 ts1 j s1 = some (q, s') → s'.stuck = true := by
    intro j s' q hm
    cases j with
    | zero => simp [atomS] at hm
    | succ j =>
      rw [atomS, ht, Option.bind_some, h0, if_neg (by decide), if_neg (by decide)] at hm
      obtain ⟨s3, q1, hm⟩ := Option.bind_eq_some_iff.1 hm
      cases hm
      exact (failS_stuck q1).1
  have kcall : ∀ j {s' : PS} {q : T}, callS l1 ts1 j s1 = some (q, s') → s'.stuck = true := by
    intro j s' q hm
    cases j with
    | zero => simp [callS] at hm
    | succ j =>
      rw [callS] at hm
      obtain ⟨⟨a, s3⟩, q1, hm⟩ := Option.bind_eq_some_iff.1 hm
      have := key j q1
      cases hq : s'.stuck
      · have := ((mild_all l1 ts1 j).callFrom hm).1 hq
        simp_all
      · rfl
  have kchain : ∀ j {p : Part} {g : List Int} {s' : PS} {q : T}, (∀ j {s' : PS} {q : T}, partS l1 ts1 j p s1 = some (q, s') → s'.stuck = true) → chainS l1 ts1 j p g s1 = some (q, s') → s'.stuck = true := by
    intro j p g s' q hp hm
    cases j with
    | zero => simp [chainS] at hm
    | succ j =>
      rw [chainS] at hm
      obtain ⟨⟨a, s3⟩, q1, hm⟩ := Option.bind_eq_some_iff.1 hm
      have := hp j q1
      cases hq : s'.stuck
      · have := ((mild_all l1 ts1 j).chainFrom hm).1 hq
        simp_all
      · rfl
  have kpc : ∀ j {s' : PS} {q : T}, partS l1 ts1 j .call s1 = some (q, s') → s'.stuck = true := by
    intro j s' q hm
    cases j with
    | zero => simp [partS] at hm
    | succ j => rw [partS] at hm; exact kcall j hm
  have kpt : ∀ j {s' : PS} {q : T}, partS l1 ts1 j .term s1 = some (q, s') → s'.stuck = true := by
    intro j s' q hm
    cases j with
    | zero => simp [partS] at hm
    | succ j =>
      rw [partS] at hm
      cases j with
      | zero => simp [termS] at hm
      | succ j => rw [termS] at hm; exact kchain j kpc hm
  cases n with
  | zero => simp [cmpS] at h
  | succ n =>
    rw [cmpS] at h
    obtain ⟨⟨a, s3⟩, q1, h⟩ := Option.bind_eq_some_iff.1 h
    have k1 : s3.stuck = true := by
      cases n with
      | zero => simp [sumS] at q1
      | succ n => rw [sumS] at q1; exact kchain n kpt q1
    obtain ⟨⟨sg, s4⟩, q2, h⟩ := Option.bind_eq_some_iff.1 h
    simp only at h q2
    have k2 : s4.stuck = true := by
      cases hq : s4.stuck
      · have := (takeAnyS_mild q2).1 hq
        simp_all
      · rfl
    split at h
    · cases h
      simp_all
    · obtain ⟨⟨c, s5⟩, q3, h⟩ := Option.bind_eq_some_iff.1 h
      cases h
      cases hq : s5.stuck
      · have := ((mild_all l1 ts1 n).sum q3).1 hq
        simp_all
      · rfl

variable (l1 l2 ts1 ts2 o m N dd)

def Two (f : Nat → PS → Option (T × PS)) (g : Nat → PS → Option (T × PS)) (n : Nat) : Prop :=
  ∀ {n' : Nat} {s1 s2 s1' s2' : PS} {r r2 : T}, Sim o dd N s1 s2 → f n s1 = some (r, s1') → s1'.stuck = false → g n' s2 = some (r2, s2') → s2'.stuck = false → r2 = r.re m ∧ Sim o dd N s1' s2'

structure WAll (n : Nat) : Prop where
  expr : Two o N dd m (exprS l1 ts1) (exprS l2 ts2) n
  lett : Two o N dd m (letS l1 ts1) (letS l2 ts2) n
  fn : Two o N dd m (funS l1 ts1) (funS l2 ts2) n
  cond : Two o N dd m (condS l1 ts1) (condS l2 ts2) n
  cmp : Two o N dd m (cmpS l1 ts1) (cmpS l2 ts2) n
  sum : Two o N dd m (sumS l1 ts1) (sumS l2 ts2) n
  term : Two o N dd m (termS l1 ts1) (termS l2 ts2) n
  part : ∀ (p : Part), Two o N dd m (fun n => partS l1 ts1 n p) (fun n => partS l2 ts2 n p) n
  chain : ∀ (p : Part) (g : List Int), (∀ x ∈ g, x ≠ 0) → (∀ x ∈ g, stopSort x = false) → Two o N dd m (fun n => chainS l1 ts1 n p g) (fun n => chainS l2 ts2 n p g) n
  chainFrom : ∀ (p : Part) (g : List Int) (a : T), (∀ x ∈ g, x ≠ 0) → (∀ x ∈ g, stopSort x = false) → Two o N dd m (fun n => chainFromS l1 ts1 n p g a) (fun n => chainFromS l2 ts2 n p g (a.re m)) n
  call : Two o N dd m (callS l1 ts1) (callS l2 ts2) n
  callFrom : ∀ (a : T), Two o N dd m (fun n => callFromS l1 ts1 n a) (fun n => callFromS l2 ts2 n (a.re m)) n
  atom : Two o N dd m (atomS l1 ts1) (atomS l2 ts2) n
  bracket : Two o N dd m (bracketS l1 ts1) (bracketS l2 ts2) n

variable {l1 l2 ts1 ts2 o m N dd}

theorem two_step (E : Emb l1 l2 ts1 ts2 o m N) {n : Nat} (ih : WAll l1 l2 ts1 ts2 o N dd m n) : WAll l1 l2 ts1 ts2 o N dd m (n + 1) := by
  have M := mild_all l1 ts1 n
  constructor
  case expr =>
    intro n' s1 s2 s1' s2' r r2 S h hs g gs
    cases n' with
    | zero => simp [exprS] at g
    | succ n' =>
    rw [exprS] at h g
    obtain ⟨t, ht, h⟩ := Option.bind_eq_some_iff.1 h
    obtain ⟨t2, gt, g⟩ := Option.bind_eq_some_iff.1 g
    rcases S.toks E with ⟨hl, t', e1, e2, e3, e4⟩ | ⟨hN, t', u, e1, e2, e3, e4⟩
    · rw [ht] at e1
      cases e1
      rw [gt] at e2
      cases e2
      have hsort : (t.re m).sort = t.sort := rfl
      rw [hsort] at g
      split at h
      · rename_i q
        rw [if_pos q] at g
        exact ih.lett S h hs g gs
      · rename_i q
        rw [if_neg q] at g
        split at h
        · rename_i q
          rw [if_pos q] at g
          exact ih.fn S h hs g gs
        · rename_i q
          rw [if_neg q] at g
          split at h
          · rename_i q
            rw [if_pos q] at g
            exact ih.cond S h hs g gs
          · rename_i q
            rw [if_neg q] at g
            exact ih.cmp S h hs g gs
    · rw [ht] at e1
      cases e1
      exfalso
      rw [e3, if_neg (by decide), if_neg (by decide), if_neg (by decide)] at h
      rw [cmp_eof ht e3 n h] at hs
      cases hs
  case lett =>
    intro n' s1 s2 s1' s2' r r2 S h hs g gs
    cases n' with
    | zero => simp [letS] at g
    | succ n' =>
    have M' := mild_all l2 ts2 n'
    simp only [letS, Option.bind_eq_some_iff, Option.some.injEq, Prod.mk.injEq, Prod.exists] at h g
    obtain ⟨k, t1, h1, rc, t2, h2, bn, bat, t3, h3, c4, t4, h4, d, t5, h5, c6, t6, h6, x, t7, h7, t8, h8, rfl, rfl⟩ := h
    obtain ⟨k', u1, g1, rc', u2, g2, bn', bat', u3, g3, c4', u4, g4, d', u5, g5, c6', u6, g6, x', u7, g7, u8, g8, rfl, rfl⟩ := g
    have a7 : t7.stuck = false := by rw [← (endS_mild h8).1]; exact hs
    have a6 := (M.expr h7).1 a7
    have a5 := (takeS_mild h6).1 a6
    have a4 := (M.expr h5).1 a5
    have a3 := (takeS_mild h4).1 a4
    have a2 := (binderS_mild h3).1 a3
    have a1 := (takeAnyS_mild h2).1 a2
    have b7 : u7.stuck = false := by rw [← (endS_mild g8).1]; exact gs
    have b6 := (M'.expr g7).1 b7
    have b5 := (takeS_mild g6).1 b6
    have b4 := (M'.expr g5).1 b5
    have b3 := (takeS_mild g4).1 b4
    have b2 := (binderS_mild g3).1 b3
    have b1 := (takeAnyS_mild g2).1 b2
    obtain ⟨rfl, S1⟩ := S.begin2 E h1 a1 g1 b1 (by decide)
    have hb3 : t2.next < N := by
      unfold binderS at h3
      obtain ⟨⟨c, s9⟩, q1, q2⟩ := Option.bind_eq_some_iff.1 h3
      obtain ⟨qa, qb, _, _⟩ := takeS_fine q1 (by split at q2 <;> cases q2; exact a3) (by decide)
      rcases Nat.lt_or_ge t2.next N with hlt | hge
      · exact hlt
      · exfalso
        have hle : t1.next ≤ N := S1.le
        have hcase : t2.next = t1.next ∨ (t2.next = t1.next + 1 ∧ t1.next < N) := by
          rcases S1.toks E with ⟨hl, _⟩ | ⟨hN, t, u, e1, e2, e3, e4⟩
          · rw [takeAnyS] at h2
            obtain ⟨tt, _, h2⟩ := Option.bind_eq_some_iff.1 h2
            split at h2
            · obtain ⟨⟨c9, s9⟩, q9, h2⟩ := Option.bind_eq_some_iff.1 h2
              cases h2
              obtain ⟨_, _, rfl, _⟩ := takeS_fine q9 a2 (by decide)
              exact .inr ⟨rfl, hl⟩
            · rw [takeAnyS] at h2
              cases h2
              exact .inl rfl
          · rw [takeAnyS, e1, Option.bind_some, if_neg (by rw [e3]; decide), takeAnyS] at h2
            cases h2
            exact .inl rfl
        have hN : t2.next = N := by omega
        obtain ⟨te, he, h0⟩ := E.eof
        have : tokS ts1 t2 = some te := by simp [tokS, a2, hN, he]
        rw [this] at qa
        cases qa
        rw [h0] at qb
        cases qb
    have hb1 : t1.next < N := S1.one E (by decide) h2 (.inr hb3)
    obtain ⟨rfl, S2⟩ := S1.any2 E (by simp) (.inr hb1) h2 a2 g2
    obtain ⟨_, rfl, rfl, S3⟩ := S2.binder2 E h3 a3 g3
    obtain ⟨_, S4⟩ := S3.take2 E h4 a4 g4 (by decide)
    obtain ⟨rfl, S5⟩ := ih.expr S4 h5 a5 g5 b5
    obtain ⟨_, S6⟩ := S5.take2 E h6 a6 g6 (by decide)
    obtain ⟨rfl, S7⟩ := ih.expr S6 h7 a7 g7 b7
    refine ⟨?_, S7.end2 h8 g8⟩
    simp only [T.re, T.re_to]
  case fn =>
    intro n' s1 s2 s1' s2' r r2 S h hs g gs
    cases n' with
    | zero => simp [funS] at g
    | succ n' =>
    have M' := mild_all l2 ts2 n'
    simp only [funS, Option.bind_eq_some_iff, Option.some.injEq, Prod.mk.injEq, Prod.exists] at h g
    obtain ⟨k, t1, h1, bn, bat, t3, h3, c4, t4, h4, d, t5, h5, t8, h8, rfl, rfl⟩ := h
    obtain ⟨k', u1, g1, bn', bat', u3, g3, c4', u4, g4, d', u5, g5, u8, g8, rfl, rfl⟩ := g
    have a5 : t5.stuck = false := by rw [← (endS_mild h8).1]; exact hs
    have a4 := (M.expr h5).1 a5
    have a3 := (takeS_mild h4).1 a4
    have a1 := (binderS_mild h3).1 a3
    have b5 : u5.stuck = false := by rw [← (endS_mild g8).1]; exact gs
    have b4 := (M'.expr g5).1 b5
    have b3 := (takeS_mild g4).1 b4
    have b1 := (binderS_mild g3).1 b3
    obtain ⟨rfl, S1⟩ := S.begin2 E h1 a1 g1 b1 (by decide)
    obtain ⟨_, rfl, rfl, S3⟩ := S1.binder2 E h3 a3 g3
    obtain ⟨_, S4⟩ := S3.take2 E h4 a4 g4 (by decide)
    obtain ⟨rfl, S5⟩ := ih.expr S4 h5 a5 g5 b5
    refine ⟨?_, S5.end2 h8 g8⟩
    simp only [T.re, T.re_to]
  case cond =>
    intro n' s1 s2 s1' s2' r r2 S h hs g gs
    cases n' with
    | zero => simp [condS] at g
    | succ n' =>
    have M' := mild_all l2 ts2 n'
    simp only [condS, Option.bind_eq_some_iff, Option.some.injEq, Prod.mk.injEq, Prod.exists] at h g
    obtain ⟨k, t1, h1, x, t2, h2, c3, t3, h3, y, t4, h4, c5, t5, h5, z, t6, h6, t8, h8, rfl, rfl⟩ := h
    obtain ⟨k', u1, g1, x', u2, g2, c3', u3, g3, y', u4, g4, c5', u5, g5, z', u6, g6, u8, g8, rfl, rfl⟩ := g
    have a6 : t6.stuck = false := by rw [← (endS_mild h8).1]; exact hs
    have a5 := (M.expr h6).1 a6
    have a4 := (takeS_mild h5).1 a5
    have a3 := (M.expr h4).1 a4
    have a2 := (takeS_mild h3).1 a3
    have a1 := (M.expr h2).1 a2
    have b6 : u6.stuck = false := by rw [← (endS_mild g8).1]; exact gs
    have b5 := (M'.expr g6).1 b6
    have b4 := (takeS_mild g5).1 b5
    have b3 := (M'.expr g4).1 b4
    have b2 := (takeS_mild g3).1 b3
    have b1 := (M'.expr g2).1 b2
    obtain ⟨rfl, S1⟩ := S.begin2 E h1 a1 g1 b1 (by decide)
    obtain ⟨rfl, S2⟩ := ih.expr S1 h2 a2 g2 b2
    obtain ⟨_, S3⟩ := S2.take2 E h3 a3 g3 (by decide)
    obtain ⟨rfl, S4⟩ := ih.expr S3 h4 a4 g4 b4
    obtain ⟨_, S5⟩ := S4.take2 E h5 a5 g5 (by decide)
    obtain ⟨rfl, S6⟩ := ih.expr S5 h6 a6 g6 b6
    refine ⟨?_, S6.end2 h8 g8⟩
    simp only [T.re, T.re_to]
  case cmp =>
    intro n' s1 s2 s1' s2' r r2 S h hs g gs
    cases n' with
    | zero => simp [cmpS] at g
    | succ n' =>
    have M' := mild_all l2 ts2 n'
    simp only [cmpS, Option.bind_eq_some_iff, Prod.exists] at h g
    obtain ⟨x, t1, h1, sg, t2, h2, h⟩ := h
    obtain ⟨x', u1, g1, sg', u2, g2, g⟩ := g
    have a2 : t2.stuck = false := by
      split at h
      · cases h; exact hs
      · simp only [Option.bind_eq_some_iff, Option.some.injEq, Prod.mk.injEq, Prod.exists] at h
        obtain ⟨y, t3, h3, rfl, rfl⟩ := h
        exact (M.sum h3).1 hs
    have b2 : u2.stuck = false := by
      split at g
      · cases g; exact gs
      · simp only [Option.bind_eq_some_iff, Option.some.injEq, Prod.mk.injEq, Prod.exists] at g
        obtain ⟨y, t3, h3, rfl, rfl⟩ := g
        exact (M'.sum h3).1 gs
    have a1 := (takeAnyS_mild h2).1 a2
    have b1 := (takeAnyS_mild g2).1 b2
    obtain ⟨rfl, S1⟩ := ih.sum S h1 a1 g1 b1
    obtain ⟨rfl, S2⟩ := S1.any2 E (by simp) (.inl (by decide)) h2 a2 g2
    split at h
    · rename_i q
      rw [if_pos q] at g
      cases h
      cases g
      exact ⟨rfl, S2⟩
    · rename_i q
      rw [if_neg q] at g
      simp only [Option.bind_eq_some_iff, Option.some.injEq, Prod.mk.injEq, Prod.exists] at h g
      obtain ⟨y, t3, h3, rfl, rfl⟩ := h
      obtain ⟨y', u3, g3, rfl, rfl⟩ := g
      obtain ⟨rfl, S3⟩ := ih.sum S2 h3 hs g3 gs
      refine ⟨?_, S3⟩
      simp only [T.re, T.re_to, T.re_fr]
  case sum =>
    intro n' s1 s2 s1' s2' r r2 S h hs g gs
    cases n' with
    | zero => simp [sumS] at g
    | succ n' =>
    rw [sumS] at h g
    exact ih.chain _ _ (by simp) (by decide) S h hs g gs
  case term =>
    intro n' s1 s2 s1' s2' r r2 S h hs g gs
    cases n' with
    | zero => simp [termS] at g
    | succ n' =>
    rw [termS] at h g
    exact ih.chain _ _ (by simp) (by decide) S h hs g gs
  case part =>
    intro p n' s1 s2 s1' s2' r r2 S h hs g gs
    cases n' with
    | zero => simp [partS] at g
    | succ n' =>
    cases p with
    | term => simp only [partS] at h g; exact ih.term S h hs g gs
    | call => simp only [partS] at h g; exact ih.call S h hs g gs
  case chain =>
    intro p sg hg0 hg n' s1 s2 s1' s2' r r2 S h hs g gs
    cases n' with
    | zero => simp [chainS] at g
    | succ n' =>
    have M' := mild_all l2 ts2 n'
    simp only [chainS, Option.bind_eq_some_iff, Prod.exists] at h g
    obtain ⟨a, t1, h1, h2⟩ := h
    obtain ⟨a', u1, g1, g2⟩ := g
    have a1 := (M.chainFrom h2).1 hs
    have b1 := (M'.chainFrom g2).1 gs
    obtain ⟨rfl, S1⟩ := ih.part p S h1 a1 g1 b1
    exact ih.chainFrom p sg a hg0 hg S1 h2 hs g2 gs
  case chainFrom =>
    intro p sg a hg0 hg n' s1 s2 s1' s2' r r2 S h hs g gs
    cases n' with
    | zero => simp [chainFromS] at g
    | succ n' =>
    have M' := mild_all l2 ts2 n'
    simp only [chainFromS, Option.bind_eq_some_iff, Prod.exists] at h g
    obtain ⟨k, t1, h1, h⟩ := h
    obtain ⟨k', u1, g1, g⟩ := g
    have a1 : t1.stuck = false := by
      split at h
      · cases h; exact hs
      · simp only [Option.bind_eq_some_iff, Prod.exists] at h
        obtain ⟨c, t2, h2, h3⟩ := h
        exact (M.part h2).1 ((M.chainFrom h3).1 hs)
    obtain ⟨rfl, S1⟩ := S.any2 E hg0 (.inl hg) h1 a1 g1
    split at h
    · rename_i q
      rw [if_pos q] at g
      cases h
      cases g
      exact ⟨rfl, S1⟩
    · rename_i q
      rw [if_neg q] at g
      simp only [Option.bind_eq_some_iff, Prod.exists] at h g
      obtain ⟨c, t2, h2, h3⟩ := h
      obtain ⟨c', u2, g2, g3⟩ := g
      have a2 := (M.chainFrom h3).1 hs
      have b2 := (M'.chainFrom g3).1 gs
      obtain ⟨rfl, S2⟩ := ih.part p S1 h2 a2 g2 b2
      rw [T.re_to, T.re_fr] at g3
      exact ih.chainFrom p sg (.binary a.fr c.to k' a c) hg0 hg S2 h3 hs g3 gs
  case call =>
    intro n' s1 s2 s1' s2' r r2 S h hs g gs
    cases n' with
    | zero => simp [callS] at g
    | succ n' =>
    have M' := mild_all l2 ts2 n'
    simp only [callS, Option.bind_eq_some_iff, Prod.exists] at h g
    obtain ⟨a, t1, h1, h2⟩ := h
    obtain ⟨a', u1, g1, g2⟩ := g
    have a1 := (M.callFrom h2).1 hs
    have b1 := (M'.callFrom g2).1 gs
    obtain ⟨rfl, S1⟩ := ih.atom S h1 a1 g1 b1
    exact ih.callFrom a S1 h2 hs g2 gs
  case callFrom =>
    intro a n' s1 s2 s1' s2' r r2 S h hs g gs
    cases n' with
    | zero => simp [callFromS] at g
    | succ n' =>
    have M' := mild_all l2 ts2 n'
    simp only [callFromS, Option.bind_eq_some_iff] at h g
    obtain ⟨t, ht, h⟩ := h
    obtain ⟨t2, gt, g⟩ := g
    rcases S.toks E with ⟨hl, t', e1, e2, e3, e4⟩ | ⟨hN, t', u, e1, e2, e3, e4⟩
    · rw [ht] at e1
      cases e1
      rw [gt] at e2
      cases e2
      have hsort : (t.re m).sort = t.sort := rfl
      rw [hsort] at g
      split at h
      · rename_i q
        rw [if_pos q] at g
        simp only [Option.bind_eq_some_iff, Prod.exists] at h g
        obtain ⟨c, t3, h2, h3⟩ := h
        obtain ⟨c', u3, g2, g3⟩ := g
        have a2 := (M.callFrom h3).1 hs
        have b2 := (M'.callFrom g3).1 gs
        obtain ⟨rfl, S2⟩ := ih.atom S h2 a2 g2 b2
        rw [T.re_to, T.re_fr] at g3
        exact ih.callFrom (.call a.fr c.to a c) S2 h3 hs g3 gs
      · rename_i q
        rw [if_neg q] at g
        cases h
        cases g
        exact ⟨rfl, S⟩
    · rw [ht] at e1
      cases e1
      rw [gt] at e2
      cases e2
      rw [e3, if_neg (by decide)] at h
      have q : ¬ beginsAtom t2.sort = true := by
        simp [stopSort] at e4
        simp [beginsAtom]
        omega
      rw [if_neg q] at g
      cases h
      cases g
      exact ⟨rfl, S⟩
  case atom =>
    intro n' s1 s2 s1' s2' r r2 S h hs g gs
    cases n' with
    | zero => simp [atomS] at g
    | succ n' =>
    simp only [atomS, Option.bind_eq_some_iff] at h g
    obtain ⟨t, ht, h⟩ := h
    obtain ⟨t2, gt, g⟩ := g
    rcases S.toks E with ⟨hl, t', e1, e2, e3, e4⟩ | ⟨hN, t', u, e1, e2, e3, e4⟩
    · rw [ht] at e1
      cases e1
      rw [gt] at e2
      cases e2
      have hsort : (t.re m).sort = t.sort := rfl
      rw [hsort] at g
      split at h
      · rename_i q
        rw [if_pos q] at g
        exact ih.bracket S h hs g gs
      · rename_i q
        rw [if_neg q] at g
        split at h
        · rename_i q2
          rw [if_pos q2] at g
          simp only [Option.bind_eq_some_iff, Option.some.injEq, Prod.mk.injEq, Prod.exists] at h g
          obtain ⟨c, t3, h2, x, h3, rfl, rfl⟩ := h
          obtain ⟨c', u3, g2, x', g3, rfl, rfl⟩ := g
          obtain ⟨_, S2⟩ := S.take2 E h2 hs g2 e3
          rw [(leafS_re e4 h3).1] at g3
          cases g3
          exact ⟨rfl, S2⟩
        · simp only [Option.bind_eq_some_iff, Option.some.injEq, Prod.mk.injEq] at h
          obtain ⟨_, h2, _, rfl⟩ := h
          rw [(failS_stuck h2).1] at hs
          cases hs
    · rw [ht] at e1
      cases e1
      rw [e3, if_neg (by decide), if_neg (by decide)] at h
      simp only [Option.bind_eq_some_iff, Option.some.injEq, Prod.mk.injEq] at h
      obtain ⟨_, h2, _, rfl⟩ := h
      rw [(failS_stuck h2).1] at hs
      cases hs
  case bracket =>
    intro n' s1 s2 s1' s2' r r2 S h hs g gs
    cases n' with
    | zero => simp [bracketS] at g
    | succ n' =>
    have M' := mild_all l2 ts2 n'
    simp only [bracketS, Option.bind_eq_some_iff, Prod.exists] at h g
    obtain ⟨k, t1, h1, x, t2, h2, sg, t3, h3, h⟩ := h
    obtain ⟨k', u1, g1, x', u2, g2, sg', u3, g3, g⟩ := g
    have a3 : t3.stuck = false := by
      split at h
      · simp only [Option.bind_eq_some_iff, Option.some.injEq, Prod.mk.injEq, Prod.exists] at h
        obtain ⟨y, t4, h4, c5, t5, h5, t6, h6, rfl, rfl⟩ := h
        exact (M.expr h4).1 ((takeS_mild h5).1 (by rw [← (endS_mild h6).1]; exact hs))
      · simp only [Option.bind_eq_some_iff, Option.some.injEq, Prod.mk.injEq, Prod.exists] at h
        obtain ⟨c5, t5, h5, t6, h6, rfl, rfl⟩ := h
        exact (takeS_mild h5).1 (by rw [← (endS_mild h6).1]; exact hs)
    have b3 : u3.stuck = false := by
      split at g
      · simp only [Option.bind_eq_some_iff, Option.some.injEq, Prod.mk.injEq, Prod.exists] at g
        obtain ⟨y, t4, h4, c5, t5, h5, t6, h6, rfl, rfl⟩ := g
        exact (M'.expr h4).1 ((takeS_mild h5).1 (by rw [← (endS_mild h6).1]; exact gs))
      · simp only [Option.bind_eq_some_iff, Option.some.injEq, Prod.mk.injEq, Prod.exists] at g
        obtain ⟨c5, t5, h5, t6, h6, rfl, rfl⟩ := g
        exact (takeS_mild h5).1 (by rw [← (endS_mild h6).1]; exact gs)
    have a2 := (takeAnyS_mild h3).1 a3
    have a1 := (M.expr h2).1 a2
    have b2 := (takeAnyS_mild g3).1 b3
    have b1 := (M'.expr g2).1 b2
    obtain ⟨rfl, S1⟩ := S.begin2 E h1 a1 g1 b1 (by decide)
    obtain ⟨rfl, S2⟩ := ih.expr S1 h2 a2 g2 b2
    have hk : sg ≠ 0 ∨ t3.next < N := by
      rcases S2.toks E with ⟨hl, tt, q1, q2, q3, q4⟩ | ⟨hN, t, u, q1, q2, q3, q4⟩
      · rw [takeAnyS, q1, Option.bind_some] at h3
        split at h3
        · obtain ⟨⟨c9, s9⟩, q9, h3⟩ := Option.bind_eq_some_iff.1 h3
          cases h3
          obtain ⟨w1, w2, _, _⟩ := takeS_fine q9 a3 (by decide)
          exact .inl (by simp [w2])
        · rw [takeAnyS] at h3
          cases h3
          exact .inr hl
      · exfalso
        rw [takeAnyS, q1, Option.bind_some, if_neg (by rw [q3]; decide), takeAnyS] at h3
        cases h3
        rw [if_neg (by decide)] at h
        simp only [Option.bind_eq_some_iff, Option.some.injEq, Prod.mk.injEq, Prod.exists] at h
        obtain ⟨c5, t5, h5, t6, h6, rfl, rfl⟩ := h
        obtain ⟨w1, w2, _, _⟩ := takeS_fine h5 (by rw [← (endS_mild h6).1]; exact hs) (by decide)
        rw [q1] at w1
        cases w1
        rw [q3] at w2
        cases w2
    have hl2 : t2.next < N := S2.one E (by decide) h3 hk
    obtain ⟨rfl, S3⟩ := S2.any2 E (by simp) (.inr hl2) h3 a3 g3
    split at h
    · rename_i q
      rw [if_pos q] at g
      simp only [Option.bind_eq_some_iff, Option.some.injEq, Prod.mk.injEq, Prod.exists] at h g
      obtain ⟨y, t4, h4, c5, t5, h5, t6, h6, rfl, rfl⟩ := h
      obtain ⟨y', u4, g4, c5', u5, g5, u6, g6, rfl, rfl⟩ := g
      have a5 : t5.stuck = false := by rw [← (endS_mild h6).1]; exact hs
      have a4 := (takeS_mild h5).1 a5
      have b5 : u5.stuck = false := by rw [← (endS_mild g6).1]; exact gs
      have b4 := (takeS_mild g5).1 b5
      obtain ⟨rfl, S4⟩ := ih.expr S3 h4 a4 g4 b4
      obtain ⟨rfl, S5⟩ := S4.take2 E h5 a5 g5 (by decide)
      exact ⟨rfl, S5.end2 h6 g6⟩
    · rename_i q
      rw [if_neg q] at g
      simp only [Option.bind_eq_some_iff, Option.some.injEq, Prod.mk.injEq, Prod.exists] at h g
      obtain ⟨c5, t5, h5, t6, h6, rfl, rfl⟩ := h
      obtain ⟨c5', u5, g5, u6, g6, rfl, rfl⟩ := g
      have a5 : t5.stuck = false := by rw [← (endS_mild h6).1]; exact hs
      obtain ⟨rfl, S5⟩ := S3.take2 E h5 a5 g5 (by decide)
      exact ⟨rfl, S5.end2 h6 g6⟩

theorem two_all (E : Emb l1 l2 ts1 ts2 o m N) : ∀ n, WAll l1 l2 ts1 ts2 o N dd m n
  | 0 => by constructor <;> (intros; intro n' s1 s2 s1' s2' r r2 S h; simp [exprS, letS, funS, condS, cmpS, sumS, termS, partS, chainS, chainFromS, callS, callFromS, atomS, bracketS] at h)
  | n + 1 => two_step E (two_all E n)

end Go.Proofs.YtckhafpejefbbaaGreatDoor.Tw

/- Trees of the same types have their type shown the same. -/
namespace Go.Proofs.YtckhafpejefbbaaGreatDoor.Tw
open Go

def Ty.has (p : Nat) : Ty → Prop
  | .var q => q = p
  | .int => False
  | .bool => False
  | .fn a b => a.has p ∨ b.has p
  | .pair a b => a.has p ∨ b.has p

end Go.Proofs.YtckhafpejefbbaaGreatDoor.Tw

/- The run's twin: more fuel alters nothing; a moved tree comes to the same; it answers of every tree whose names are bound. -/
namespace Go.Proofs.YtckhafpejefbbaaGreatDoor.Tw
open Go

theorem evalS_more1 (bud : Nat) : ∀ (n : Nat) {t : T} {e : VEnv} {st : RS} {r : Option Val × RS}, evalS bud n t e st = some r → evalS bud (n + 1) t e st = some r
  | 0, t, e, st, r, h => by simp [evalS] at h
  | n + 1, t, e, st, r, h => by
    have ih : ∀ {t : T} {e : VEnv} {st : RS} {r : Option Val × RS}, evalS bud n t e st = some r → evalS bud (n + 1) t e st = some r := fun h => evalS_more1 bud n h
    have both : ∀ {l r : T} {e : VEnv} {st : RS} {c : Option (Val × Val) × RS}, bothS bud n l r e st = some c → bothS bud (n + 1) l r e st = some c := by
      intro l r e st c h
      unfold bothS at h ⊢
      obtain ⟨a, h1, h⟩ := Option.bind_eq_some_iff.1 h
      rw [ih h1, Option.bind_some]
      obtain ⟨a1, a2⟩ := a
      cases a1 with
      | none => exact h
      | some x =>
        simp only at h ⊢
        obtain ⟨b, h2, h⟩ := Option.bind_eq_some_iff.1 h
        rw [ih h2, Option.bind_some]
        exact h
    cases t with
    | name fr to x => rw [evalS] at h ⊢; exact h
    | int fr to v => rw [evalS] at h ⊢; exact h
    | truth fr to v => rw [evalS] at h ⊢; exact h
    | side fr to v => rw [evalS] at h ⊢; exact h
    | fn fr to bn bat b => rw [evalS] at h ⊢; exact h
    | bracket fr to i => rw [evalS] at h ⊢; exact ih h
    | pair fr to x y =>
      rw [evalS_pair] at h ⊢
      obtain ⟨c, h1, h⟩ := Option.bind_eq_some_iff.1 h
      rw [both h1, Option.bind_some]
      exact h
    | binary fr to s x y =>
      rw [evalS_binary] at h ⊢
      obtain ⟨c, h1, h⟩ := Option.bind_eq_some_iff.1 h
      rw [both h1, Option.bind_some]
      exact h
    | call fr to x y =>
      rw [evalS_call] at h ⊢
      obtain ⟨c, h1, h⟩ := Option.bind_eq_some_iff.1 h
      rw [both h1, Option.bind_some]
      obtain ⟨c1, c2⟩ := c
      cases c1 with
      | none => exact h
      | some p =>
        obtain ⟨f, a⟩ := p
        simp only at h ⊢
        unfold applyS at h ⊢
        cases f with
        | clo _ _ bn _ body env =>
          simp only at h ⊢
          split at h
          · rename_i q; rw [if_pos q]; exact h
          · rename_i q; rw [if_neg q]; exact ih h
        | num _ => exact h
        | truth _ => exact h
        | side _ => exact h
        | pair _ _ => exact h
    | cond fr to c x y =>
      rw [evalS] at h ⊢
      obtain ⟨a, h1, h⟩ := Option.bind_eq_some_iff.1 h
      rw [ih h1, Option.bind_some]
      obtain ⟨a1, a2⟩ := a
      cases a1 with
      | none => exact h
      | some v =>
        simp only at h ⊢
        split at h
        · rename_i q; rw [if_pos q]; exact ih h
        · rename_i q; rw [if_neg q]; exact ih h
    | lett fr to rc bn bat d b =>
      rw [evalS] at h ⊢
      obtain ⟨a, h1, h⟩ := Option.bind_eq_some_iff.1 h
      rw [ih h1, Option.bind_some]
      obtain ⟨a1, a2⟩ := a
      cases a1 with
      | none => exact h
      | some v => exact ih h

theorem evalS_more {bud n k : Nat} (hk : n ≤ k) {t : T} {e : VEnv} {st : RS} {r : Option Val × RS} (h : evalS bud n t e st = some r) : evalS bud k t e st = some r := by
  induction k with
  | zero => rw [show n = 0 from by omega] at h; exact h
  | succ k ih =>
    rcases Nat.lt_or_ge n (k + 1) with h1 | h1
    · exact evalS_more1 bud k (ih (by omega))
    · rw [show n = k + 1 from by omega] at h; exact h

/-! ### A moved tree -/

def envMv (d : Nat) (e : VEnv) : VEnv := e.map fun p => (p.1, d + p.2)

def Val.mv (m : Mv) (d : Nat) : Val → Val
  | .num n => .num n
  | .truth b => .truth b
  | .side b => .side b
  | .pair l r => .pair (l.mv m d) (r.mv m d)
  | .clo fr to bn bat body env => .clo (m.fr fr) (m.to to) bn (m.fr bat) (body.re m) (envMv d env)

def RS.mv (m : Mv) (pre : List (Option Val)) (st : RS) : RS := ⟨pre ++ st.slots.map (Option.map (Val.mv m pre.length)), st.steps, st.fin⟩

def outMv (m : Mv) (pre : List (Option Val)) (a : Option Val × RS) : Option Val × RS := (a.1.map (Val.mv m pre.length), a.2.mv m pre)

theorem lookV_mv (d : Nat) (x : List UInt8) : ∀ e : VEnv, lookV (envMv d e) x = (lookV e x).map (d + ·)
  | [] => rfl
  | (n, k) :: o => by
    simp only [envMv, List.map_cons, lookV]
    split
    · rfl
    · exact lookV_mv d x o

theorem asNum_mv (m : Mv) (d : Nat) (v : Val) : asNum (v.mv m d) = asNum v := by cases v <;> rfl

theorem reckon_mv (m : Mv) (pre : List (Option Val)) (s a b : Int) (st : RS) : reckonS s a b (st.mv m pre) = outMv m pre (reckonS s a b st) := by
  unfold reckonS
  (repeat' split) <;> rfl

theorem writeV_mv (m : Mv) (d : Nat) : ∀ (v : Val) (acc : List UInt8), writeV (v.mv m d) acc = writeV v acc
  | .num _, _ => rfl
  | .truth _, _ => rfl
  | .side _, _ => rfl
  | .clo _ _ _ _ _ _, _ => rfl
  | .pair l r, acc => by
    simp only [Val.mv, writeV]
    rw [writeV_mv m d l, writeV_mv m d r]

theorem truth_mv (m : Mv) (d : Nat) (v : Val) : (v.mv m d = .truth true) ↔ (v = .truth true) := by cases v <;> simp [Val.mv]

theorem evalS_mv (bud : Nat) (m : Mv) (hv : ∀ f x, m.val f x = x) (hn : ∀ f x, m.nm f x = x) (pre : List (Option Val)) : ∀ (n : Nat) (t : T) (e : VEnv) (st : RS), evalS bud n (t.re m) (envMv pre.length e) (st.mv m pre) = (evalS bud n t e st).map (outMv m pre)
  | 0, _, _, _ => rfl
  | n + 1, t, e, st => by
    have ih : ∀ (t : T) (e : VEnv) (st : RS), evalS bud n (t.re m) (envMv pre.length e) (st.mv m pre) = (evalS bud n t e st).map (outMv m pre) := evalS_mv bud m hv hn pre n
    have both : ∀ (l r : T) (e : VEnv) (st : RS), bothS bud n (l.re m) (r.re m) (envMv pre.length e) (st.mv m pre) = (bothS bud n l r e st).map fun c => (c.1.map fun p => (p.1.mv m pre.length, p.2.mv m pre.length), c.2.mv m pre) := by
      intro l r e st
      unfold bothS
      rw [ih]
      cases evalS bud n l e st with
      | none => rfl
      | some a =>
        obtain ⟨a1, a2⟩ := a
        cases a1 with
        | none => rfl
        | some x =>
          simp only [Option.map_some, Option.bind_some, outMv]
          rw [ih]
          cases evalS bud n r e a2 with
          | none => rfl
          | some b =>
            obtain ⟨b1, b2⟩ := b
            cases b1 <;> rfl
    cases t with
    | name fr to x =>
      simp only [T.re, evalS, hn]
      rw [lookV_mv]
      cases lookV e x with
      | none => rfl
      | some i =>
        simp only [Option.map_some, Option.bind_some]
        have hs : (st.mv m pre).slots[pre.length + i]? = (st.slots[i]?).map (Option.map (Val.mv m pre.length)) := by
          simp only [RS.mv]
          rw [List.getElem?_append_right (by omega), Nat.add_sub_cancel_left, List.getElem?_map]
        rw [hs]
        cases st.slots[i]? with
        | none => rfl
        | some o => cases o <;> rfl
    | int fr to v =>
      simp only [T.re, evalS]
      rw [hv]
      split <;> rfl
    | truth fr to v => rfl
    | side fr to v => rfl
    | fn fr to bn bat b => simp only [T.re, evalS, hn]; rfl
    | bracket fr to i => simp only [T.re, evalS]; exact ih _ _ _
    | pair fr to x y =>
      simp only [T.re]
      rw [evalS_pair, evalS_pair, both]
      cases bothS bud n x y e st with
      | none => rfl
      | some c =>
        obtain ⟨c1, c2⟩ := c
        cases c1 <;> rfl
    | binary fr to s x y =>
      simp only [T.re]
      rw [evalS_binary, evalS_binary, both]
      cases bothS bud n x y e st with
      | none => rfl
      | some c =>
        obtain ⟨c1, c2⟩ := c
        cases c1 with
        | none => rfl
        | some p =>
          simp only [Option.map_some, Option.bind_some, asNum_mv, reckon_mv]
    | call fr to x y =>
      simp only [T.re]
      rw [evalS_call, evalS_call, both]
      cases bothS bud n x y e st with
      | none => rfl
      | some c =>
        obtain ⟨c1, c2⟩ := c
        cases c1 with
        | none => rfl
        | some p =>
          obtain ⟨f, a⟩ := p
          simp only [Option.map_some, Option.bind_some]
          unfold applyS
          cases f with
          | clo f1 t1 bn bat body env =>
            simp only [Val.mv]
            have hsteps : (c2.mv m pre).steps = c2.steps := rfl
            rw [hsteps]
            by_cases q : c2.steps = bud
            · rw [if_pos q, if_pos q]; rfl
            · rw [if_neg q, if_neg q, ← ih]
              congr 1
              · simp [envMv, RS.mv]
              · simp [RS.mv]
          | num _ => rfl
          | truth _ => rfl
          | side s =>
            simp only [Val.mv, Option.map_some, outMv]
            cases a <;> simp [sideS, Val.mv]
            split <;> rfl
          | pair _ _ => rfl
    | cond fr to c x y =>
      simp only [T.re, evalS]
      rw [ih]
      cases evalS bud n c e st with
      | none => rfl
      | some a =>
        obtain ⟨a1, a2⟩ := a
        cases a1 with
        | none => rfl
        | some v =>
          simp only [Option.map_some, Option.bind_some, outMv, truth_mv]
          split
          · exact ih _ _ _
          · exact ih _ _ _
    | lett fr to rc bn bat d b =>
      simp only [T.re, evalS, hn]
      have hl : (st.mv m pre).slots.length = pre.length + st.slots.length := by simp [RS.mv]
      have e1 : (if rc then (bn, (st.mv m pre).slots.length) :: envMv pre.length e else envMv pre.length e) = envMv pre.length (if rc then (bn, st.slots.length) :: e else e) := by
        rw [hl]
        cases rc <;> rfl
      have e2 : { st.mv m pre with slots := (st.mv m pre).slots ++ [none] } = RS.mv m pre { st with slots := st.slots ++ [none] } := by
        simp [RS.mv]
      rw [e1, e2, ih]
      cases evalS bud n d (if rc then (bn, st.slots.length) :: e else e) { st with slots := st.slots ++ [none] } with
      | none => rfl
      | some a =>
        obtain ⟨a1, a2⟩ := a
        cases a1 with
        | none => rfl
        | some v =>
          simp only [Option.map_some, Option.bind_some, outMv]
          rw [← ih]
          congr 1
          · rw [hl]; rfl
          · rw [hl]
            simp only [RS.mv, RS.mk.injEq, and_true]
            rw [List.set_append_right _ _ (by omega), Nat.add_sub_cancel_left, List.map_set]
            rfl

/-! ### It answers -/

def T.fit : T → Prop
  | .name .. | .truth .. | .side .. => True
  | .int _ _ v => -9223372036854775808 ≤ v ∧ v ≤ 9223372036854775807
  | .bracket _ _ i => i.fit
  | .pair _ _ x y => x.fit ∧ y.fit
  | .call _ _ x y => x.fit ∧ y.fit
  | .binary _ _ _ x y => x.fit ∧ y.fit
  | .cond _ _ x y z => x.fit ∧ y.fit ∧ z.fit
  | .fn _ _ _ _ x => x.fit
  | .lett _ _ _ _ _ x y => x.fit ∧ y.fit

def OkE (N : Nat) (e : VEnv) : Prop := ∀ p ∈ e, p.2 < N

def OkV (N : Nat) : Val → Prop
  | .num _ | .truth _ | .side _ => True
  | .pair l r => OkV N l ∧ OkV N r
  | .clo _ _ bn _ body env => body.freeS (bn :: env.map (·.1)) = none ∧ body.fit ∧ OkE N env

theorem OkE.mono {N M : Nat} (h : N ≤ M) {e : VEnv} (k : OkE N e) : OkE M e := fun p hp => Nat.lt_of_lt_of_le (k p hp) h

theorem OkV.mono {N M : Nat} (h : N ≤ M) : ∀ {v : Val}, OkV N v → OkV M v
  | .num _, _ => trivial
  | .truth _, _ => trivial
  | .side _, _ => trivial
  | .pair _ _, k => ⟨OkV.mono h k.1, OkV.mono h k.2⟩
  | .clo _ _ _ _ _ _, k => ⟨k.1, k.2.1, k.2.2.mono h⟩

def OkS (st : RS) : Prop := ∀ v, some v ∈ st.slots → OkV st.slots.length v

structure OkOut (bud : Nat) (st : RS) (a : Option Val × RS) : Prop where
  slots : OkS a.2
  val : ∀ v, a.1 = some v → OkV a.2.slots.length v
  len : st.slots.length ≤ a.2.slots.length
  up : st.steps ≤ a.2.steps
  top : a.2.steps ≤ bud

theorem OkOut.trans {bud : Nat} {st st' : RS} {a : Option Val × RS} (h : st.slots.length ≤ st'.slots.length) (h2 : st.steps ≤ st'.steps) (k : OkOut bud st' a) : OkOut bud st a := ⟨k.slots, k.val, Nat.le_trans h k.len, Nat.le_trans h2 k.up, k.top⟩

end Go.Proofs.YtckhafpejefbbaaGreatDoor.Tw

/- What every tree of the parser keeps. -/
namespace Go.Proofs.YtckhafpejefbbaaGreatDoor.Tw
open Go

structure Makes (l : List UInt8) (P : T → Prop) : Prop where
  leaf : ∀ {t : Tok} {x : T}, leafS l t = some x → P x
  none : P (.name 0 0 [])
  bracket : ∀ {f t : Nat} {x : T}, P x → P (.bracket f t x)
  pair : ∀ {f t : Nat} {x y : T}, P x → P y → P (.pair f t x y)
  call : ∀ {f t : Nat} {x y : T}, P x → P y → P (.call f t x y)
  binary : ∀ {f t : Nat} {s : Int} {x y : T}, P x → P y → P (.binary f t s x y)
  cond : ∀ {f t : Nat} {x y z : T}, P x → P y → P z → P (.cond f t x y z)
  fn : ∀ {f t k : Nat} {n : List UInt8} {x : T}, P x → P (.fn f t n k x)
  lett : ∀ {f t k : Nat} {r : Bool} {n : List UInt8} {x y : T}, P x → P y → P (.lett f t r n k x y)

variable {l : List UInt8} {ts : List Tok}

structure PAll (l : List UInt8) (ts : List Tok) (P : T → Prop) (n : Nat) : Prop where
  expr : ∀ {s s' : PS} {r : T}, exprS l ts n s = some (r, s') → P r
  lett : ∀ {s s' : PS} {r : T}, letS l ts n s = some (r, s') → P r
  fn : ∀ {s s' : PS} {r : T}, funS l ts n s = some (r, s') → P r
  cond : ∀ {s s' : PS} {r : T}, condS l ts n s = some (r, s') → P r
  cmp : ∀ {s s' : PS} {r : T}, cmpS l ts n s = some (r, s') → P r
  sum : ∀ {s s' : PS} {r : T}, sumS l ts n s = some (r, s') → P r
  term : ∀ {s s' : PS} {r : T}, termS l ts n s = some (r, s') → P r
  part : ∀ {p : Part} {s s' : PS} {r : T}, partS l ts n p s = some (r, s') → P r
  chain : ∀ {p : Part} {g : List Int} {s s' : PS} {r : T}, chainS l ts n p g s = some (r, s') → P r
  chainFrom : ∀ {p : Part} {g : List Int} {a : T} {s s' : PS} {r : T}, P a → chainFromS l ts n p g a s = some (r, s') → P r
  call : ∀ {s s' : PS} {r : T}, callS l ts n s = some (r, s') → P r
  callFrom : ∀ {a : T} {s s' : PS} {r : T}, P a → callFromS l ts n a s = some (r, s') → P r
  atom : ∀ {s s' : PS} {r : T}, atomS l ts n s = some (r, s') → P r
  bracket : ∀ {s s' : PS} {r : T}, bracketS l ts n s = some (r, s') → P r

end Go.Proofs.YtckhafpejefbbaaGreatDoor.Tw

/- A text within a greater one: tokens and trees, read back from a parse that came out fine. -/
namespace Go.Proofs.YtckhafpejefbbaaGreatDoor.Tw
open Go

def shM (d : Nat) : Mv := ⟨fun p => d + p, fun q => d + q, fun _ v => v, fun _ x => x⟩

structure At (st : PS) (k d : Nat) : Prop where
  go : st.stuck = false
  next : st.next = k
  depth : st.depth = d

section
variable {l : List UInt8} {ts : List Tok} {st st' : PS} {k d : Nat} {u : Tok}

theorem At.tok (A : At st k d) (hu : ts[k]? = some u) : tokS ts st = some u := by
  unfold tokS
  rw [A.go, A.next]
  simpa using hu

theorem At.take (A : At st k d) (hu : ts[k]? = some u) {s : Int} {t : Tok} (h : takeS ts s st = some (t, st')) (hs : st'.stuck = false) (h0 : s ≠ 0) : t = u ∧ At st' (k + 1) d := by
  obtain ⟨h1, h2, rfl, _⟩ := takeS_fine h hs h0
  rw [A.tok hu] at h1
  cases h1
  exact ⟨rfl, hs, by simp [A.next], A.depth⟩

theorem At.begin (A : At st k d) (hu : ts[k]? = some u) {s : Int} {p : Nat} (h : beginS ts s st = some (p, st')) (hs : st'.stuck = false) (h0 : s ≠ 0) : p = u.fr ∧ At st' (k + 1) (d + 1) := by
  have d1 := (begin_deep h hs).1
  unfold beginS at h
  rw [if_neg d1, Option.bind_some] at h
  split at h
  · obtain ⟨⟨t1, s3⟩, h2, h⟩ := Option.bind_eq_some_iff.1 h
    cases h
    have A1 : At { st with depth := st.depth + 1 } k (d + 1) := ⟨A.go, A.next, by simp [A.depth]⟩
    obtain ⟨rfl, A2⟩ := A1.take hu h2 hs h0
    exact ⟨rfl, A2⟩
  · cases h

theorem At.no (A : At st k d) (hu : ts[k]? = some u) {x c : Int} (h : takeAnyS ts [x] st = some (c, st')) (hx : u.sort ≠ x) : c = 0 ∧ At st' k d := by
  rw [takeAnyS, A.tok hu, Option.bind_some, if_neg hx, takeAnyS] at h
  cases h
  exact ⟨rfl, A⟩

theorem At.yes (A : At st k d) (hu : ts[k]? = some u) {x c : Int} (h : takeAnyS ts [x] st = some (c, st')) (hs : st'.stuck = false) (hx : u.sort = x) (h0 : x ≠ 0) : c = x ∧ At st' (k + 1) d := by
  rw [takeAnyS, A.tok hu, Option.bind_some, if_pos hx] at h
  obtain ⟨⟨t1, s3⟩, h2, h⟩ := Option.bind_eq_some_iff.1 h
  cases h
  obtain ⟨rfl, A2⟩ := A.take hu h2 hs h0
  exact ⟨hx, A2⟩

theorem At.binder (A : At st k d) (hu : ts[k]? = some u) {x : List UInt8} {p : Nat} (h : binderS l ts st = some ((x, p), st')) (hs : st'.stuck = false) : x = piece l u.fr u.to ∧ p = u.fr ∧ At st' (k + 1) d := by
  unfold binderS at h
  obtain ⟨⟨t, s3⟩, h1, h⟩ := Option.bind_eq_some_iff.1 h
  split at h
  · cases h
    obtain ⟨rfl, A2⟩ := A.take hu h1 hs (by decide)
    exact ⟨rfl, rfl, A2⟩
  · cases h

theorem At.end (A : At st k (d + 1)) (h : endS st = some st') : At st' k d := by
  unfold endS at h
  rw [if_neg (by rw [A.depth]; omega)] at h
  cases h
  exact ⟨A.go, A.next, by simp [A.depth]⟩

theorem At.leaf (A : At st k d) (hu : ts[k]? = some u) {n : Nat} {a : T} (h : atomS l ts n st = some (a, st')) (hs : st'.stuck = false) (h16 : u.sort ≠ 16) (hb : beginsAtom u.sort = true) (h0 : u.sort ≠ 0) : leafS l u = some a ∧ At st' (k + 1) d := by
  cases n with
  | zero => simp [atomS] at h
  | succ n =>
    rw [atomS, A.tok hu, Option.bind_some, if_neg h16, if_pos hb] at h
    simp only [Option.bind_eq_some_iff, Option.some.injEq, Prod.mk.injEq, Prod.exists] at h
    obtain ⟨c, t3, h2, x, h3, rfl, rfl⟩ := h
    exact ⟨h3, (A.take hu h2 hs h0).2⟩

theorem At.bracket (A : At st k d) (hu : ts[k]? = some u) {n : Nat} {a : T} (h : atomS l ts n st = some (a, st')) (h16 : u.sort = 16) : ∃ n', bracketS l ts n' st = some (a, st') := by
  cases n with
  | zero => simp [atomS] at h
  | succ n =>
    rw [atomS, A.tok hu, Option.bind_some, if_pos h16] at h
    exact ⟨n, h⟩

end

theorem parse_fine {l : List UInt8} {body : List Tok} {e1 : Tok} (hb : ∀ t ∈ body, t.sort ≠ 0) {n : Nat} {t : T} (h : parseS l (body ++ [e1]) n = some (.ok t)) : ∃ s, exprS l (body ++ [e1]) n ⟨0, 0, false, 0⟩ = some (t, s) ∧ s.stuck = false ∧ (s.next ≤ body.length → s.next = body.length) := by
  unfold parseS at h
  obtain ⟨⟨x, s1⟩, hx, h⟩ := Option.bind_eq_some_iff.1 h
  obtain ⟨⟨k, s2⟩, hk, h⟩ := Option.bind_eq_some_iff.1 h
  simp only [Option.some.injEq] at h hk
  have hs2 : s2.stuck = false := by
    cases hq : s2.stuck
    · rfl
    · rw [hq] at h; simp at h
  rw [hs2] at h
  simp only [Bool.false_eq_true, if_false, Except.ok.injEq] at h
  subst h
  have hs1 := (takeS_mild hk).1 hs2
  refine ⟨s1, hx, hs1, fun hle => ?_⟩
  rcases Nat.lt_or_ge s1.next body.length with hlt | hge
  · exfalso
    have ht : tokS (body ++ [e1]) s1 = some body[s1.next] := by
      unfold tokS
      rw [hs1]
      simp [List.getElem?_append_left hlt, List.getElem?_eq_getElem hlt]
    unfold takeS at hk
    rw [ht, Option.bind_some, if_neg (hb _ (List.getElem_mem hlt))] at hk
    obtain ⟨s9, q9, hk⟩ := Option.bind_eq_some_iff.1 hk
    cases hk
    rw [(failS_stuck q9).1] at hs2
    cases hs2
  · omega

theorem inner {x y z : List UInt8} {body : List Tok} {fp : Nat} {t : T} (hL : Lex 0 y body) (hp : parseS y (body ++ [⟨0, y.length, y.length⟩]) fp = some (.ok t)) {e2 : Tok} (h2 : stopSort e2.sort = true) {pre post ts : List Tok} (hts : ts = pre ++ (body.map (Tok.re (shM x.length)) ++ e2 :: post)) (hf : body.length + pre.length ≤ 300)
    {n : Nat} {st st' : PS} {r : T} {dd : Nat} (A : At st pre.length dd) (h : exprS (x ++ (y ++ z)) ts n st = some (r, st')) (hs : st'.stuck = false) : r = t.re (shM x.length) ∧ At st' (pre.length + body.length) dd := by
  subst hts
  have hg := hL.toks
  have E : Emb y (x ++ (y ++ z)) (body ++ [⟨0, y.length, y.length⟩]) (pre ++ (body.map (Tok.re (shM x.length)) ++ e2 :: post)) pre.length (shM x.length) body.length := by
    refine Emb.of_map (fun t ht => ?_) rfl h2 pre post hf
    have k := hg.1 t ht
    have h1 := k.high
    have h2 := k.lt
    simp only [Nat.zero_add] at h1
    have e : piece (x ++ (y ++ z)) ((shM x.length).fr t.fr) ((shM x.length).to t.to) = piece y t.fr t.to := piece_mid x y z h1
    exact ⟨k.sort, ⟨by simp only [shM]; omega, by simp only [shM, List.length_append]; omega⟩, fun _ v hv => by rw [e]; exact hv, fun _ => e⟩
  obtain ⟨s1, hx, hs1, hN⟩ := parse_fine (fun t ht => (hg.1 t ht).sort) hp
  have S0 : Sim pre.length dd body.length ⟨0, 0, false, 0⟩ st := ⟨rfl, A.go, by rw [A.next]; simp, by rw [A.depth]; simp, Nat.zero_le _⟩
  obtain ⟨e, S⟩ := (two_all E fp).expr S0 hx hs1 h hs
  have hd := ((mild_all y (body ++ [⟨0, y.length, y.length⟩]) fp).expr hx).2
  refine ⟨e, S.k2, ?_, ?_⟩
  · rw [S.nx, hN S.le, Nat.add_comm]
  · rw [S.dp, hd]
    simp

end Go.Proofs.YtckhafpejefbbaaGreatDoor.Tw

/- General's four texts: their tokens and their trees. -/
namespace Go.Proofs.YtckhafpejefbbaaGreatDoor.Tw
open Go

def zz9 : List UInt8 := [122, 122, 57]

theorem Lex.sp {off : Nat} {X : List UInt8} {ts : List Tok} (h : Lex (off + 1) X ts) : Lex off (32 :: X) ts := .gap (by simp) (by simp [gapL, headI]) (by
  have : gapL (32 :: X) = 1 := by simp [gapL, headI]
  rw [this]
  exact h)

theorem Lex.br {off : Nat} {X : List UInt8} {ts : List Tok} (h : Lex (off + 1) X ts) : Lex off (40 :: X) (⟨16, off, off + 1⟩ :: ts) := by
  have e : firstL (40 :: X) = (16, 1) := by
    unfold firstL
    have hh : headI (40 :: X) = 40 := rfl
    rw [hh, if_neg (by decide), if_neg (by decide), if_neg (by cases X <;> simp)]
    decide
  have := Lex.tok (off := off) (m := 40 :: X) (ts := ts) (by simp) (by simp [gapL, headI]) (by rw [e]; decide) (by rw [e]; exact h)
  rw [e] at this
  exact this

section
variable {s : List UInt8} {body : List Tok} {fp : Nat} {t : T} (hL : Lex 0 s body) (hp : parseS s (body ++ [⟨0, s.length, s.length⟩]) fp = some (.ok t)) (hl : s.length ≤ 100)
include hL

include hp hl

end

end Go.Proofs.YtckhafpejefbbaaGreatDoor.Tw

/- General's four texts: types and runs. -/
namespace Go.Proofs.YtckhafpejefbbaaGreatDoor.Tw
open Go

/-! ### Types of moved trees -/

def TEn.re (m : Mv) : TEn → TEn
  | .nil => .nil
  | .fix n a o => .fix n a (o.re m)
  | .dfn n t o => .dfn n (t.re m) (o.re m)

theorem TEn.look_re (m : Mv) (x : List UInt8) : ∀ e : TEn, (e.re m).look x = (e.look x).map (fun | .inl r => .inl r | .inr (t, o) => .inr (t.re m, o.re m))
  | .nil => rfl
  | .fix n a o => by
    simp only [TEn.re, TEn.look]
    split
    · rfl
    · exact TEn.look_re m x o
  | .dfn n t o => by
    simp only [TEn.re, TEn.look]
    split
    · rfl
    · exact TEn.look_re m x o

mutual
theorem Typ.re (m : Mv) (hn : ∀ f x, m.nm f x = x) : ∀ {t : T} {e : TEn} {a : Ty}, Typ t e a → Typ (t.re m) (e.re m) a
  | _, _, _, .name h => by simp only [T.re, hn]; exact .name (by rw [TEn.look_re, h]; rfl)
  | _, _, _, .use h hd => by simp only [T.re, hn]; exact .use (by rw [TEn.look_re, h]; rfl) (DTyp.re m hn hd)
  | _, _, _, .int => .int
  | _, _, _, .truth => .truth
  | _, _, _, .side => .side
  | _, _, _, .bracket h => .bracket (Typ.re m hn h)
  | _, _, _, .pair hl hr => .pair (Typ.re m hn hl) (Typ.re m hn hr)
  | _, _, _, .call hl hr => .call (Typ.re m hn hl) (Typ.re m hn hr)
  | _, _, _, .binary hl hr => .binary (Typ.re m hn hl) (Typ.re m hn hr)
  | _, _, _, .cond hc hl hr => .cond (Typ.re m hn hc) (Typ.re m hn hl) (Typ.re m hn hr)
  | _, _, _, .fn h => by simp only [T.re, hn]; exact .fn (Typ.re m hn h)
  | _, _, _, .lett hd hb => by have h1 := DTyp.re m hn hd; have h2 := Typ.re m hn hb; simp only [T.re, TEn.re, hn] at h1 h2 ⊢; exact .lett h1 h2
theorem DTyp.re (m : Mv) (hn : ∀ f x, m.nm f x = x) : ∀ {t : T} {e : TEn} {a : Ty}, DTyp t e a → DTyp (t.re m) (e.re m) a
  | _, _, _, .plain h => by simp only [T.re, hn]; exact .plain (Typ.re m hn h)
  | _, _, _, .recu h => by simp only [T.re, hn]; exact .recu (Typ.re m hn h)
end

inductive GTree (t : T) : Nat → T → Prop
  | lett {f t0 b f1 t1 d : Nat} : GTree t 0 (.lett f t0 false zz9 b (t.re (shM d)) (.name f1 t1 zz9))
  | fst {f1 t1 f2 t2 f3 t3 f4 t4 f5 t5 d : Nat} : GTree t 1 (.call f1 t1 (.side f2 t2 false) (.pair f3 t3 (.bracket f4 t4 (t.re (shM d))) (.int f5 t5 1)))
  | cond {f1 t1 f2 t2 f3 t3 d d' : Nat} : GTree t 2 (.cond f1 t1 (.truth f2 t2 true) (t.re (shM d)) (.bracket f3 t3 (t.re (shM d'))))
  | snd {f1 t1 f2 t2 f3 t3 f4 t4 f5 t5 f6 t6 f7 t7 b7 f8 t8 f9 t9 d : Nat} : GTree t 3 (.call f1 t1 (.side f2 t2 true) (.pair f3 t3 (.int f4 t4 1) (.call f5 t5 (.bracket f6 t6 (.fn f7 t7 zz9 b7 (.name f8 t8 zz9))) (.bracket f9 t9 (t.re (shM d))))))

/-! ### Names -/

theorem freeS_re (m : Mv) (hn : ∀ f x, m.nm f x = x) : ∀ (t : T) (env : List (List UInt8)), (t.re m).freeS env = none ↔ t.freeS env = none
  | .name fr to x, env => by
    simp only [T.re, T.freeS, hn]
    split <;> simp
  | .int .., _ => by simp [T.re, T.freeS]
  | .truth .., _ => by simp [T.re, T.freeS]
  | .side .., _ => by simp [T.re, T.freeS]
  | .bracket _ _ i, env => freeS_re m hn i env
  | .pair _ _ x y, env => by simp only [T.re, T.freeS, Option.or_eq_none_iff]; rw [freeS_re m hn x, freeS_re m hn y]
  | .call _ _ x y, env => by simp only [T.re, T.freeS, Option.or_eq_none_iff]; rw [freeS_re m hn x, freeS_re m hn y]
  | .binary _ _ _ x y, env => by simp only [T.re, T.freeS, Option.or_eq_none_iff]; rw [freeS_re m hn x, freeS_re m hn y]
  | .cond _ _ x y z, env => by simp only [T.re, T.freeS, Option.or_eq_none_iff]; rw [freeS_re m hn x, freeS_re m hn y, freeS_re m hn z]
  | .fn _ _ n _ x, env => by simp only [T.re, T.freeS, hn]; exact freeS_re m hn x (n :: env)
  | .lett _ _ r n _ x y, env => by simp only [T.re, T.freeS, hn, Option.or_eq_none_iff]; rw [freeS_re m hn x, freeS_re m hn y]

theorem GTree.free {t t' : T} {i : Nat} (h : GTree t i t') (hf : t.freeS [] = none) : t'.freeS [] = none := by
  have k : ∀ d, (t.re (shM d)).freeS [] = none := fun d => (freeS_re _ (fun _ _ => rfl) t []).2 hf
  cases h <;> simp [T.freeS, k]

/-! ### Runs -/

theorem eval_sh (bud n d : Nat) (t : T) : evalS bud n (t.re (shM d)) [] ⟨[], 0, 0⟩ = (evalS bud n t [] ⟨[], 0, 0⟩).map (outMv (shM d) []) := evalS_mv bud (shM d) (fun _ _ => rfl) (fun _ _ => rfl) [] n t [] ⟨[], 0, 0⟩

theorem eval_sh1 (bud n d : Nat) (t : T) : evalS bud n (t.re (shM d)) [] ⟨[none], 0, 0⟩ = (evalS bud n t [] ⟨[], 0, 0⟩).map (outMv (shM d) [none]) := evalS_mv bud (shM d) (fun _ _ => rfl) (fun _ _ => rfl) [none] n t [] ⟨[], 0, 0⟩

theorem GTree.run {t t' : T} {i : Nat} (h : GTree t i t') (hi : i < 3) {n bud : Nat} {r : Int × Nat × List UInt8} (hr : runS n t bud = some r) : runS (n + 3) t' bud = some r := by
  unfold runS at hr ⊢
  obtain ⟨⟨a1, a2⟩, h1, hr⟩ := Option.bind_eq_some_iff.1 hr
  have h1' := evalS_more (show n ≤ n + 1 by omega) h1
  have h2' := evalS_more (show n ≤ n + 2 by omega) h1
  cases h with
  | lett =>
    rw [evalS]
    simp only [Bool.false_eq_true, if_false, List.nil_append, List.length_nil]
    rw [eval_sh1, h2']
    simp only [Option.map_some, Option.bind_some, outMv]
    cases a1 with
    | none => exact hr
    | some v =>
      simp only [Option.map_some]
      rw [evalS]
      have hl : lookV [(zz9, 0)] zz9 = some 0 := by simp [lookV]
      rw [hl]
      simp only [Option.bind_some, RS.mv, List.cons_append, List.set_cons_zero, List.getElem?_cons_zero]
      simp only [Option.some.injEq] at hr
      rw [← hr, writeV_mv]
  | fst =>
    rw [evalS_call]
    unfold bothS
    rw [show evalS bud (n + 2) (.side _ _ false) [] ⟨[], 0, 0⟩ = some (some (.side false), ⟨[], 0, 0⟩) from rfl]
    simp only [Option.bind_some]
    rw [evalS_pair]
    unfold bothS
    cases n with
    | zero => simp [evalS] at h1
    | succ n =>
    rw [evalS, eval_sh, h1]
    simp only [Option.map_some, Option.bind_some, outMv]
    cases a1 with
    | none => exact hr
    | some v =>
      simp only [Option.map_some]
      rw [evalS, if_pos (by decide)]
      simp only [Option.bind_some, applyS, sideS, Bool.false_eq_true, if_false]
      simp only [Option.some.injEq] at hr
      rw [← hr, writeV_mv]
      rfl
  | cond =>
    rw [evalS, evalS]
    simp only [Option.bind_some, if_true]
    rw [eval_sh, h2']
    simp only [Option.map_some, Option.bind_some, outMv]
    cases a1 with
    | none => exact hr
    | some v =>
      simp only [Option.map_some]
      simp only [Option.some.injEq] at hr
      rw [← hr, writeV_mv]
      rfl
  | snd => omega

end Go.Proofs.YtckhafpejefbbaaGreatDoor.Tw

/- What Open answers of General's texts. -/
namespace Go.Proofs.YtckhafpejefbbaaGreatDoor.Tw
open Go

theorem tree_parts {fo : Nat} {t t1 : T} {sh : List UInt8} (h : treeS fo t = some (.fine t1 sh)) : t1 = t ∧ t.freeS [] = none ∧ (∃ w, weightS t .nil = some w ∧ w ≤ 2000) ∧ ofS fo t = some (some sh) := by
  unfold treeS at h
  cases hf : t.freeS [] with
  | some p => rw [hf] at h; cases h
  | none =>
    rw [hf] at h
    simp only [Option.bind_eq_some_iff] at h
    obtain ⟨k, hk, h⟩ := h
    split at h
    · cases h
    · rename_i hl
      simp only [Option.bind_eq_some_iff] at h
      obtain ⟨o, ho, h⟩ := h
      cases o with
      | none => cases h
      | some s => cases h; exact ⟨rfl, rfl, ⟨k, hk, by omega⟩, ho⟩

end Go.Proofs.YtckhafpejefbbaaGreatDoor.Tw

/- Trees that differ in the names of their binders and in places alone. -/
namespace Go.Proofs.YtckhafpejefbbaaGreatDoor.Tw
open Go

abbrev AE := List (List UInt8 × List UInt8)

def lookA : AE → List UInt8 → List UInt8 → Prop
  | [], x, y => x = y
  | (a, b) :: E, x, y => (a = x ∧ b = y) ∨ (a ≠ x ∧ b ≠ y ∧ lookA E x y)

inductive Al : AE → T → T → Prop
  | name {E : AE} {f t f' t' : Nat} {x y : List UInt8} (h : lookA E x y) : Al E (.name f t x) (.name f' t' y)
  | int {E : AE} {f t f' t' : Nat} {v : Int} : Al E (.int f t v) (.int f' t' v)
  | truth {E : AE} {f t f' t' : Nat} {v : Bool} : Al E (.truth f t v) (.truth f' t' v)
  | side {E : AE} {f t f' t' : Nat} {v : Bool} : Al E (.side f t v) (.side f' t' v)
  | bracket {E : AE} {f t f' t' : Nat} {i i' : T} (h : Al E i i') : Al E (.bracket f t i) (.bracket f' t' i')
  | pair {E : AE} {f t f' t' : Nat} {x y x' y' : T} (h : Al E x x') (k : Al E y y') : Al E (.pair f t x y) (.pair f' t' x' y')
  | call {E : AE} {f t f' t' : Nat} {x y x' y' : T} (h : Al E x x') (k : Al E y y') : Al E (.call f t x y) (.call f' t' x' y')
  | binary {E : AE} {f t f' t' : Nat} {s : Int} {x y x' y' : T} (h : Al E x x') (k : Al E y y') : Al E (.binary f t s x y) (.binary f' t' s x' y')
  | cond {E : AE} {f t f' t' : Nat} {x y z x' y' z' : T} (h : Al E x x') (k : Al E y y') (j : Al E z z') : Al E (.cond f t x y z) (.cond f' t' x' y' z')
  | fn {E : AE} {f t f' t' b b' : Nat} {n n' : List UInt8} {x x' : T} (h : Al ((n, n') :: E) x x') : Al E (.fn f t n b x) (.fn f' t' n' b' x')
  | lett {E : AE} {f t f' t' b b' : Nat} {r : Bool} {n n' : List UInt8} {x x' y y' : T} (h : Al (if r then (n, n') :: E else E) x x') (k : Al ((n, n') :: E) y y') : Al E (.lett f t r n b x y) (.lett f' t' r n' b' x' y')

/-! ### Names -/

theorem lookA_contains {x y : List UInt8} : ∀ {E : AE}, lookA E x y → (E.map (·.1)).contains x = (E.map (·.2)).contains y
  | [], _ => rfl
  | (a, b) :: E, h => by
    simp only [List.map_cons, List.contains_cons]
    rcases h with ⟨rfl, rfl⟩ | ⟨h1, h2, h3⟩
    · simp
    · rw [lookA_contains h3]
      have e1 : (x == a) = false := by simpa using fun e => h1 e.symm
      have e2 : (y == b) = false := by simpa using fun e => h2 e.symm
      rw [e1, e2]

theorem Al.free {E : AE} {t t' : T} (h : Al E t t') : t.freeS (E.map (·.1)) = none ↔ t'.freeS (E.map (·.2)) = none := by
  induction h with
  | name h => simp only [T.freeS, lookA_contains h]; split <;> simp
  | int => simp [T.freeS]
  | truth => simp [T.freeS]
  | side => simp [T.freeS]
  | bracket _ ih => exact ih
  | pair _ _ ih1 ih2 => simp only [T.freeS, Option.or_eq_none_iff]; rw [ih1, ih2]
  | call _ _ ih1 ih2 => simp only [T.freeS, Option.or_eq_none_iff]; rw [ih1, ih2]
  | binary _ _ ih1 ih2 => simp only [T.freeS, Option.or_eq_none_iff]; rw [ih1, ih2]
  | cond _ _ _ ih1 ih2 ih3 => simp only [T.freeS, Option.or_eq_none_iff]; rw [ih1, ih2, ih3]
  | fn _ ih => simpa [T.freeS] using ih
  | @lett E f t f' t' b b' r n n' x x' y y' _ _ ih1 ih2 =>
    simp only [T.freeS, Option.or_eq_none_iff]
    have : ∀ (p : List UInt8 × List UInt8 → List UInt8), (if r then (n, n') :: E else E).map p = if r then p (n, n') :: E.map p else E.map p := fun p => by cases r <;> rfl
    rw [this, this] at ih1
    rw [ih1]
    simp only [List.map_cons] at ih2
    rw [ih2]

theorem Al.fit {E : AE} {t t' : T} (h : Al E t t') : t.fit ↔ t'.fit := by
  induction h with
  | name h => exact Iff.rfl
  | int => exact Iff.rfl
  | truth => exact Iff.rfl
  | side => exact Iff.rfl
  | bracket _ ih => exact ih
  | pair _ _ ih1 ih2 => simp only [T.fit]; rw [ih1, ih2]
  | call _ _ ih1 ih2 => simp only [T.fit]; rw [ih1, ih2]
  | binary _ _ ih1 ih2 => simp only [T.fit]; rw [ih1, ih2]
  | cond _ _ _ ih1 ih2 ih3 => simp only [T.fit]; rw [ih1, ih2, ih3]
  | fn _ ih => exact ih
  | lett _ _ ih1 ih2 => simp only [T.fit]; rw [ih1, ih2]

/-! ### Weights -/

inductive WRel : AE → WEn → WEn → Prop
  | nil : WRel [] .nil .nil
  | cons {E : AE} {a b : List UInt8} {k : Nat} {o o' : WEn} (h : WRel E o o') : WRel ((a, b) :: E) (.cons a k o) (.cons b k o')

theorem WRel.look {E : AE} {e e' : WEn} (h : WRel E e e') {x y : List UInt8} (hl : lookA E x y) : e.look x = e'.look y := by
  induction h with
  | nil => rfl
  | cons _ ih =>
    simp only [WEn.look]
    rcases hl with ⟨h1, h2⟩ | ⟨h1, h2, h3⟩
    · rw [if_pos h1, if_pos h2]
    · rw [if_neg h1, if_neg h2]
      exact ih h3

theorem Al.weight {E : AE} {t t' : T} (h : Al E t t') : ∀ {e e' : WEn}, WRel E e e' → weightS t e = weightS t' e' := by
  induction h with
  | name h => intro e e' hr; simp only [weightS]; rw [hr.look h]
  | int => intro e e' hr; rfl
  | truth => intro e e' hr; rfl
  | side => intro e e' hr; rfl
  | bracket _ ih => intro e e' hr; simp only [weightS]; rw [ih hr]
  | pair _ _ ih1 ih2 => intro e e' hr; simp only [weightS]; rw [ih1 hr, ih2 hr]
  | call _ _ ih1 ih2 => intro e e' hr; simp only [weightS]; rw [ih1 hr, ih2 hr]
  | binary _ _ ih1 ih2 => intro e e' hr; simp only [weightS]; rw [ih1 hr, ih2 hr]
  | cond _ _ _ ih1 ih2 ih3 => intro e e' hr; simp only [weightS]; rw [ih1 hr, ih2 hr, ih3 hr]
  | fn _ ih => intro e e' hr; simp only [weightS]; rw [ih (.cons hr)]
  | @lett E f t f' t' b b' r n n' x x' y y' _ _ ih1 ih2 =>
    intro e e' hr
    simp only [weightS]
    have : weightS x (if r then .cons n 1 e else e) = weightS x' (if r then .cons n' 1 e' else e') := by
      cases r with
      | true => exact ih1 (.cons hr)
      | false => exact ih1 hr
    rw [this]
    cases weightS x' (if r then .cons n' 1 e' else e') with
    | none => rfl
    | some a => simp only [Option.bind_some]; rw [ih2 (.cons hr)]

/-! ### Types -/

inductive ERel : AE → En → En → Prop
  | nil : ERel [] .nil .nil
  | fix {E : AE} {a b : List UInt8} {r : Nat} {o o' : En} (h : ERel E o o') : ERel ((a, b) :: E) (.fix a r o) (.fix b r o')
  | dfn {E : AE} {a b : List UInt8} {t t' : T} {o o' : En} (h : ERel E o o') (k : Al E t t') : ERel ((a, b) :: E) (.dfn a t o) (.dfn b t' o')

theorem ERel.look {E : AE} {e e' : En} (h : ERel E e e') {x y : List UInt8} (hl : lookA E x y) :
    (e.look x = none ∧ e'.look y = none) ∨ (∃ r, e.look x = some (.inl r) ∧ e'.look y = some (.inl r)) ∨ ∃ t t' o o' E', e.look x = some (.inr (t, o)) ∧ e'.look y = some (.inr (t', o')) ∧ ERel E' o o' ∧ Al E' t t' := by
  induction h with
  | nil => exact .inl ⟨rfl, rfl⟩
  | @fix E a b r o o' _ ih =>
    simp only [En.look]
    rcases hl with ⟨h1, h2⟩ | ⟨h1, h2, h3⟩
    · rw [if_pos h1, if_pos h2]
      exact .inr (.inl ⟨r, rfl, rfl⟩)
    · rw [if_neg h1, if_neg h2]
      exact ih h3
  | @dfn E a b t t' o o' h k ih =>
    simp only [En.look]
    rcases hl with ⟨h1, h2⟩ | ⟨h1, h2, h3⟩
    · rw [if_pos h1, if_pos h2]
      exact .inr (.inr ⟨t, t', o, o', E, rfl, rfl, h, k⟩)
    · rw [if_neg h1, if_neg h2]
      exact ih h3

theorem Al.infer : ∀ (n : Nat), (∀ {E : AE} {t t' : T} {e e' : En} (st : SS), Al E t t' → ERel E e e' → inferS n t e st = inferS n t' e' st) ∧ (∀ {E : AE} {t t' : T} {e e' : En} (st : SS), Al E t t' → ERel E e e' → defS n t e st = defS n t' e' st)
  | 0 => ⟨fun st h _ => by cases h <;> rfl, fun st h _ => by cases h <;> rfl⟩
  | n + 1 => by
    obtain ⟨ih, ihd⟩ := Al.infer n
    constructor
    · intro E t t' e e' st h hr
      have h0 := h
      cases h with
      | name h =>
        simp only [inferS]
        rcases hr.look h with ⟨q1, q2⟩ | ⟨r, q1, q2⟩ | ⟨t, t', o, o', E', q1, q2, q3, q4⟩
        · rw [q1, q2]
        · rw [q1, q2]
        · rw [q1, q2]
          exact ihd st q4 q3
      | int => rfl
      | truth => rfl
      | side => rfl
      | bracket h => simp only [inferS]; exact ih st h hr
      | pair h k =>
        simp only [inferS]
        rw [ih st h hr]
        refine Option.bind_congr fun a _ => ?_
        rw [ih a.2 k hr]
      | call h k =>
        simp only [inferS]
        rw [ih st h hr]
        refine Option.bind_congr fun a _ => ?_
        rw [ih a.2 k hr]
      | binary h k =>
        simp only [inferS]
        rw [ih st h hr]
        refine Option.bind_congr fun a _ => ?_
        refine Option.bind_congr fun b _ => ?_
        rw [ih b k hr]
      | cond h k j =>
        simp only [inferS]
        rw [ih st h hr]
        refine Option.bind_congr fun a _ => ?_
        refine Option.bind_congr fun b _ => ?_
        rw [ih b k hr]
        refine Option.bind_congr fun c _ => ?_
        rw [ih c.2 j hr]
      | fn h =>
        simp only [inferS]
        refine Option.bind_congr fun a _ => ?_
        rw [ih a.2 h (.fix hr)]
      | lett h k =>
        simp only [inferS]
        rw [ihd st h0 hr]
        refine Option.bind_congr fun a _ => ?_
        exact ih a.2 k (.dfn hr h0)
    · intro E t t' e e' st h hr
      cases h with
      | @lett _ _ _ _ _ _ _ r _ _ _ _ _ _ h k =>
        cases r with
        | false => simp only [defS]; exact ih st h hr
        | true =>
          simp only [defS]
          refine Option.bind_congr fun a _ => ?_
          rw [ih a.2 h (.fix hr)]
      | _ => rfl

theorem Al.of {t t' : T} (h : Al [] t t') (n : Nat) : ofS n t = ofS n t' := by
  unfold ofS
  rw [(Al.infer n).1 _ h .nil]

/-! ### Runs -/

inductive VERel : AE → VEnv → VEnv → Prop
  | nil : VERel [] [] []
  | cons {E : AE} {a b : List UInt8} {k : Nat} {o o' : VEnv} (h : VERel E o o') : VERel ((a, b) :: E) ((a, k) :: o) ((b, k) :: o')

theorem VERel.look {E : AE} {e e' : VEnv} (h : VERel E e e') {x y : List UInt8} (hl : lookA E x y) : lookV e x = lookV e' y := by
  induction h with
  | nil => rfl
  | cons _ ih =>
    simp only [lookV]
    rcases hl with ⟨h1, h2⟩ | ⟨h1, h2, h3⟩
    · rw [if_pos h1, if_pos h2]
    · rw [if_neg h1, if_neg h2]
      exact ih h3

inductive VR : Val → Val → Prop
  | num {n : Int} : VR (.num n) (.num n)
  | truth {b : Bool} : VR (.truth b) (.truth b)
  | side {b : Bool} : VR (.side b) (.side b)
  | pair {l r l' r' : Val} (h : VR l l') (k : VR r r') : VR (.pair l r) (.pair l' r')
  | clo {fr to fr' to' bat bat' : Nat} {n n' : List UInt8} {b b' : T} {e e' : VEnv} {E : AE} (h : VERel E e e') (k : Al ((n, n') :: E) b b') : VR (.clo fr to n bat b e) (.clo fr' to' n' bat' b' e')

inductive OR : Option Val → Option Val → Prop
  | none : OR none none
  | some {v v' : Val} (h : VR v v') : OR (some v) (some v')

structure SR (st st' : RS) : Prop where
  len : st.slots.length = st'.slots.length
  get : ∀ (i : Nat) (o : Option Val), st.slots[i]? = some o → ∃ o', st'.slots[i]? = some o' ∧ OR o o'
  steps : st.steps = st'.steps
  fin : st.fin = st'.fin

theorem SR.push {st st' : RS} (h : SR st st') {o o' : Option Val} (ho : OR o o') (k : Nat) : SR { st with slots := st.slots ++ [o], steps := k } { st' with slots := st'.slots ++ [o'], steps := k } := by
  refine ⟨by simp [h.len], fun i x hx => ?_, rfl, h.fin⟩
  simp only at hx ⊢
  rcases Nat.lt_trichotomy i st.slots.length with hi | hi | hi
  · rw [List.getElem?_append_left hi] at hx
    obtain ⟨o', h1, h2⟩ := h.get i x hx
    exact ⟨o', by rw [List.getElem?_append_left (by rw [← h.len]; exact hi)]; exact h1, h2⟩
  · subst hi
    rw [List.getElem?_append_right (Nat.le_refl _)] at hx
    simp only [Nat.sub_self, List.getElem?_cons_zero, Option.some.injEq] at hx
    subst hx
    exact ⟨o', by rw [h.len, List.getElem?_append_right (Nat.le_refl _)]; simp, ho⟩
  · rw [List.getElem?_eq_none (by simp; omega)] at hx
    cases hx

theorem SR.set {st st' : RS} (h : SR st st') {o o' : Option Val} (ho : OR o o') (j : Nat) : SR { st with slots := st.slots.set j o } { st' with slots := st'.slots.set j o' } := by
  refine ⟨by simp [h.len], fun i x hx => ?_, h.steps, h.fin⟩
  simp only [List.getElem?_set] at hx ⊢
  split at hx
  · rename_i hij
    split at hx
    · rename_i hlt
      cases hx
      rw [if_pos hij, if_pos (by rw [← h.len]; exact hlt)]
      exact ⟨o', rfl, ho⟩
    · cases hx
  · rename_i hij
    rw [if_neg hij]
    exact h.get i x hx

theorem SR.fin' {st st' : RS} (h : SR st st') (f : Int) : SR { st with fin := f } { st' with fin := f } := ⟨h.len, h.get, h.steps, rfl⟩

theorem VR.asNum {v v' : Val} (h : VR v v') : asNum v = asNum v' := by cases h <;> rfl

theorem VR.write {v v' : Val} (h : VR v v') : ∀ acc, writeV v acc = writeV v' acc := by
  induction h with
  | num => intro acc; rfl
  | truth => intro acc; rfl
  | side => intro acc; rfl
  | pair _ _ ih1 ih2 => intro acc; simp only [writeV]; rw [ih1, ih2]
  | clo => intro acc; rfl

theorem VR.isTrue {v v' : Val} (h : VR v v') : v = .truth true ↔ v' = .truth true := by cases h <;> simp

def Same (a a' : Option (Option Val × RS)) : Prop := ∀ r, a = some r → ∃ r', a' = some r' ∧ OR r.1 r'.1 ∧ SR r.2 r'.2

theorem reckon_same (s a b : Int) {st st' : RS} (h : SR st st') : OR (reckonS s a b st).1 (reckonS s a b st').1 ∧ SR (reckonS s a b st).2 (reckonS s a b st').2 := by
  unfold reckonS
  split
  · exact ⟨.some .num, h⟩
  split
  · exact ⟨.some .num, h⟩
  split
  · exact ⟨.some .num, h⟩
  split
  · exact ⟨.some .truth, h⟩
  split
  · exact ⟨.some .truth, h⟩
  split
  · exact ⟨.none, h.fin' 1⟩
  · exact ⟨.some .num, h⟩

theorem Al.eval (bud : Nat) : ∀ (n : Nat) {E : AE} {t t' : T} {e e' : VEnv} {st st' : RS}, Al E t t' → VERel E e e' → SR st st' → Same (evalS bud n t e st) (evalS bud n t' e' st')
  | 0, _, _, _, _, _, _, _, h, _, _ => by intro r hr; cases h <;> cases hr
  | n + 1, E, t, t', e, e', st, st', h, hE, hS => by
    have both : ∀ {x y x' y' : T}, Al E x x' → Al E y y' → ∀ c, bothS bud n x y e st = some c → ∃ c', bothS bud n x' y' e' st' = some c' ∧ SR c.2 c'.2 ∧ ((c.1 = none ∧ c'.1 = none) ∨ ∃ u v u' v', c.1 = some (u, v) ∧ c'.1 = some (u', v') ∧ VR u u' ∧ VR v v') := by
      intro x y x' y' h k c hc
      unfold bothS at hc ⊢
      obtain ⟨⟨a1, a2⟩, h1, hc⟩ := Option.bind_eq_some_iff.1 hc
      obtain ⟨⟨b1, b2⟩, g1, o1, s1⟩ := Al.eval bud n h hE hS _ h1
      rw [g1]
      simp only [Option.bind_some] at hc ⊢
      cases o1 with
      | none =>
        cases hc
        exact ⟨_, rfl, s1, .inl ⟨rfl, rfl⟩⟩
      | some v1 =>
        simp only at hc ⊢
        obtain ⟨⟨a3, a4⟩, h2, hc⟩ := Option.bind_eq_some_iff.1 hc
        obtain ⟨⟨b3, b4⟩, g2, o2, s2⟩ := Al.eval bud n k hE s1 _ h2
        rw [g2]
        simp only [Option.bind_some] at hc ⊢
        cases o2 with
        | none =>
          cases hc
          exact ⟨_, rfl, s2, .inl ⟨rfl, rfl⟩⟩
        | some v2 =>
          cases hc
          exact ⟨_, rfl, s2, .inr ⟨_, _, _, _, rfl, rfl, v1, v2⟩⟩
    intro r hr
    cases h with
    | @name _ f t f' t' x y h =>
      simp only [evalS] at hr ⊢
      rw [← hE.look h]
      obtain ⟨i, hi, hr⟩ := Option.bind_eq_some_iff.1 hr
      rw [hi]
      simp only [Option.bind_some]
      cases hg : st.slots[i]? with
      | none => rw [hg] at hr; cases hr
      | some o =>
        obtain ⟨o', h1, h2⟩ := hS.get i o hg
        rw [hg] at hr
        rw [h1]
        cases h2 with
        | none => cases hr; exact ⟨_, rfl, .none, hS.fin' 1⟩
        | some hv => cases hr; exact ⟨_, rfl, .some hv, hS⟩
    | int =>
      simp only [evalS] at hr ⊢
      split at hr
      · rename_i hc
        cases hr
        rw [if_pos hc]
        exact ⟨_, rfl, .some .num, hS⟩
      · cases hr
    | truth => cases hr; exact ⟨_, rfl, .some .truth, hS⟩
    | side => cases hr; exact ⟨_, rfl, .some .side, hS⟩
    | bracket h => exact Al.eval bud n h hE hS r hr
    | pair h k =>
      rw [evalS_pair] at hr ⊢
      obtain ⟨c, hc, hr⟩ := Option.bind_eq_some_iff.1 hr
      obtain ⟨⟨c1, c2⟩, g, s, hcase⟩ := both h k c hc
      rw [g]
      simp only [Option.bind_some]
      obtain ⟨c3, c4⟩ := c
      rcases hcase with ⟨q1, q2⟩ | ⟨u, v, u', v', q1, q2, q3, q4⟩
      · simp only at q1 q2
        subst q1 q2
        cases hr
        exact ⟨_, rfl, .none, s⟩
      · simp only at q1 q2
        subst q1 q2
        cases hr
        exact ⟨_, rfl, .some (.pair q3 q4), s⟩
    | binary h k =>
      rw [evalS_binary] at hr ⊢
      obtain ⟨c, hc, hr⟩ := Option.bind_eq_some_iff.1 hr
      obtain ⟨⟨c1, c2⟩, g, s, hcase⟩ := both h k c hc
      rw [g]
      simp only [Option.bind_some]
      obtain ⟨c3, c4⟩ := c
      rcases hcase with ⟨q1, q2⟩ | ⟨u, v, u', v', q1, q2, q3, q4⟩
      · simp only at q1 q2
        subst q1 q2
        cases hr
        exact ⟨_, rfl, .none, s⟩
      · simp only at q1 q2
        subst q1 q2
        cases hr
        refine ⟨_, rfl, ?_⟩
        rw [← q3.asNum, ← q4.asNum]
        exact reckon_same _ _ _ s
    | call h k =>
      rw [evalS_call] at hr ⊢
      obtain ⟨c, hc, hr⟩ := Option.bind_eq_some_iff.1 hr
      obtain ⟨⟨c1, c2⟩, g, s, hcase⟩ := both h k c hc
      rw [g]
      simp only [Option.bind_some]
      obtain ⟨c3, c4⟩ := c
      rcases hcase with ⟨q1, q2⟩ | ⟨u, v, u', v', q1, q2, q3, q4⟩
      · simp only at q1 q2
        subst q1 q2
        cases hr
        exact ⟨_, rfl, .none, s⟩
      · simp only at q1 q2
        subst q1 q2
        simp only at hr ⊢
        cases q3 with
        | num => cases hr; exact ⟨_, rfl, .none, s⟩
        | truth => cases hr; exact ⟨_, rfl, .none, s⟩
        | pair => cases hr; exact ⟨_, rfl, .none, s⟩
        | side =>
          cases hr
          refine ⟨_, rfl, ?_, s⟩
          cases q4 with
          | pair h k =>
            simp only [sideS]
            split
            · exact .some k
            · exact .some h
          | num => exact .none
          | truth => exact .none
          | side => exact .none
          | clo => exact .none
        | clo hE' hb =>
          simp only [applyS] at hr ⊢
          have hst := s.steps
          simp only at hst
          rw [← hst]
          split at hr
          · rename_i q
            cases hr
            rw [if_pos q]
            exact ⟨_, rfl, .none, ⟨s.len, s.get, rfl, rfl⟩⟩
          · rename_i q
            rw [if_neg q]
            have hlen := s.len
            simp only at hlen
            rw [← hlen]
            exact Al.eval bud n hb (.cons hE') (s.push (.some q4) _) r hr
    | cond h k j =>
      simp only [evalS] at hr ⊢
      obtain ⟨⟨a1, a2⟩, h1, hr⟩ := Option.bind_eq_some_iff.1 hr
      obtain ⟨⟨b1, b2⟩, g1, o1, s1⟩ := Al.eval bud n h hE hS _ h1
      rw [g1]
      simp only [Option.bind_some] at hr ⊢
      cases o1 with
      | none => cases hr; exact ⟨_, rfl, .none, s1⟩
      | some hv =>
        simp only at hr ⊢
        split at hr
        · rename_i q
          rw [if_pos (hv.isTrue.1 q)]
          exact Al.eval bud n k hE s1 r hr
        · rename_i q
          rw [if_neg (fun z => q (hv.isTrue.2 z))]
          exact Al.eval bud n j hE s1 r hr
    | fn h => cases hr; exact ⟨_, rfl, .some (.clo hE h), hS⟩
    | @lett _ _ _ _ _ _ _ rc nn nn' _ _ _ _ h k =>
      simp only [evalS] at hr ⊢
      obtain ⟨⟨a1, a2⟩, h1, hr⟩ := Option.bind_eq_some_iff.1 hr
      have hE1 : VERel (if rc then (nn, nn') :: E else E) (if rc then (nn, st.slots.length) :: e else e) (if rc then (nn', st'.slots.length) :: e' else e') := by
        cases rc with
        | true => rw [← hS.len]; exact .cons hE
        | false => exact hE
      have hS1 := hS.push .none st.steps
      obtain ⟨⟨b1, b2⟩, g1, o1, s1⟩ := Al.eval bud n h hE1 hS1 _ h1
      have e1 : ({ st' with slots := st'.slots ++ [none], steps := st.steps } : RS) = { st' with slots := st'.slots ++ [none] } := by rw [hS.steps]
      rw [e1] at g1
      rw [g1]
      simp only [Option.bind_some] at hr ⊢
      cases o1 with
      | none => cases hr; exact ⟨_, rfl, .none, s1⟩
      | some hv =>
        simp only at hr ⊢
        rw [← hS.len]
        exact Al.eval bud n k (.cons hE) (s1.set (.some hv) _) r hr

theorem Al.run {t t' : T} (h : Al [] t t') {n bud : Nat} {r : Int × Nat × List UInt8} (hr : runS n t bud = some r) : runS n t' bud = some r := by
  unfold runS at hr ⊢
  obtain ⟨⟨a1, a2⟩, h1, hr⟩ := Option.bind_eq_some_iff.1 hr
  obtain ⟨⟨b1, b2⟩, g1, o1, s1⟩ := Al.eval bud n h .nil (st := ⟨[], 0, 0⟩) (st' := ⟨[], 0, 0⟩) ⟨rfl, fun i o hi => by simp at hi, rfl, rfl⟩ _ h1
  rw [g1]
  simp only [Option.bind_some] at hr ⊢
  cases o1 with
  | none => simp only at hr ⊢; rw [← s1.fin, ← s1.steps]; exact hr
  | some hv => simp only at hr ⊢; rw [← s1.steps, ← hv.write]; exact hr

end Go.Proofs.YtckhafpejefbbaaGreatDoor.Tw

/- A binder with another name: the tree differs in binders' names alone. -/
namespace Go.Proofs.YtckhafpejefbbaaGreatDoor.Tw
open Go

def T.places : T → List Nat
  | .name f _ _ => [f]
  | .int .. | .truth .. | .side .. => []
  | .bracket _ _ i => i.places
  | .pair _ _ x y => x.places ++ y.places
  | .call _ _ x y => x.places ++ y.places
  | .binary _ _ _ x y => x.places ++ y.places
  | .cond _ _ x y z => x.places ++ (y.places ++ z.places)
  | .fn _ _ _ k x => k :: x.places
  | .lett _ _ _ _ k x y => k :: (x.places ++ y.places)

def T.occ (x : List UInt8) : T → List (List UInt8) → List Nat
  | .name f _ z, I => if z = x ∧ x ∉ I then [f] else []
  | .int .., _ | .truth .., _ | .side .., _ => []
  | .bracket _ _ i, I => i.occ x I
  | .pair _ _ a b, I => a.occ x I ++ b.occ x I
  | .call _ _ a b, I => a.occ x I ++ b.occ x I
  | .binary _ _ _ a b, I => a.occ x I ++ b.occ x I
  | .cond _ _ a b c, I => a.occ x I ++ (b.occ x I ++ c.occ x I)
  | .fn _ _ n _ a, I => a.occ x (n :: I)
  | .lett _ _ r n _ a b, I => a.occ x (if r then n :: I else I) ++ b.occ x (n :: I)

def T.capt (x y : List UInt8) : T → List (List UInt8) → Prop
  | .name _ _ z, I => z ∉ I ∧ (z = y ∨ (z = x ∧ y ∈ I))
  | .int .., _ | .truth .., _ | .side .., _ => False
  | .bracket _ _ i, I => i.capt x y I
  | .pair _ _ a b, I => a.capt x y I ∨ b.capt x y I
  | .call _ _ a b, I => a.capt x y I ∨ b.capt x y I
  | .binary _ _ _ a b, I => a.capt x y I ∨ b.capt x y I
  | .cond _ _ a b c, I => a.capt x y I ∨ (b.capt x y I ∨ c.capt x y I)
  | .fn _ _ n _ a, I => a.capt x y (n :: I)
  | .lett _ _ r n _ a b, I => a.capt x y (if r then n :: I else I) ∨ b.capt x y (n :: I)

theorem occ_sub (x : List UInt8) : ∀ (t : T) (I : List (List UInt8)), ∀ f ∈ t.occ x I, f ∈ t.places
  | .name f _ z, I, g, h => by
    simp only [T.occ] at h
    split at h
    · exact h
    · cases h
  | .int .., _, _, h => by cases h
  | .truth .., _, _, h => by cases h
  | .side .., _, _, h => by cases h
  | .bracket _ _ i, I, g, h => occ_sub x i I g h
  | .pair _ _ a b, I, g, h => by
    simp only [T.occ, T.places, List.mem_append] at h ⊢
    exact h.imp (occ_sub x a I g) (occ_sub x b I g)
  | .call _ _ a b, I, g, h => by
    simp only [T.occ, T.places, List.mem_append] at h ⊢
    exact h.imp (occ_sub x a I g) (occ_sub x b I g)
  | .binary _ _ _ a b, I, g, h => by
    simp only [T.occ, T.places, List.mem_append] at h ⊢
    exact h.imp (occ_sub x a I g) (occ_sub x b I g)
  | .cond _ _ a b c, I, g, h => by
    simp only [T.occ, T.places, List.mem_append] at h ⊢
    exact h.imp (occ_sub x a I g) fun h => h.imp (occ_sub x b I g) (occ_sub x c I g)
  | .fn _ _ n k a, I, g, h => by
    simp only [T.places, List.mem_cons]
    exact .inr (occ_sub x a (n :: I) g h)
  | .lett _ _ r n k a b, I, g, h => by
    simp only [T.occ, T.places, List.mem_append, List.mem_cons] at h ⊢
    exact .inr (h.imp (occ_sub x a _ g) (occ_sub x b (n :: I) g))

def idE (E : AE) : Prop := ∀ p ∈ E, p.1 = p.2

theorem idE.look {z : List UInt8} : ∀ {E : AE}, idE E → lookA E z z
  | [], _ => rfl
  | (a, b) :: E, h => by
    have e : a = b := h (a, b) (by simp)
    subst e
    by_cases ha : a = z
    · exact .inl ⟨ha, ha⟩
    · exact .inr ⟨ha, ha, idE.look fun p hp => h p (by simp [hp])⟩

theorem look_in {z : List UInt8} {O : AE} : ∀ {I : AE}, idE I → z ∈ I.map (·.1) → lookA (I ++ O) z z
  | [], _, h => by simp at h
  | (a, b) :: E, h, hz => by
    have e : a = b := h (a, b) (by simp)
    subst e
    by_cases ha : a = z
    · exact .inl ⟨ha, ha⟩
    · simp only [List.map_cons, List.mem_cons] at hz
      exact .inr ⟨ha, ha, look_in (fun p hp => h p (by simp [hp])) (hz.resolve_left fun q => ha q.symm)⟩

theorem look_skip {z z' : List UInt8} {O : AE} : ∀ {I : AE}, idE I → z ∉ I.map (·.1) → z' ∉ I.map (·.1) → lookA O z z' → lookA (I ++ O) z z'
  | [], _, _, _, h => h
  | (a, b) :: E, h, h1, h2, h3 => by
    have e : a = b := h (a, b) (by simp)
    subst e
    simp only [List.map_cons, List.mem_cons, not_or] at h1 h2
    exact .inr ⟨fun q => h1.1 q.symm, fun q => h2.1 q.symm, look_skip (fun p hp => h p (by simp [hp])) h1.2 h2.2 h3⟩

theorem idE.cons {E : AE} (h : idE E) (n : List UInt8) : idE ((n, n) :: E) := fun p hp => by
  simp only [List.mem_cons] at hp
  rcases hp with rfl | hp
  · rfl
  · exact h p hp

structure Named (m : Mv) (S : List Nat) (y : List UInt8) : Prop where
  val : ∀ f v, m.val f v = v
  at_ : ∀ f x, f ∈ S → m.nm f x = y
  other : ∀ f x, f ∉ S → m.nm f x = x

theorem map_if (r : Bool) (n : List UInt8) (I : AE) : (if r then (n, n) :: I else I).map (·.1) = if r then n :: I.map (·.1) else I.map (·.1) := by cases r <;> rfl

section
variable {m : Mv} {S : List Nat} {x y : List UInt8} (M : Named m S y)
include M

theorem al_id : ∀ (t : T) {E : AE}, idE E → (∀ f ∈ t.places, f ∉ S) → Al E t (t.re m)
  | .name f _ z, E, hE, hp => by
    simp only [T.re]
    rw [M.other f z (hp f (by simp [T.places]))]
    exact .name hE.look
  | .int .., _, _, _ => by simp only [T.re, M.val]; exact .int
  | .truth .., _, _, _ => .truth
  | .side .., _, _, _ => .side
  | .bracket _ _ i, E, hE, hp => .bracket (al_id i hE hp)
  | .pair _ _ a b, E, hE, hp => .pair (al_id a hE fun f h => hp f (by simp [T.places, h])) (al_id b hE fun f h => hp f (by simp [T.places, h]))
  | .call _ _ a b, E, hE, hp => .call (al_id a hE fun f h => hp f (by simp [T.places, h])) (al_id b hE fun f h => hp f (by simp [T.places, h]))
  | .binary _ _ _ a b, E, hE, hp => .binary (al_id a hE fun f h => hp f (by simp [T.places, h])) (al_id b hE fun f h => hp f (by simp [T.places, h]))
  | .cond _ _ a b c, E, hE, hp => .cond (al_id a hE fun f h => hp f (by simp [T.places, h])) (al_id b hE fun f h => hp f (by simp [T.places, h])) (al_id c hE fun f h => hp f (by simp [T.places, h]))
  | .fn _ _ n k a, E, hE, hp => by
    simp only [T.re]
    rw [M.other k n (hp k (by simp [T.places]))]
    exact .fn (al_id a (hE.cons n) fun f h => hp f (by simp [T.places, h]))
  | .lett _ _ r n k a b, E, hE, hp => by
    simp only [T.re]
    rw [M.other k n (hp k (by simp [T.places]))]
    refine .lett (al_id a ?_ fun f h => hp f (by simp [T.places, h])) (al_id b (hE.cons n) fun f h => hp f (by simp [T.places, h]))
    cases r
    · exact hE
    · exact hE.cons n

theorem al_reach {O : AE} (hO : idE O) : ∀ (t : T) {I : AE}, idE I → t.places.Nodup → (∀ f ∈ t.places, f ∈ S ↔ f ∈ t.occ x (I.map (·.1))) → ¬ t.capt x y (I.map (·.1)) → Al (I ++ (x, y) :: O) t (t.re m)
  | .name f _ z, I, hI, _, hS, hc => by
    simp only [T.re]
    have hf := hS f (by simp [T.places])
    simp only [T.occ] at hf
    simp only [T.capt] at hc
    by_cases hz : z ∈ I.map (·.1)
    · have : f ∉ S := by
        rw [hf]
        split
        · rename_i h; exact absurd (h.1 ▸ hz) h.2
        · simp
      rw [M.other f z this]
      exact .name (look_in hI hz)
    · by_cases hx : z = x
      · subst hx
        have : f ∈ S := by rw [hf, if_pos ⟨rfl, hz⟩]; simp
        rw [M.at_ f z this]
        have hy : y ∉ I.map (·.1) := fun hy => hc ⟨hz, .inr ⟨rfl, hy⟩⟩
        exact .name (look_skip hI hz hy (.inl ⟨rfl, rfl⟩))
      · have : f ∉ S := by rw [hf, if_neg (fun h => hx h.1)]; simp
        rw [M.other f z this]
        have hy : z ≠ y := fun h => hc ⟨hz, .inl h⟩
        exact .name (look_skip hI hz hz (.inr ⟨fun h => hx h.symm, fun h => hy h.symm, hO.look⟩))
  | .int .., _, _, _, _, _ => by simp only [T.re, M.val]; exact .int
  | .truth .., _, _, _, _, _ => .truth
  | .side .., _, _, _, _, _ => .side
  | .bracket _ _ i, I, hI, hn, hS, hc => .bracket (al_reach hO i hI hn hS hc)
  | .pair _ _ a b, I, hI, hn, hS, hc => by
    simp only [T.places, List.nodup_append, T.occ, T.capt, not_or] at hn hS hc
    refine .pair (al_reach hO a hI hn.1 (fun f hf => ?_) hc.1) (al_reach hO b hI hn.2.1 (fun f hf => ?_) hc.2)
    · rw [hS f (by simp [hf]), List.mem_append]
      exact ⟨fun h => h.elim id fun h => absurd rfl (hn.2.2 f hf f (occ_sub x b _ f h)), .inl⟩
    · rw [hS f (by simp [hf]), List.mem_append]
      exact ⟨fun h => h.elim (fun h => absurd rfl (hn.2.2 f (occ_sub x a _ f h) f hf)) id, .inr⟩
  | .call _ _ a b, I, hI, hn, hS, hc => by
    simp only [T.places, List.nodup_append, T.occ, T.capt, not_or] at hn hS hc
    refine .call (al_reach hO a hI hn.1 (fun f hf => ?_) hc.1) (al_reach hO b hI hn.2.1 (fun f hf => ?_) hc.2)
    · rw [hS f (by simp [hf]), List.mem_append]
      exact ⟨fun h => h.elim id fun h => absurd rfl (hn.2.2 f hf f (occ_sub x b _ f h)), .inl⟩
    · rw [hS f (by simp [hf]), List.mem_append]
      exact ⟨fun h => h.elim (fun h => absurd rfl (hn.2.2 f (occ_sub x a _ f h) f hf)) id, .inr⟩
  | .binary _ _ _ a b, I, hI, hn, hS, hc => by
    simp only [T.places, List.nodup_append, T.occ, T.capt, not_or] at hn hS hc
    refine .binary (al_reach hO a hI hn.1 (fun f hf => ?_) hc.1) (al_reach hO b hI hn.2.1 (fun f hf => ?_) hc.2)
    · rw [hS f (by simp [hf]), List.mem_append]
      exact ⟨fun h => h.elim id fun h => absurd rfl (hn.2.2 f hf f (occ_sub x b _ f h)), .inl⟩
    · rw [hS f (by simp [hf]), List.mem_append]
      exact ⟨fun h => h.elim (fun h => absurd rfl (hn.2.2 f (occ_sub x a _ f h) f hf)) id, .inr⟩
  | .cond _ _ a b c, I, hI, hn, hS, hc => by
    simp only [T.places, List.nodup_append, T.occ, T.capt, not_or, List.mem_append] at hn hS hc
    refine .cond (al_reach hO a hI hn.1 (fun f hf => ?_) hc.1) (al_reach hO b hI hn.2.1.1 (fun f hf => ?_) hc.2.1) (al_reach hO c hI hn.2.1.2.1 (fun f hf => ?_) hc.2.2)
    · rw [hS f (by simp [hf])]
      exact ⟨fun h => h.elim id fun h => absurd rfl (hn.2.2 f hf f (h.imp (occ_sub x b _ f) (occ_sub x c _ f))), .inl⟩
    · rw [hS f (by simp [hf])]
      exact ⟨fun h => h.elim (fun h => absurd rfl (hn.2.2 f (occ_sub x a _ f h) f (.inl hf))) fun h => h.elim id fun h => absurd rfl (hn.2.1.2.2 f hf f (occ_sub x c _ f h)), fun h => .inr (.inl h)⟩
    · rw [hS f (by simp [hf])]
      exact ⟨fun h => h.elim (fun h => absurd rfl (hn.2.2 f (occ_sub x a _ f h) f (.inr hf))) fun h => h.elim (fun h => absurd rfl (hn.2.1.2.2 f (occ_sub x b _ f h) f hf)) id, fun h => .inr (.inr h)⟩
  | .fn _ _ n k a, I, hI, hn, hS, hc => by
    simp only [T.places, List.nodup_cons, T.occ, T.capt, List.mem_cons] at hn hS hc
    have hk : k ∉ S := by rw [hS k (.inl rfl)]; exact fun h => hn.1 (occ_sub x a _ k h)
    simp only [T.re]
    rw [M.other k n hk]
    exact .fn (al_reach hO a (I := (n, n) :: I) (hI.cons n) hn.2 (fun f hf => hS f (.inr hf)) hc)
  | .lett _ _ r n k a b, I, hI, hn, hS, hc => by
    simp only [T.places, List.nodup_cons, List.nodup_append, T.occ, T.capt, List.mem_cons, List.mem_append, not_or] at hn hS hc
    have hk : k ∉ S := by
      rw [hS k (.inl rfl)]
      exact fun h => h.elim (fun h => hn.1.1 (occ_sub x a _ k h)) fun h => hn.1.2 (occ_sub x b _ k h)
    simp only [T.re]
    rw [M.other k n hk]
    have e : (if r then (n, n) :: (I ++ (x, y) :: O) else I ++ (x, y) :: O) = (if r then (n, n) :: I else I) ++ (x, y) :: O := by cases r <;> rfl
    have hI' : idE (if r then (n, n) :: I else I) := by
      cases r
      · exact hI
      · exact hI.cons n
    have h1 : Al ((if r then (n, n) :: I else I) ++ (x, y) :: O) a (a.re m) := by
      refine al_reach hO a hI' hn.2.1 (fun f hf => ?_) (by rw [map_if]; exact hc.1)
      rw [hS f (.inr (.inl hf)), map_if]
      exact ⟨fun h => h.elim id fun h => absurd rfl (hn.2.2.2 f hf f (occ_sub x b _ f h)), .inl⟩
    refine .lett (by rw [e]; exact h1) (al_reach hO b (I := (n, n) :: I) (hI.cons n) hn.2.2.1 (fun f hf => ?_) hc.2)
    · rw [hS f (.inr (.inr hf))]
      exact ⟨fun h => h.elim (fun h => absurd rfl (hn.2.2.2 f (occ_sub x a _ f h) f hf)) id, .inr⟩
end

def T.hit (p : Nat) : T → Option T
  | .name .. | .int .. | .truth .. | .side .. => none
  | .bracket _ _ i => i.hit p
  | .pair _ _ a b => (a.hit p).or (b.hit p)
  | .call _ _ a b => (a.hit p).or (b.hit p)
  | .binary _ _ _ a b => (a.hit p).or (b.hit p)
  | .cond _ _ a b c => (a.hit p).or ((b.hit p).or (c.hit p))
  | .fn f t n k a => if k = p then some (.fn f t n k a) else a.hit p
  | .lett f t r n k a b => if k = p then some (.lett f t r n k a b) else (a.hit p).or (b.hit p)

def T.bname : T → List UInt8
  | .fn _ _ n _ _ => n
  | .lett _ _ _ n _ _ _ => n
  | _ => []

def T.useS : T → List Nat
  | .fn _ _ n _ a => a.occ n []
  | .lett _ _ r n _ a b => (if r then a.occ n [] else []) ++ b.occ n []
  | _ => []

def T.captN (y : List UInt8) : T → Prop
  | .fn _ _ n _ a => a.capt n y []
  | .lett _ _ r n _ a b => (r = true ∧ a.capt n y []) ∨ b.capt n y []
  | _ => False

theorem hit_place {p : Nat} : ∀ {t n : T}, t.hit p = some n → p ∈ t.places ∧ ∀ f ∈ n.useS, f ∈ t.places
  | .bracket _ _ i, n, h => hit_place (t := i) h
  | .pair _ _ a b, n, h => by
    simp only [T.hit, Option.or_eq_some_iff] at h
    simp only [T.places, List.mem_append]
    rcases h with h | ⟨_, h⟩
    · exact ⟨.inl (hit_place h).1, fun f hf => .inl ((hit_place h).2 f hf)⟩
    · exact ⟨.inr (hit_place h).1, fun f hf => .inr ((hit_place h).2 f hf)⟩
  | .call _ _ a b, n, h => by
    simp only [T.hit, Option.or_eq_some_iff] at h
    simp only [T.places, List.mem_append]
    rcases h with h | ⟨_, h⟩
    · exact ⟨.inl (hit_place h).1, fun f hf => .inl ((hit_place h).2 f hf)⟩
    · exact ⟨.inr (hit_place h).1, fun f hf => .inr ((hit_place h).2 f hf)⟩
  | .binary _ _ _ a b, n, h => by
    simp only [T.hit, Option.or_eq_some_iff] at h
    simp only [T.places, List.mem_append]
    rcases h with h | ⟨_, h⟩
    · exact ⟨.inl (hit_place h).1, fun f hf => .inl ((hit_place h).2 f hf)⟩
    · exact ⟨.inr (hit_place h).1, fun f hf => .inr ((hit_place h).2 f hf)⟩
  | .cond _ _ a b c, n, h => by
    simp only [T.hit, Option.or_eq_some_iff] at h
    simp only [T.places, List.mem_append]
    rcases h with h | ⟨_, h | ⟨_, h⟩⟩
    · exact ⟨.inl (hit_place h).1, fun f hf => .inl ((hit_place h).2 f hf)⟩
    · exact ⟨.inr (.inl (hit_place h).1), fun f hf => .inr (.inl ((hit_place h).2 f hf))⟩
    · exact ⟨.inr (.inr (hit_place h).1), fun f hf => .inr (.inr ((hit_place h).2 f hf))⟩
  | .fn f t nn k a, n, h => by
    simp only [T.hit] at h
    simp only [T.places, List.mem_cons]
    split at h
    · rename_i hk
      cases h
      exact ⟨.inl hk.symm, fun f hf => .inr (occ_sub _ a _ f hf)⟩
    · exact ⟨.inr (hit_place h).1, fun f hf => .inr ((hit_place h).2 f hf)⟩
  | .lett f t r nn k a b, n, h => by
    simp only [T.hit] at h
    simp only [T.places, List.mem_cons, List.mem_append]
    split at h
    · rename_i hk
      cases h
      refine ⟨.inl hk.symm, fun f hf => .inr ?_⟩
      simp only [T.useS, List.mem_append] at hf
      rcases hf with hf | hf
      · cases r
        · simp at hf
        · exact .inl (occ_sub _ a _ f hf)
      · exact .inr (occ_sub _ b _ f hf)
    · simp only [Option.or_eq_some_iff] at h
      rcases h with h | ⟨_, h⟩
      · exact ⟨.inr (.inl (hit_place h).1), fun f hf => .inr (.inl ((hit_place h).2 f hf))⟩
      · exact ⟨.inr (.inr (hit_place h).1), fun f hf => .inr (.inr ((hit_place h).2 f hf))⟩

theorem ren_al {m : Mv} {S : List Nat} {y : List UInt8} (M : Named m S y) {p : Nat} {n : T} (hc : ¬ n.captN y) (hS : ∀ f, f ∈ S ↔ f = p ∨ f ∈ n.useS) : ∀ (t : T) {E : AE}, idE E → t.places.Nodup → t.hit p = some n → Al E t (t.re m)
  | .bracket _ _ i, E, hE, hn, h => .bracket (ren_al M hc hS i hE hn h)
  | .pair _ _ a b, E, hE, hn, h => by
    simp only [T.hit, Option.or_eq_some_iff, T.places, List.nodup_append] at h hn
    rcases h with h | ⟨_, h⟩
    · refine .pair (ren_al M hc hS a hE hn.1 h) (al_id M b hE fun f hf hs => ?_)
      rcases (hS f).1 hs with rfl | hs
      · exact hn.2.2 _ (hit_place h).1 _ hf rfl
      · exact hn.2.2 _ ((hit_place h).2 f hs) _ hf rfl
    · refine .pair (al_id M a hE fun f hf hs => ?_) (ren_al M hc hS b hE hn.2.1 h)
      rcases (hS f).1 hs with rfl | hs
      · exact hn.2.2 _ hf _ (hit_place h).1 rfl
      · exact hn.2.2 _ hf _ ((hit_place h).2 f hs) rfl
  | .call _ _ a b, E, hE, hn, h => by
    simp only [T.hit, Option.or_eq_some_iff, T.places, List.nodup_append] at h hn
    rcases h with h | ⟨_, h⟩
    · refine .call (ren_al M hc hS a hE hn.1 h) (al_id M b hE fun f hf hs => ?_)
      rcases (hS f).1 hs with rfl | hs
      · exact hn.2.2 _ (hit_place h).1 _ hf rfl
      · exact hn.2.2 _ ((hit_place h).2 f hs) _ hf rfl
    · refine .call (al_id M a hE fun f hf hs => ?_) (ren_al M hc hS b hE hn.2.1 h)
      rcases (hS f).1 hs with rfl | hs
      · exact hn.2.2 _ hf _ (hit_place h).1 rfl
      · exact hn.2.2 _ hf _ ((hit_place h).2 f hs) rfl
  | .binary _ _ _ a b, E, hE, hn, h => by
    simp only [T.hit, Option.or_eq_some_iff, T.places, List.nodup_append] at h hn
    rcases h with h | ⟨_, h⟩
    · refine .binary (ren_al M hc hS a hE hn.1 h) (al_id M b hE fun f hf hs => ?_)
      rcases (hS f).1 hs with rfl | hs
      · exact hn.2.2 _ (hit_place h).1 _ hf rfl
      · exact hn.2.2 _ ((hit_place h).2 f hs) _ hf rfl
    · refine .binary (al_id M a hE fun f hf hs => ?_) (ren_al M hc hS b hE hn.2.1 h)
      rcases (hS f).1 hs with rfl | hs
      · exact hn.2.2 _ hf _ (hit_place h).1 rfl
      · exact hn.2.2 _ hf _ ((hit_place h).2 f hs) rfl
  | .cond _ _ a b c, E, hE, hn, h => by
    simp only [T.hit, Option.or_eq_some_iff, T.places, List.nodup_append, List.mem_append] at h hn
    have out : ∀ {u : T}, u.hit p = some n → ∀ f, f ∈ S → f ∈ u.places := fun h f hs => by
      rcases (hS f).1 hs with rfl | hs
      · exact (hit_place h).1
      · exact (hit_place h).2 f hs
    rcases h with h | ⟨_, h | ⟨_, h⟩⟩
    · exact .cond (ren_al M hc hS a hE hn.1 h) (al_id M b hE fun f hf hs => hn.2.2 _ (out h f hs) _ (.inl hf) rfl) (al_id M c hE fun f hf hs => hn.2.2 _ (out h f hs) _ (.inr hf) rfl)
    · exact .cond (al_id M a hE fun f hf hs => hn.2.2 _ hf _ (.inl (out h f hs)) rfl) (ren_al M hc hS b hE hn.2.1.1 h) (al_id M c hE fun f hf hs => hn.2.1.2.2 _ (out h f hs) _ hf rfl)
    · exact .cond (al_id M a hE fun f hf hs => hn.2.2 _ hf _ (.inr (out h f hs)) rfl) (al_id M b hE fun f hf hs => hn.2.1.2.2 _ hf _ (out h f hs) rfl) (ren_al M hc hS c hE hn.2.1.2.1 h)
  | .fn f t nn k a, E, hE, hn, h => by
    simp only [T.hit, T.places, List.nodup_cons] at h hn
    split at h
    · rename_i hk
      cases h
      subst hk
      simp only [T.re]
      rw [M.at_ k nn ((hS k).2 (.inl rfl))]
      refine .fn (al_reach M hE a (I := []) (fun p hp => by cases hp) hn.2 (fun g hg => ?_) hc)
      rw [hS]
      exact ⟨fun h => h.elim (fun e => absurd (e ▸ hg) hn.1) id, .inr⟩
    · rename_i hk
      have hk' : k ∉ S := fun hs => by
        rcases (hS k).1 hs with e | hs
        · exact hk e
        · exact hn.1 ((hit_place h).2 k hs)
      simp only [T.re]
      rw [M.other k nn hk']
      exact .fn (ren_al M hc hS a (hE.cons nn) hn.2 h)
  | .lett f t r nn k a b, E, hE, hn, h => by
    simp only [T.hit, T.places, List.nodup_cons, List.nodup_append, List.mem_append, not_or] at h hn
    split at h
    · rename_i hk
      cases h
      subst hk
      simp only [T.re]
      rw [M.at_ k nn ((hS k).2 (.inl rfl))]
      simp only [T.captN, not_or] at hc
      cases r with
      | true =>
        simp only [true_and] at hc
        refine .lett (al_reach M hE a (I := []) (fun p hp => by cases hp) hn.2.1 (fun g hg => ?_) hc.1) (al_reach M hE b (I := []) (fun p hp => by cases hp) hn.2.2.1 (fun g hg => ?_) hc.2)
        · rw [hS]
          simp only [T.useS, if_true, List.mem_append]
          exact ⟨fun h => h.elim (fun e => absurd (e ▸ hg) hn.1.1) fun h => h.elim id fun h => absurd rfl (hn.2.2.2 g hg g (occ_sub _ b _ g h)), fun h => .inr (.inl h)⟩
        · rw [hS]
          simp only [T.useS, if_true, List.mem_append]
          exact ⟨fun h => h.elim (fun e => absurd (e ▸ hg) hn.1.2) fun h => h.elim (fun h => absurd rfl (hn.2.2.2 g (occ_sub _ a _ g h) g hg)) id, fun h => .inr (.inr h)⟩
      | false =>
        refine .lett (al_id M a hE fun g hg hs => ?_) (al_reach M hE b (I := []) (fun p hp => by cases hp) hn.2.2.1 (fun g hg => ?_) hc.2)
        · rcases (hS g).1 hs with e | hs
          · exact hn.1.1 (e ▸ hg)
          · simp only [T.useS, Bool.false_eq_true, if_false, List.nil_append] at hs
            exact hn.2.2.2 g hg g (occ_sub _ b _ g hs) rfl
        · rw [hS]
          simp only [T.useS, Bool.false_eq_true, if_false, List.nil_append]
          exact ⟨fun h => h.elim (fun e => absurd (e ▸ hg) hn.1.2) id, .inr⟩
    · rename_i hk
      simp only [Option.or_eq_some_iff] at h
      have out : ∀ {u : T}, u.hit p = some n → ∀ f, f ∈ S → f ∈ u.places := fun h f hs => by
        rcases (hS f).1 hs with rfl | hs
        · exact (hit_place h).1
        · exact (hit_place h).2 f hs
      have hk' : k ∉ S := fun hs => by
        rcases h with h | ⟨_, h⟩
        · exact hn.1.1 (out h k hs)
        · exact hn.1.2 (out h k hs)
      simp only [T.re]
      rw [M.other k nn hk']
      have hE' : idE (if r then (nn, nn) :: E else E) := by
        cases r
        · exact hE
        · exact hE.cons nn
      rcases h with h | ⟨_, h⟩
      · exact .lett (ren_al M hc hS a hE' hn.2.1 h) (al_id M b (hE.cons nn) fun f hf hs => hn.2.2.2 _ (out h f hs) _ hf rfl)
      · exact .lett (al_id M a hE' fun f hf hs => hn.2.2.2 _ hf _ (out h f hs) rfl) (ren_al M hc hS b (hE.cons nn) hn.2.2.1 h)

end Go.Proofs.YtckhafpejefbbaaGreatDoor.Tw
