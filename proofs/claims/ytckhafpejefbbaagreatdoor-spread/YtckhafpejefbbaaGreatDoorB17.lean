/- Texts of the proof, put together: RowBase, EmbThy3, TyThy8, RunThy, InvThy, GenThy, GenThy2, GenThy3, GenThy4, AlThy, RenThy, PosThy, LexRen, LexRen2, ChgThy, RowLib, GenWalk, RangeO, Parts2. -/
import Derived.Test.YtckhafpejefbbaaGreatDoorB16
import Derived.Test.YtckhafpejefbbaaGreatDoorB01
import Derived.Test.YtckhafpejefbbaaGreatDoorRows
import Derived.Test.YtckhafpejefbbaaGreatDoorCards
import Derived.Test.YtckhafpejefbbaaGreatDoorTie
import Derived.ChangeSame
import Derived.ChangeVars
import Derived.JoinedOf
import Derived.RowKit
import Derived.RowKitTokens
import Derived.LaidLaws
import Derived.LaidMore
import Derived.OpenShut
import Derived.ProofKit
import Derived.Stop.Joined
import Derived.SevenTiedAt
import Derived.Carry
import Derived.Test.YtckhafpejefbbaaGreatDoorB14
import Derived.Test.YtckhafpejefbbaaGreatDoorB12
import Derived.Test.YtckhafpejefbbaaGreatDoorB13
import Derived.RangeFuncNested
import Derived.RangeFuncBound
import Derived.RangeFuncCalls
import Derived.RangeFuncLeaves
import Derived.Shelf.Abstract
import Derived.Shelf.RegionOpen
import Derived.WalkKit
import Derived.OwnWalkIn
import Derived.TacticsInMore
import Derived.Test.YtckhafpejefbbaaGreatDoorB10

/- What the rows share: the library's contracts, what is listed, arguments read again. -/
namespace Go.Proofs.YtckhafpejefbbaaGreatDoor
open Go.ChangeShapes Go.WideShapes Go.ChangeAt Go.RowKit

theorem grown_bytesWorld (w : World) (e : TypeId) (s : ByteArray) : w.grownBy (Lib.bytesWorld w e s) none :=
  ⟨rfl, rfl, rfl, by rw [Lib.bytesWorld_size]; omega, fun k hk _ => Lib.bytesWorld_at_old w e s k hk⟩

theorem grown_grow (w : World) (k : Nat) (os : Array Obj) : w.grownBy (Sort.grow (w.drewN k) os) none :=
  ⟨rfl, rfl, rfl, by simp [Sort.grow], fun i hi _ => by simp [Sort.grow, Array.getElem?_append, hi]⟩

theorem lib4 : Lib4 :=
  { ib := fun s c w => (Tryz.strings_IndexByte s c w).mono fun e w' ⟨h1, h2⟩ => ⟨h1, h2.symm⟩
    pi := fun s hs v h w => (Tryz.strconv_ParseInt_10_at64_ok s (by omega) v h w).mono fun e w' ⟨h1, h2⟩ => ⟨h1, by
      rcases h2 with rfl | ⟨t, rfl⟩
      · exact grown_refl _
      · exact grown_bytesWorld _ _ _⟩
    fi := fun n h0 h1 w hT => (Tryz.strconv_FormatInt_10 n h0 h1 w hT).mono fun e w' ⟨h1, k, os, h2⟩ => ⟨h1, by rw [h2]; exact grown_grow _ _ _⟩
    fb := fun b w => (Tryz.strconv_FormatBool b w).mono fun e w' ⟨h1, h2⟩ => ⟨by rw [h1]; cases b <;> rfl, h2.symm⟩ }

theorem own : ownKnob Tryz.prog.godebug = none := by kernel_rfl
theorem tPow : (Tryz.prog.globals[1]?).map (fun x => x.type) = some 378 := by kernel_rfl

abbrev laid5 : List (String × DataW Unit) := Rows.recursiveRow.laid

theorem of_laid {W : World} (h : laidMetH Tryz.prog laid5 W) : Tab W ∧ 1 < W.heap.size := by
  rw [MakeChecks.laidMetH_plain _ _ _ (by kernel_rfl)] at h
  obtain ⟨ps, ⟨g0, t0, cs0, f0, p0, q0, hg0, ht0, hv0, hd0, ⟨g1, t1, cs1, f1, p1, q1, hg1, ht1, hv1, hd1, ⟨g2, t2, cs2, f2, p2, q2, hg2, ht2, hv2, hd2, _, _⟩, _⟩, _⟩, _, _⟩ := h
  obtain rfl := Option.some.inj (gPow.symm.trans hg2)
  obtain rfl := Option.some.inj (tPow.symm.trans ht2)
  have hz : (Rows.laid_internal_strconv_uint64pow10 : DataW Unit) = Lib.tabData .u64 Lib.pow10Tab := by kernel_rfl
  have hT : Tab W := by
    show W.var? Tryz.prog "internal/strconv.uint64pow10" = _
    rw [hv2]
    have := Lib.cells_of_tab (zs := Lib.pow10Tab) Tryz.underlying378 Tryz.underlying372 (by kernel_rfl) (by kernel_rfl) (by rw [← hz]; exact hd2)
    rw [← this]
  refine ⟨hT, ?_⟩
  rcases Nat.lt_or_ge 1 W.heap.size with h1 | h1
  · exact h1
  · have hv : W.var? Tryz.prog "internal/strconv.uint64pow10" = _ := hT
    unfold World.var? at hv
    rw [gPow] at hv
    simp only [Option.bind_some] at hv
    rw [Array.getElem?_eq_none h1] at hv
    simp at hv

theorem door_met (os : Os) (args : Array Value) : laidMetH Tryz.prog laid5 ((World.doorLaid Tryz.prog 62 os).forCall (fun _ _ => 0) ⟨#[], args, []⟩).memory :=
  laidMetH_of_parts3 (fuel := 8) (laidMet_of_run' 8 (by kernel_rfl) (by kernel_rfl)) (by kernel_rfl) (by kernel_rfl)

theorem keptBut_of_grown {W W' : World} (h : W.grownBy W' none) (may : MemPlace → Prop) : W.keptBut W' may := by
  refine ⟨h.os, h.output, fun i hi => ?_⟩
  rw [h.block i hi (by simp)]
  cases W.heap[i]? with
  | none => trivial
  | some o => cases o <;> simp

theorem laidOut : laidOutB Tryz.prog = true := by kernel_rfl

theorem below_of_grown {W W' : World} (h : W.grownBy W' none) : Below W.heap.size W W' := ⟨h.os, h.tape, h.output, h.size, fun k hk => h.block k hk (by simp)⟩

theorem args_again0 {H : Type} {enc : TypeId × Value → H} {P : Program} (hP : laidOutB P = true) {W W' : World} (hg : W.grownBy W' none) : ∀ (ts : List TypeId) (vs : List Value) (ds : List (DataW H)) (ps : List MemPlace),
    (ts.all fun t => P.readableRec t && decide (t < P.types.size)) = true → (∀ x ∈ ps, x.block < W.heap.size) → DataW.TrodAll enc P W 0 (fun _ => true) true ts vs ds ps → DataW.TrodAll enc P W' 0 (fun b => decide (b < W.heap.size)) true ts vs ds ps
  | [], [], [], _, _, _, h => h
  | t :: ts, v :: vs, d :: ds, ps, hr, hl, h => by
    obtain ⟨p, q, h1, h2, rfl⟩ := h
    simp only [List.all_cons, Bool.and_eq_true, decide_eq_true_eq] at hr
    exact ⟨p, q, Below.trod hP hr.1.1 hr.1.2 h1 (below_of_grown hg) (fun x hx => hl x (List.mem_append.2 (.inl hx))), args_again0 hP hg ts vs ds q hr.2 (fun x hx => hl x (List.mem_append.2 (.inr hx))) h2, rfl⟩
  | [], [], _ :: _, _, _, _, h => h.elim
  | [], _ :: _, _, _, _, _, h => h.elim
  | _ :: _, [], _, _, _, _, h => h.elim
  | _ :: _, _ :: _, [], _, _, _, h => h.elim

theorem args_again {H : Type} {enc : TypeId × Value → H} {W W' : World} (hg : W.grownBy W' none) {ts : List TypeId} {vs : List Value} {ds : List (DataW H)} {ps : List MemPlace}
    (hr : (ts.all fun t => Tryz.prog.readableRec t && decide (t < Tryz.prog.types.size)) = true) (hl : ∀ x ∈ ps, x.block < W.heap.size) (h : DataW.TrodAll enc Tryz.prog W 0 (fun _ => true) true ts vs ds ps) : DataW.TrodAll enc Tryz.prog W' 0 (fun b => decide (b < W.heap.size)) true ts vs ds ps :=
  args_again0 laidOut hg ts vs ds ps hr hl h

end Go.Proofs.YtckhafpejefbbaaGreatDoor

/- Two rows of tokens, one within the other: where both are parsed and neither parser is stuck, the trees are the same, moved. -/
namespace Go.Proofs.YtckhafpejefbbaaGreatDoor.Tw
open Go

variable {l1 l2 : List UInt8} {ts1 ts2 : List Tok} {o N dd : Nat} {m : Mv}

variable (l1 l2 ts1 ts2 o m N dd)

def Two (f : Nat → PS → Option (T × PS)) (g : Nat → PS → Option (T × PS)) (n : Nat) : Prop :=
  ∀ {n' : Nat} {s1 s2 s1' s2' : PS} {r r2 : T}, Sim o dd N s1 s2 → f n s1 = some (r, s1') → s1'.stuck = false → g n' s2 = some (r2, s2') → s2'.stuck = false → r2 = r.re m ∧ Sim o dd N s1' s2'

structure WAll (n : Nat) : Prop where
  expr : Two o N dd m (exprS l1 ts1) (exprS l2 ts2) n
  lett : Two o N dd m (letS l1 ts1) (letS l2 ts2) n
  fn : Two o N dd m (funS l1 ts1) (funS l2 ts2) n
  cond : Two o N dd m (condS l1 ts1) (condS l2 ts2) n
  cmp : Two o N dd m (cmpS l1 ts1) (cmpS l2 ts2) n
  sum : Two o N dd m (sumS l1 ts1) (sumS l2 ts2) n
  term : Two o N dd m (termS l1 ts1) (termS l2 ts2) n
  part : ∀ (p : Part), Two o N dd m (fun n => partS l1 ts1 n p) (fun n => partS l2 ts2 n p) n
  chain : ∀ (p : Part) (g : List Int), (∀ x ∈ g, x ≠ 0) → (∀ x ∈ g, stopSort x = false) → Two o N dd m (fun n => chainS l1 ts1 n p g) (fun n => chainS l2 ts2 n p g) n
  chainFrom : ∀ (p : Part) (g : List Int) (a : T), (∀ x ∈ g, x ≠ 0) → (∀ x ∈ g, stopSort x = false) → Two o N dd m (fun n => chainFromS l1 ts1 n p g a) (fun n => chainFromS l2 ts2 n p g (a.re m)) n
  call : Two o N dd m (callS l1 ts1) (callS l2 ts2) n
  callFrom : ∀ (a : T), Two o N dd m (fun n => callFromS l1 ts1 n a) (fun n => callFromS l2 ts2 n (a.re m)) n
  atom : Two o N dd m (atomS l1 ts1) (atomS l2 ts2) n
  bracket : Two o N dd m (bracketS l1 ts1) (bracketS l2 ts2) n

variable {l1 l2 ts1 ts2 o m N dd}

end Go.Proofs.YtckhafpejefbbaaGreatDoor.Tw

/- Trees of the same types have their type shown the same. -/
namespace Go.Proofs.YtckhafpejefbbaaGreatDoor.Tw
open Go

end Go.Proofs.YtckhafpejefbbaaGreatDoor.Tw

/- The run's twin: more fuel alters nothing; a moved tree comes to the same; it answers of every tree whose names are bound. -/
namespace Go.Proofs.YtckhafpejefbbaaGreatDoor.Tw
open Go

/-! ### A moved tree -/

/-! ### It answers -/

def T.fit : T → Prop
  | .name .. | .truth .. | .side .. => True
  | .int _ _ v => -9223372036854775808 ≤ v ∧ v ≤ 9223372036854775807
  | .bracket _ _ i => i.fit
  | .pair _ _ x y => x.fit ∧ y.fit
  | .call _ _ x y => x.fit ∧ y.fit
  | .binary _ _ _ x y => x.fit ∧ y.fit
  | .cond _ _ x y z => x.fit ∧ y.fit ∧ z.fit
  | .fn _ _ _ _ x => x.fit
  | .lett _ _ _ _ _ x y => x.fit ∧ y.fit

def OkE (N : Nat) (e : VEnv) : Prop := ∀ p ∈ e, p.2 < N

def OkV (N : Nat) : Val → Prop
  | .num _ | .truth _ | .side _ => True
  | .pair l r => OkV N l ∧ OkV N r
  | .clo _ _ bn _ body env => body.freeS (bn :: env.map (·.1)) = none ∧ body.fit ∧ OkE N env

def OkS (st : RS) : Prop := ∀ v, some v ∈ st.slots → OkV st.slots.length v

structure OkOut (bud : Nat) (st : RS) (a : Option Val × RS) : Prop where
  slots : OkS a.2
  val : ∀ v, a.1 = some v → OkV a.2.slots.length v
  len : st.slots.length ≤ a.2.slots.length
  up : st.steps ≤ a.2.steps
  top : a.2.steps ≤ bud

end Go.Proofs.YtckhafpejefbbaaGreatDoor.Tw

/- What every tree of the parser keeps. -/
namespace Go.Proofs.YtckhafpejefbbaaGreatDoor.Tw
open Go

structure Makes (l : List UInt8) (P : T → Prop) : Prop where
  leaf : ∀ {t : Tok} {x : T}, leafS l t = some x → P x
  none : P (.name 0 0 [])
  bracket : ∀ {f t : Nat} {x : T}, P x → P (.bracket f t x)
  pair : ∀ {f t : Nat} {x y : T}, P x → P y → P (.pair f t x y)
  call : ∀ {f t : Nat} {x y : T}, P x → P y → P (.call f t x y)
  binary : ∀ {f t : Nat} {s : Int} {x y : T}, P x → P y → P (.binary f t s x y)
  cond : ∀ {f t : Nat} {x y z : T}, P x → P y → P z → P (.cond f t x y z)
  fn : ∀ {f t k : Nat} {n : List UInt8} {x : T}, P x → P (.fn f t n k x)
  lett : ∀ {f t k : Nat} {r : Bool} {n : List UInt8} {x y : T}, P x → P y → P (.lett f t r n k x y)

variable {l : List UInt8} {ts : List Tok}

structure PAll (l : List UInt8) (ts : List Tok) (P : T → Prop) (n : Nat) : Prop where
  expr : ∀ {s s' : PS} {r : T}, exprS l ts n s = some (r, s') → P r
  lett : ∀ {s s' : PS} {r : T}, letS l ts n s = some (r, s') → P r
  fn : ∀ {s s' : PS} {r : T}, funS l ts n s = some (r, s') → P r
  cond : ∀ {s s' : PS} {r : T}, condS l ts n s = some (r, s') → P r
  cmp : ∀ {s s' : PS} {r : T}, cmpS l ts n s = some (r, s') → P r
  sum : ∀ {s s' : PS} {r : T}, sumS l ts n s = some (r, s') → P r
  term : ∀ {s s' : PS} {r : T}, termS l ts n s = some (r, s') → P r
  part : ∀ {p : Part} {s s' : PS} {r : T}, partS l ts n p s = some (r, s') → P r
  chain : ∀ {p : Part} {g : List Int} {s s' : PS} {r : T}, chainS l ts n p g s = some (r, s') → P r
  chainFrom : ∀ {p : Part} {g : List Int} {a : T} {s s' : PS} {r : T}, P a → chainFromS l ts n p g a s = some (r, s') → P r
  call : ∀ {s s' : PS} {r : T}, callS l ts n s = some (r, s') → P r
  callFrom : ∀ {a : T} {s s' : PS} {r : T}, P a → callFromS l ts n a s = some (r, s') → P r
  atom : ∀ {s s' : PS} {r : T}, atomS l ts n s = some (r, s') → P r
  bracket : ∀ {s s' : PS} {r : T}, bracketS l ts n s = some (r, s') → P r

end Go.Proofs.YtckhafpejefbbaaGreatDoor.Tw

/- A text within a greater one: tokens and trees, read back from a parse that came out fine. -/
namespace Go.Proofs.YtckhafpejefbbaaGreatDoor.Tw
open Go

def shM (d : Nat) : Mv := ⟨fun p => d + p, fun q => d + q, fun _ v => v, fun _ x => x⟩

structure At (st : PS) (k d : Nat) : Prop where
  go : st.stuck = false
  next : st.next = k
  depth : st.depth = d

section
variable {l : List UInt8} {ts : List Tok} {st st' : PS} {k d : Nat} {u : Tok}

end

theorem parse_fine {l : List UInt8} {body : List Tok} {e1 : Tok} (hb : ∀ t ∈ body, t.sort ≠ 0) {n : Nat} {t : T} (h : parseS l (body ++ [e1]) n = some (.ok t)) : ∃ s, exprS l (body ++ [e1]) n ⟨0, 0, false, 0⟩ = some (t, s) ∧ s.stuck = false ∧ (s.next ≤ body.length → s.next = body.length) := by
  unfold parseS at h
  obtain ⟨⟨x, s1⟩, hx, h⟩ := Option.bind_eq_some_iff.1 h
  obtain ⟨⟨k, s2⟩, hk, h⟩ := Option.bind_eq_some_iff.1 h
  simp only [Option.some.injEq] at h hk
  have hs2 : s2.stuck = false := by
    cases hq : s2.stuck
    · rfl
    · rw [hq] at h; simp at h
  rw [hs2] at h
  simp only [Bool.false_eq_true, if_false, Except.ok.injEq] at h
  subst h
  have hs1 := (takeS_mild hk).1 hs2
  refine ⟨s1, hx, hs1, fun hle => ?_⟩
  rcases Nat.lt_or_ge s1.next body.length with hlt | hge
  · exfalso
    have ht : tokS (body ++ [e1]) s1 = some body[s1.next] := by
      unfold tokS
      rw [hs1]
      simp [List.getElem?_append_left hlt, List.getElem?_eq_getElem hlt]
    unfold takeS at hk
    rw [ht, Option.bind_some, if_neg (hb _ (List.getElem_mem hlt))] at hk
    obtain ⟨s9, q9, hk⟩ := Option.bind_eq_some_iff.1 hk
    cases hk
    rw [(failS_stuck q9).1] at hs2
    cases hs2
  · omega

end Go.Proofs.YtckhafpejefbbaaGreatDoor.Tw

/- General's four texts: their tokens and their trees. -/
namespace Go.Proofs.YtckhafpejefbbaaGreatDoor.Tw
open Go

def zz9 : List UInt8 := [122, 122, 57]

section
variable {s : List UInt8} {body : List Tok} {fp : Nat} {t : T} (hL : Lex 0 s body) (hp : parseS s (body ++ [⟨0, s.length, s.length⟩]) fp = some (.ok t)) (hl : s.length ≤ 100)
include hL

include hp hl

end

end Go.Proofs.YtckhafpejefbbaaGreatDoor.Tw

/- General's four texts: types and runs. -/
namespace Go.Proofs.YtckhafpejefbbaaGreatDoor.Tw
open Go

/-! ### Types of moved trees -/


inductive GTree (t : T) : Nat → T → Prop
  | lett {f t0 b f1 t1 d : Nat} : GTree t 0 (.lett f t0 false zz9 b (t.re (shM d)) (.name f1 t1 zz9))
  | fst {f1 t1 f2 t2 f3 t3 f4 t4 f5 t5 d : Nat} : GTree t 1 (.call f1 t1 (.side f2 t2 false) (.pair f3 t3 (.bracket f4 t4 (t.re (shM d))) (.int f5 t5 1)))
  | cond {f1 t1 f2 t2 f3 t3 d d' : Nat} : GTree t 2 (.cond f1 t1 (.truth f2 t2 true) (t.re (shM d)) (.bracket f3 t3 (t.re (shM d'))))
  | snd {f1 t1 f2 t2 f3 t3 f4 t4 f5 t5 f6 t6 f7 t7 b7 f8 t8 f9 t9 d : Nat} : GTree t 3 (.call f1 t1 (.side f2 t2 true) (.pair f3 t3 (.int f4 t4 1) (.call f5 t5 (.bracket f6 t6 (.fn f7 t7 zz9 b7 (.name f8 t8 zz9))) (.bracket f9 t9 (t.re (shM d))))))

/-! ### Names -/

/-! ### Runs -/

end Go.Proofs.YtckhafpejefbbaaGreatDoor.Tw

/- What Open answers of General's texts. -/
namespace Go.Proofs.YtckhafpejefbbaaGreatDoor.Tw
open Go

theorem tree_parts {fo : Nat} {t t1 : T} {sh : List UInt8} (h : treeS fo t = some (.fine t1 sh)) : t1 = t ∧ t.freeS [] = none ∧ (∃ w, weightS t .nil = some w ∧ w ≤ 2000) ∧ ofS fo t = some (some sh) := by
  unfold treeS at h
  cases hf : t.freeS [] with
  | some p => rw [hf] at h; cases h
  | none =>
    rw [hf] at h
    simp only [Option.bind_eq_some_iff] at h
    obtain ⟨k, hk, h⟩ := h
    split at h
    · cases h
    · rename_i hl
      simp only [Option.bind_eq_some_iff] at h
      obtain ⟨o, ho, h⟩ := h
      cases o with
      | none => cases h
      | some s => cases h; exact ⟨rfl, rfl, ⟨k, hk, by omega⟩, ho⟩

end Go.Proofs.YtckhafpejefbbaaGreatDoor.Tw

/- Trees that differ in the names of their binders and in places alone. -/
namespace Go.Proofs.YtckhafpejefbbaaGreatDoor.Tw
open Go

abbrev AE := List (List UInt8 × List UInt8)

def lookA : AE → List UInt8 → List UInt8 → Prop
  | [], x, y => x = y
  | (a, b) :: E, x, y => (a = x ∧ b = y) ∨ (a ≠ x ∧ b ≠ y ∧ lookA E x y)

inductive Al : AE → T → T → Prop
  | name {E : AE} {f t f' t' : Nat} {x y : List UInt8} (h : lookA E x y) : Al E (.name f t x) (.name f' t' y)
  | int {E : AE} {f t f' t' : Nat} {v : Int} : Al E (.int f t v) (.int f' t' v)
  | truth {E : AE} {f t f' t' : Nat} {v : Bool} : Al E (.truth f t v) (.truth f' t' v)
  | side {E : AE} {f t f' t' : Nat} {v : Bool} : Al E (.side f t v) (.side f' t' v)
  | bracket {E : AE} {f t f' t' : Nat} {i i' : T} (h : Al E i i') : Al E (.bracket f t i) (.bracket f' t' i')
  | pair {E : AE} {f t f' t' : Nat} {x y x' y' : T} (h : Al E x x') (k : Al E y y') : Al E (.pair f t x y) (.pair f' t' x' y')
  | call {E : AE} {f t f' t' : Nat} {x y x' y' : T} (h : Al E x x') (k : Al E y y') : Al E (.call f t x y) (.call f' t' x' y')
  | binary {E : AE} {f t f' t' : Nat} {s : Int} {x y x' y' : T} (h : Al E x x') (k : Al E y y') : Al E (.binary f t s x y) (.binary f' t' s x' y')
  | cond {E : AE} {f t f' t' : Nat} {x y z x' y' z' : T} (h : Al E x x') (k : Al E y y') (j : Al E z z') : Al E (.cond f t x y z) (.cond f' t' x' y' z')
  | fn {E : AE} {f t f' t' b b' : Nat} {n n' : List UInt8} {x x' : T} (h : Al ((n, n') :: E) x x') : Al E (.fn f t n b x) (.fn f' t' n' b' x')
  | lett {E : AE} {f t f' t' b b' : Nat} {r : Bool} {n n' : List UInt8} {x x' y y' : T} (h : Al (if r then (n, n') :: E else E) x x') (k : Al ((n, n') :: E) y y') : Al E (.lett f t r n b x y) (.lett f' t' r n' b' x' y')

/-! ### Names -/

/-! ### Weights -/

inductive WRel : AE → WEn → WEn → Prop
  | nil : WRel [] .nil .nil
  | cons {E : AE} {a b : List UInt8} {k : Nat} {o o' : WEn} (h : WRel E o o') : WRel ((a, b) :: E) (.cons a k o) (.cons b k o')

/-! ### Types -/

inductive ERel : AE → En → En → Prop
  | nil : ERel [] .nil .nil
  | fix {E : AE} {a b : List UInt8} {r : Nat} {o o' : En} (h : ERel E o o') : ERel ((a, b) :: E) (.fix a r o) (.fix b r o')
  | dfn {E : AE} {a b : List UInt8} {t t' : T} {o o' : En} (h : ERel E o o') (k : Al E t t') : ERel ((a, b) :: E) (.dfn a t o) (.dfn b t' o')

/-! ### Runs -/

inductive VERel : AE → VEnv → VEnv → Prop
  | nil : VERel [] [] []
  | cons {E : AE} {a b : List UInt8} {k : Nat} {o o' : VEnv} (h : VERel E o o') : VERel ((a, b) :: E) ((a, k) :: o) ((b, k) :: o')

inductive VR : Val → Val → Prop
  | num {n : Int} : VR (.num n) (.num n)
  | truth {b : Bool} : VR (.truth b) (.truth b)
  | side {b : Bool} : VR (.side b) (.side b)
  | pair {l r l' r' : Val} (h : VR l l') (k : VR r r') : VR (.pair l r) (.pair l' r')
  | clo {fr to fr' to' bat bat' : Nat} {n n' : List UInt8} {b b' : T} {e e' : VEnv} {E : AE} (h : VERel E e e') (k : Al ((n, n') :: E) b b') : VR (.clo fr to n bat b e) (.clo fr' to' n' bat' b' e')

inductive OR : Option Val → Option Val → Prop
  | none : OR none none
  | some {v v' : Val} (h : VR v v') : OR (some v) (some v')

structure SR (st st' : RS) : Prop where
  len : st.slots.length = st'.slots.length
  get : ∀ (i : Nat) (o : Option Val), st.slots[i]? = some o → ∃ o', st'.slots[i]? = some o' ∧ OR o o'
  steps : st.steps = st'.steps
  fin : st.fin = st'.fin

end Go.Proofs.YtckhafpejefbbaaGreatDoor.Tw

/- A binder with another name: the tree differs in binders' names alone. -/
namespace Go.Proofs.YtckhafpejefbbaaGreatDoor.Tw
open Go

def T.places : T → List Nat
  | .name f _ _ => [f]
  | .int .. | .truth .. | .side .. => []
  | .bracket _ _ i => i.places
  | .pair _ _ x y => x.places ++ y.places
  | .call _ _ x y => x.places ++ y.places
  | .binary _ _ _ x y => x.places ++ y.places
  | .cond _ _ x y z => x.places ++ (y.places ++ z.places)
  | .fn _ _ _ k x => k :: x.places
  | .lett _ _ _ _ k x y => k :: (x.places ++ y.places)

def T.occ (x : List UInt8) : T → List (List UInt8) → List Nat
  | .name f _ z, I => if z = x ∧ x ∉ I then [f] else []
  | .int .., _ | .truth .., _ | .side .., _ => []
  | .bracket _ _ i, I => i.occ x I
  | .pair _ _ a b, I => a.occ x I ++ b.occ x I
  | .call _ _ a b, I => a.occ x I ++ b.occ x I
  | .binary _ _ _ a b, I => a.occ x I ++ b.occ x I
  | .cond _ _ a b c, I => a.occ x I ++ (b.occ x I ++ c.occ x I)
  | .fn _ _ n _ a, I => a.occ x (n :: I)
  | .lett _ _ r n _ a b, I => a.occ x (if r then n :: I else I) ++ b.occ x (n :: I)

def T.capt (x y : List UInt8) : T → List (List UInt8) → Prop
  | .name _ _ z, I => z ∉ I ∧ (z = y ∨ (z = x ∧ y ∈ I))
  | .int .., _ | .truth .., _ | .side .., _ => False
  | .bracket _ _ i, I => i.capt x y I
  | .pair _ _ a b, I => a.capt x y I ∨ b.capt x y I
  | .call _ _ a b, I => a.capt x y I ∨ b.capt x y I
  | .binary _ _ _ a b, I => a.capt x y I ∨ b.capt x y I
  | .cond _ _ a b c, I => a.capt x y I ∨ (b.capt x y I ∨ c.capt x y I)
  | .fn _ _ n _ a, I => a.capt x y (n :: I)
  | .lett _ _ r n _ a b, I => a.capt x y (if r then n :: I else I) ∨ b.capt x y (n :: I)

theorem occ_sub (x : List UInt8) : ∀ (t : T) (I : List (List UInt8)), ∀ f ∈ t.occ x I, f ∈ t.places
  | .name f _ z, I, g, h => by
    simp only [T.occ] at h
    split at h
    · exact h
    · cases h
  | .int .., _, _, h => by cases h
  | .truth .., _, _, h => by cases h
  | .side .., _, _, h => by cases h
  | .bracket _ _ i, I, g, h => occ_sub x i I g h
  | .pair _ _ a b, I, g, h => by
    simp only [T.occ, T.places, List.mem_append] at h ⊢
    exact h.imp (occ_sub x a I g) (occ_sub x b I g)
  | .call _ _ a b, I, g, h => by
    simp only [T.occ, T.places, List.mem_append] at h ⊢
    exact h.imp (occ_sub x a I g) (occ_sub x b I g)
  | .binary _ _ _ a b, I, g, h => by
    simp only [T.occ, T.places, List.mem_append] at h ⊢
    exact h.imp (occ_sub x a I g) (occ_sub x b I g)
  | .cond _ _ a b c, I, g, h => by
    simp only [T.occ, T.places, List.mem_append] at h ⊢
    exact h.imp (occ_sub x a I g) fun h => h.imp (occ_sub x b I g) (occ_sub x c I g)
  | .fn _ _ n k a, I, g, h => by
    simp only [T.places, List.mem_cons]
    exact .inr (occ_sub x a (n :: I) g h)
  | .lett _ _ r n k a b, I, g, h => by
    simp only [T.occ, T.places, List.mem_append, List.mem_cons] at h ⊢
    exact .inr (h.imp (occ_sub x a _ g) (occ_sub x b (n :: I) g))

structure Named (m : Mv) (S : List Nat) (y : List UInt8) : Prop where
  val : ∀ f v, m.val f v = v
  at_ : ∀ f x, f ∈ S → m.nm f x = y
  other : ∀ f x, f ∉ S → m.nm f x = x

section
variable {m : Mv} {S : List Nat} {x y : List UInt8} (M : Named m S y)
include M

end

def T.hit (p : Nat) : T → Option T
  | .name .. | .int .. | .truth .. | .side .. => none
  | .bracket _ _ i => i.hit p
  | .pair _ _ a b => (a.hit p).or (b.hit p)
  | .call _ _ a b => (a.hit p).or (b.hit p)
  | .binary _ _ _ a b => (a.hit p).or (b.hit p)
  | .cond _ _ a b c => (a.hit p).or ((b.hit p).or (c.hit p))
  | .fn f t n k a => if k = p then some (.fn f t n k a) else a.hit p
  | .lett f t r n k a b => if k = p then some (.lett f t r n k a b) else (a.hit p).or (b.hit p)

def T.bname : T → List UInt8
  | .fn _ _ n _ _ => n
  | .lett _ _ _ n _ _ _ => n
  | _ => []

def T.useS : T → List Nat
  | .fn _ _ n _ a => a.occ n []
  | .lett _ _ r n _ a b => (if r then a.occ n [] else []) ++ b.occ n []
  | _ => []

def T.captN (y : List UInt8) : T → Prop
  | .fn _ _ n _ a => a.capt n y []
  | .lett _ _ r n _ a b => (r = true ∧ a.capt n y []) ∨ b.capt n y []
  | _ => False

theorem hit_place {p : Nat} : ∀ {t n : T}, t.hit p = some n → p ∈ t.places ∧ ∀ f ∈ n.useS, f ∈ t.places
  | .bracket _ _ i, n, h => hit_place (t := i) h
  | .pair _ _ a b, n, h => by
    simp only [T.hit, Option.or_eq_some_iff] at h
    simp only [T.places, List.mem_append]
    rcases h with h | ⟨_, h⟩
    · exact ⟨.inl (hit_place h).1, fun f hf => .inl ((hit_place h).2 f hf)⟩
    · exact ⟨.inr (hit_place h).1, fun f hf => .inr ((hit_place h).2 f hf)⟩
  | .call _ _ a b, n, h => by
    simp only [T.hit, Option.or_eq_some_iff] at h
    simp only [T.places, List.mem_append]
    rcases h with h | ⟨_, h⟩
    · exact ⟨.inl (hit_place h).1, fun f hf => .inl ((hit_place h).2 f hf)⟩
    · exact ⟨.inr (hit_place h).1, fun f hf => .inr ((hit_place h).2 f hf)⟩
  | .binary _ _ _ a b, n, h => by
    simp only [T.hit, Option.or_eq_some_iff] at h
    simp only [T.places, List.mem_append]
    rcases h with h | ⟨_, h⟩
    · exact ⟨.inl (hit_place h).1, fun f hf => .inl ((hit_place h).2 f hf)⟩
    · exact ⟨.inr (hit_place h).1, fun f hf => .inr ((hit_place h).2 f hf)⟩
  | .cond _ _ a b c, n, h => by
    simp only [T.hit, Option.or_eq_some_iff] at h
    simp only [T.places, List.mem_append]
    rcases h with h | ⟨_, h | ⟨_, h⟩⟩
    · exact ⟨.inl (hit_place h).1, fun f hf => .inl ((hit_place h).2 f hf)⟩
    · exact ⟨.inr (.inl (hit_place h).1), fun f hf => .inr (.inl ((hit_place h).2 f hf))⟩
    · exact ⟨.inr (.inr (hit_place h).1), fun f hf => .inr (.inr ((hit_place h).2 f hf))⟩
  | .fn f t nn k a, n, h => by
    simp only [T.hit] at h
    simp only [T.places, List.mem_cons]
    split at h
    · rename_i hk
      cases h
      exact ⟨.inl hk.symm, fun f hf => .inr (occ_sub _ a _ f hf)⟩
    · exact ⟨.inr (hit_place h).1, fun f hf => .inr ((hit_place h).2 f hf)⟩
  | .lett f t r nn k a b, n, h => by
    simp only [T.hit] at h
    simp only [T.places, List.mem_cons, List.mem_append]
    split at h
    · rename_i hk
      cases h
      refine ⟨.inl hk.symm, fun f hf => .inr ?_⟩
      simp only [T.useS, List.mem_append] at hf
      rcases hf with hf | hf
      · cases r
        · simp at hf
        · exact .inl (occ_sub _ a _ f hf)
      · exact .inr (occ_sub _ b _ f hf)
    · simp only [Option.or_eq_some_iff] at h
      rcases h with h | ⟨_, h⟩
      · exact ⟨.inr (.inl (hit_place h).1), fun f hf => .inr (.inl ((hit_place h).2 f hf))⟩
      · exact ⟨.inr (.inr (hit_place h).1), fun f hf => .inr (.inr ((hit_place h).2 f hf))⟩

end Go.Proofs.YtckhafpejefbbaaGreatDoor.Tw

/- The places of names and binders in a tree that was parsed: each is a token's, in their order. -/
namespace Go.Proofs.YtckhafpejefbbaaGreatDoor.Tw
open Go

def T.spans : T → List (Nat × Nat × List UInt8)
  | .name f t z => [(f, t, z)]
  | .int .. | .truth .. | .side .. => []
  | .bracket _ _ i => i.spans
  | .pair _ _ x y => x.spans ++ y.spans
  | .call _ _ x y => x.spans ++ y.spans
  | .binary _ _ _ x y => x.spans ++ y.spans
  | .cond _ _ x y z => x.spans ++ (y.spans ++ z.spans)
  | .fn _ _ n k x => (k, k + n.length, n) :: x.spans
  | .lett _ _ _ n k x y => (k, k + n.length, n) :: (x.spans ++ y.spans)

theorem places_spans : ∀ t : T, t.places = t.spans.map (·.1)
  | .name .. | .int .. | .truth .. | .side .. => rfl
  | .bracket _ _ i => places_spans i
  | .pair _ _ x y => by simp [T.places, T.spans, places_spans x, places_spans y]
  | .call _ _ x y => by simp [T.places, T.spans, places_spans x, places_spans y]
  | .binary _ _ _ x y => by simp [T.places, T.spans, places_spans x, places_spans y]
  | .cond _ _ x y z => by simp [T.places, T.spans, places_spans x, places_spans y, places_spans z]
  | .fn _ _ n k x => by simp [T.places, T.spans, places_spans x]
  | .lett _ _ _ n k x y => by simp [T.places, T.spans, places_spans x, places_spans y]

def tokAt (ts : List Tok) (i : Nat) : Tok := (ts[i]?).getD ⟨0, 0, 0⟩

def tokSpan (l : List UInt8) (t : Tok) : Nat × Nat × List UInt8 := (t.fr, t.to, piece l t.fr t.to)

def Pl (l : List UInt8) (ts : List Tok) (lo hi : Nat) (L : List (Nat × Nat × List UInt8)) : Prop :=
  ∃ is : List Nat, is.Pairwise (· < ·) ∧ (∀ i ∈ is, lo ≤ i ∧ i < hi ∧ ∃ t, ts[i]? = some t ∧ t.sort = 1) ∧ L = is.map fun i => tokSpan l (tokAt ts i)

variable {l : List UInt8} {ts : List Tok}

theorem Pl.nil {lo hi : Nat} : Pl l ts lo hi [] := ⟨[], .nil, fun i h => (by cases h), rfl⟩

theorem Pl.wide {lo hi lo' hi' : Nat} {L : List (Nat × Nat × List UInt8)} (h : Pl l ts lo hi L) (h1 : lo' ≤ lo) (h2 : hi ≤ hi') : Pl l ts lo' hi' L := by
  obtain ⟨is, a, b, c⟩ := h
  exact ⟨is, a, fun i hi => ⟨by have := (b i hi).1; omega, by have := (b i hi).2.1; omega, (b i hi).2.2⟩, c⟩

theorem Pl.append {lo mid hi : Nat} {A B : List (Nat × Nat × List UInt8)} (h : Pl l ts lo mid A) (k : Pl l ts mid hi B) (h1 : lo ≤ mid) (h2 : mid ≤ hi) : Pl l ts lo hi (A ++ B) := by
  obtain ⟨is, a, b, rfl⟩ := h
  obtain ⟨js, c, d, rfl⟩ := k
  refine ⟨is ++ js, List.pairwise_append.2 ⟨a, c, fun i hi j hj => by have := (b i hi).2.1; have := (d j hj).1; omega⟩, fun i hi => ?_, by simp⟩
  rcases List.mem_append.1 hi with hi | hi
  · exact ⟨(b i hi).1, by have := (b i hi).2.1; omega, (b i hi).2.2⟩
  · exact ⟨by have := (d i hi).1; omega, (d i hi).2.1, (d i hi).2.2⟩

theorem Pl.one {i hi : Nat} {t : Tok} (ht : ts[i]? = some t) (hs : t.sort = 1) (h : i < hi) : Pl l ts i hi [tokSpan l t] :=
  ⟨[i], by simp, fun j hj => by simp only [List.mem_singleton] at hj; subst hj; exact ⟨Nat.le_refl _, h, t, ht, hs⟩, by simp [tokAt, ht]⟩

def Pos (l : List UInt8) (ts : List Tok) (st : PS) (r : T) (st' : PS) : Prop := st.next ≤ st'.next ∧ Pl l ts st.next st'.next r.spans

structure OAll (l : List UInt8) (ts : List Tok) (n : Nat) : Prop where
  expr : ∀ {s s' : PS} {r : T}, exprS l ts n s = some (r, s') → s'.stuck = false → Pos l ts s r s'
  lett : ∀ {s s' : PS} {r : T}, letS l ts n s = some (r, s') → s'.stuck = false → Pos l ts s r s'
  fn : ∀ {s s' : PS} {r : T}, funS l ts n s = some (r, s') → s'.stuck = false → Pos l ts s r s'
  cond : ∀ {s s' : PS} {r : T}, condS l ts n s = some (r, s') → s'.stuck = false → Pos l ts s r s'
  cmp : ∀ {s s' : PS} {r : T}, cmpS l ts n s = some (r, s') → s'.stuck = false → Pos l ts s r s'
  sum : ∀ {s s' : PS} {r : T}, sumS l ts n s = some (r, s') → s'.stuck = false → Pos l ts s r s'
  term : ∀ {s s' : PS} {r : T}, termS l ts n s = some (r, s') → s'.stuck = false → Pos l ts s r s'
  part : ∀ {p : Part} {s s' : PS} {r : T}, partS l ts n p s = some (r, s') → s'.stuck = false → Pos l ts s r s'
  chain : ∀ {p : Part} {g : List Int} {s s' : PS} {r : T}, (∀ x ∈ g, x ≠ 0) → chainS l ts n p g s = some (r, s') → s'.stuck = false → Pos l ts s r s'
  chainFrom : ∀ {p : Part} {g : List Int} {a : T} {lo : Nat} {s s' : PS} {r : T}, (∀ x ∈ g, x ≠ 0) → lo ≤ s.next → Pl l ts lo s.next a.spans → chainFromS l ts n p g a s = some (r, s') → s'.stuck = false → s.next ≤ s'.next ∧ Pl l ts lo s'.next r.spans
  call : ∀ {s s' : PS} {r : T}, callS l ts n s = some (r, s') → s'.stuck = false → Pos l ts s r s'
  callFrom : ∀ {a : T} {lo : Nat} {s s' : PS} {r : T}, lo ≤ s.next → Pl l ts lo s.next a.spans → callFromS l ts n a s = some (r, s') → s'.stuck = false → s.next ≤ s'.next ∧ Pl l ts lo s'.next r.spans
  atom : ∀ {s s' : PS} {r : T}, atomS l ts n s = some (r, s') → s'.stuck = false → Pos l ts s r s'
  bracket : ∀ {s s' : PS} {r : T}, bracketS l ts n s = some (r, s') → s'.stuck = false → Pos l ts s r s'

theorem take_next {s : Int} {st st' : PS} {t : Tok} (h : takeS ts s st = some (t, st')) (hs : st'.stuck = false) (h0 : s ≠ 0) : st'.next = st.next + 1 ∧ ts[st.next]? = some t ∧ t.sort = s := by
  have hst := (takeS_mild h).1 hs
  obtain ⟨h1, h2, rfl, _⟩ := takeS_fine h hs h0
  refine ⟨rfl, ?_, h2⟩
  unfold tokS at h1
  rw [hst] at h1
  simpa using h1

theorem begin_next {s : Int} {st st' : PS} {k : Nat} (h : beginS ts s st = some (k, st')) (hs : st'.stuck = false) (h0 : s ≠ 0) : st'.next = st.next + 1 := by
  have d1 := (begin_deep h hs).1
  unfold beginS at h
  rw [if_neg d1, Option.bind_some] at h
  split at h
  · obtain ⟨⟨t1, s3⟩, h2, h⟩ := Option.bind_eq_some_iff.1 h
    cases h
    exact (take_next h2 hs h0).1
  · cases h

theorem any_next : ∀ {g : List Int} {st st' : PS} {k : Int}, (∀ x ∈ g, x ≠ 0) → takeAnyS ts g st = some (k, st') → st'.stuck = false → st.next ≤ st'.next
  | [], st, st', k, _, h, _ => by cases h; exact Nat.le_refl _
  | x :: g, st, st', k, h0, h, hs => by
    rw [takeAnyS] at h
    obtain ⟨t, ht, h⟩ := Option.bind_eq_some_iff.1 h
    split at h
    · obtain ⟨⟨t1, s3⟩, h2, h⟩ := Option.bind_eq_some_iff.1 h
      cases h
      have := (take_next h2 hs (h0 x (by simp))).1
      simp only at this ⊢
      omega
    · exact any_next (fun y hy => h0 y (by simp [hy])) h hs

theorem end_next {st st' : PS} (h : endS st = some st') : st'.next = st.next := by
  unfold endS at h
  split at h
  · cases h
  · cases h; rfl

theorem binder_next {st st' : PS} {x : List UInt8} {k : Nat} (h : binderS l ts st = some ((x, k), st')) (hs : st'.stuck = false) : st'.next = st.next + 1 ∧ Pl l ts st.next st'.next [(k, k + x.length, x)] := by
  unfold binderS at h
  obtain ⟨⟨t, s3⟩, h1, h⟩ := Option.bind_eq_some_iff.1 h
  split at h
  · rename_i hc
    cases h
    obtain ⟨a, b, c⟩ := take_next h1 hs (by decide)
    refine ⟨a, ?_⟩
    have e : (t.fr, t.fr + (piece l t.fr t.to).length, piece l t.fr t.to) = tokSpan l t := by
      simp only [tokSpan, Prod.mk.injEq, true_and, and_true]
      simp only [piece, List.length_take, List.length_drop]
      have := hc.1
      have := hc.2
      simp only at *
      omega
    rw [e, a]
    exact Pl.one b c (Nat.lt_succ_self _)
  · cases h

theorem pos_all (l : List UInt8) (ts : List Tok) : ∀ n, OAll l ts n
  | 0 => by constructor <;> (intros; simp_all [exprS, letS, funS, condS, cmpS, sumS, termS, partS, chainS, chainFromS, callS, callFromS, atomS, bracketS])
  | n + 1 => by
    have ih := pos_all l ts n
    have M := mild_all l ts n
    constructor
    case expr =>
      intro s s' r h hs
      rw [exprS] at h
      obtain ⟨t, _, h⟩ := Option.bind_eq_some_iff.1 h
      split at h
      · exact ih.lett h hs
      split at h
      · exact ih.fn h hs
      split at h
      · exact ih.cond h hs
      · exact ih.cmp h hs
    case lett =>
      intro s s' r h hs
      simp only [letS, Option.bind_eq_some_iff, Option.some.injEq, Prod.mk.injEq, Prod.exists] at h
      obtain ⟨k, t1, h1, rc, t2, h2, bn, bat, t3, h3, c4, t4, h4, d, t5, h5, c6, t6, h6, x, t7, h7, t8, h8, rfl, rfl⟩ := h
      have a7 : t7.stuck = false := by rw [← (endS_mild h8).1]; exact hs
      have a6 := (M.expr h7).1 a7
      have a5 := (takeS_mild h6).1 a6
      have a4 := (M.expr h5).1 a5
      have a3 := (takeS_mild h4).1 a4
      have a2 := (binderS_mild h3).1 a3
      have a1 := (takeAnyS_mild h2).1 a2
      have n1 := begin_next h1 a1 (by decide)
      have n2 := any_next (by decide) h2 a2
      obtain ⟨n3, p3⟩ := binder_next h3 a3
      have n4 := (take_next h4 a4 (by decide)).1
      obtain ⟨n5, p5⟩ := ih.expr h5 a5
      have n6 := (take_next h6 a6 (by decide)).1
      obtain ⟨n7, p7⟩ := ih.expr h7 a7
      have n8 := end_next h8
      refine ⟨by omega, ?_⟩
      have q := ((p5.wide (Nat.le_refl _) (by omega : t5.next ≤ t6.next)).append p7 (by omega) (by omega))
      exact (p3.append (q.wide (by omega : t3.next ≤ t4.next) (by omega : t7.next ≤ t8.next)) (by omega) (by omega)).wide (by omega) (Nat.le_refl _)
    case fn =>
      intro s s' r h hs
      simp only [funS, Option.bind_eq_some_iff, Option.some.injEq, Prod.mk.injEq, Prod.exists] at h
      obtain ⟨k, t1, h1, bn, bat, t3, h3, c4, t4, h4, d, t5, h5, t8, h8, rfl, rfl⟩ := h
      have a5 : t5.stuck = false := by rw [← (endS_mild h8).1]; exact hs
      have a4 := (M.expr h5).1 a5
      have a3 := (takeS_mild h4).1 a4
      have a1 := (binderS_mild h3).1 a3
      have n1 := begin_next h1 a1 (by decide)
      obtain ⟨n3, p3⟩ := binder_next h3 a3
      have n4 := (take_next h4 a4 (by decide)).1
      obtain ⟨n5, p5⟩ := ih.expr h5 a5
      have n8 := end_next h8
      refine ⟨by omega, ?_⟩
      exact (p3.append (p5.wide (by omega : t3.next ≤ t4.next) (by omega : t5.next ≤ t8.next)) (by omega) (by omega)).wide (by omega) (Nat.le_refl _)
    case cond =>
      intro s s' r h hs
      simp only [condS, Option.bind_eq_some_iff, Option.some.injEq, Prod.mk.injEq, Prod.exists] at h
      obtain ⟨k, t1, h1, x, t2, h2, c3, t3, h3, y, t4, h4, c5, t5, h5, z, t6, h6, t8, h8, rfl, rfl⟩ := h
      have a6 : t6.stuck = false := by rw [← (endS_mild h8).1]; exact hs
      have a5 := (M.expr h6).1 a6
      have a4 := (takeS_mild h5).1 a5
      have a3 := (M.expr h4).1 a4
      have a2 := (takeS_mild h3).1 a3
      have a1 := (M.expr h2).1 a2
      have n1 := begin_next h1 a1 (by decide)
      obtain ⟨n2, p2⟩ := ih.expr h2 a2
      have n3 := (take_next h3 a3 (by decide)).1
      obtain ⟨n4, p4⟩ := ih.expr h4 a4
      have n5 := (take_next h5 a5 (by decide)).1
      obtain ⟨n6, p6⟩ := ih.expr h6 a6
      have n8 := end_next h8
      refine ⟨by omega, ?_⟩
      have q := (p4.wide (Nat.le_refl _) (by omega : t4.next ≤ t5.next)).append p6 (by omega) (by omega)
      exact ((p2.wide (by omega : s.next ≤ t1.next) (by omega : t2.next ≤ t3.next)).append (q.wide (Nat.le_refl _) (by omega : t6.next ≤ t8.next)) (by omega) (by omega))
    case cmp =>
      intro s s' r h hs
      simp only [cmpS, Option.bind_eq_some_iff, Prod.exists] at h
      obtain ⟨x, t1, h1, sg, t2, h2, h⟩ := h
      split at h
      · cases h
        have a1 := (takeAnyS_mild h2).1 hs
        obtain ⟨n1, p1⟩ := ih.sum h1 a1
        have n2 := any_next (by decide) h2 hs
        exact ⟨by omega, p1.wide (Nat.le_refl _) n2⟩
      · simp only [Option.bind_eq_some_iff, Option.some.injEq, Prod.mk.injEq, Prod.exists] at h
        obtain ⟨y, t3, h3, rfl, rfl⟩ := h
        have a2 := (M.sum h3).1 hs
        have a1 := (takeAnyS_mild h2).1 a2
        obtain ⟨n1, p1⟩ := ih.sum h1 a1
        have n2 := any_next (by decide) h2 a2
        obtain ⟨n3, p3⟩ := ih.sum h3 hs
        exact ⟨by omega, (p1.wide (Nat.le_refl _) n2).append p3 (by omega) n3⟩
    case sum =>
      intro s s' r h hs
      rw [sumS] at h
      exact ih.chain (by decide) h hs
    case term =>
      intro s s' r h hs
      rw [termS] at h
      exact ih.chain (by decide) h hs
    case part =>
      intro p s s' r h hs
      cases p with
      | term => rw [partS] at h; exact ih.term h hs
      | call => rw [partS] at h; exact ih.call h hs
    case chain =>
      intro p g s s' r hg h hs
      simp only [chainS, Option.bind_eq_some_iff, Prod.exists] at h
      obtain ⟨a, t1, h1, h2⟩ := h
      have a1 := (M.chainFrom h2).1 hs
      obtain ⟨n1, p1⟩ := ih.part h1 a1
      obtain ⟨n2, p2⟩ := ih.chainFrom hg n1 p1 h2 hs
      exact ⟨by omega, p2⟩
    case chainFrom =>
      intro p g a lo s s' r hg hlo hp h hs
      simp only [chainFromS, Option.bind_eq_some_iff, Prod.exists] at h
      obtain ⟨k, t1, h1, h⟩ := h
      split at h
      · cases h
        have n1 := any_next hg h1 hs
        exact ⟨n1, hp.wide (Nat.le_refl _) n1⟩
      · simp only [Option.bind_eq_some_iff, Prod.exists] at h
        obtain ⟨c, t2, h2, h3⟩ := h
        have a2 := (M.chainFrom h3).1 hs
        have a1 := (M.part h2).1 a2
        have n1 := any_next hg h1 a1
        obtain ⟨n2, p2⟩ := ih.part h2 a2
        obtain ⟨n3, p3⟩ := ih.chainFrom hg (lo := lo) (by omega) ((hp.wide (Nat.le_refl _) n1).append p2 (by omega) n2) h3 hs
        exact ⟨by omega, p3⟩
    case call =>
      intro s s' r h hs
      simp only [callS, Option.bind_eq_some_iff, Prod.exists] at h
      obtain ⟨a, t1, h1, h2⟩ := h
      have a1 := (M.callFrom h2).1 hs
      obtain ⟨n1, p1⟩ := ih.atom h1 a1
      obtain ⟨n2, p2⟩ := ih.callFrom n1 p1 h2 hs
      exact ⟨by omega, p2⟩
    case callFrom =>
      intro a lo s s' r hlo hp h hs
      simp only [callFromS, Option.bind_eq_some_iff] at h
      obtain ⟨t, ht, h⟩ := h
      split at h
      · simp only [Option.bind_eq_some_iff, Prod.exists] at h
        obtain ⟨c, t3, h2, h3⟩ := h
        have a2 := (M.callFrom h3).1 hs
        obtain ⟨n2, p2⟩ := ih.atom h2 a2
        obtain ⟨n3, p3⟩ := ih.callFrom (lo := lo) (by omega) (hp.append p2 (by omega) n2) h3 hs
        exact ⟨by omega, p3⟩
      · cases h
        exact ⟨Nat.le_refl _, hp⟩
    case atom =>
      intro s s' r h hs
      simp only [atomS, Option.bind_eq_some_iff] at h
      obtain ⟨t, ht, h⟩ := h
      split at h
      · exact ih.bracket h hs
      split at h
      · rename_i h16 hb
        simp only [Option.bind_eq_some_iff, Option.some.injEq, Prod.mk.injEq, Prod.exists] at h
        obtain ⟨c, t3, h2, x, h3, rfl, rfl⟩ := h
        simp only [beginsAtom, decide_eq_true_eq] at hb
        have h0 : t.sort ≠ 0 := by omega
        have hst := (takeS_mild h2).1 hs
        obtain ⟨n1, q1, q2⟩ := take_next h2 hs h0
        have ht' : ts[s.next]? = some t := by
          unfold tokS at ht
          rw [hst] at ht
          simpa using ht
        refine ⟨by omega, ?_⟩
        unfold leafS at h3
        split at h3
        · split at h3
          · obtain ⟨v, _, h3⟩ := Option.bind_eq_some_iff.1 h3
            cases h3
            exact Pl.nil
          · cases h3
        split at h3
        · cases h3; exact Pl.nil
        split at h3
        · cases h3; exact Pl.nil
        split at h3
        · cases h3
          exact Pl.one ht' (by omega) (by omega)
        · cases h3
      · simp only [Option.bind_eq_some_iff, Option.some.injEq, Prod.mk.injEq] at h
        obtain ⟨_, h2, rfl, rfl⟩ := h
        rw [(failS_stuck h2).1] at hs
        cases hs
    case bracket =>
      intro s s' r h hs
      simp only [bracketS, Option.bind_eq_some_iff, Prod.exists] at h
      obtain ⟨k, t1, h1, x, t2, h2, sg, t3, h3, h⟩ := h
      split at h
      · simp only [Option.bind_eq_some_iff, Option.some.injEq, Prod.mk.injEq, Prod.exists] at h
        obtain ⟨y, t4, h4, c5, t5, h5, t6, h6, rfl, rfl⟩ := h
        have a5 : t5.stuck = false := by rw [← (endS_mild h6).1]; exact hs
        have a4 := (takeS_mild h5).1 a5
        have a3 := (M.expr h4).1 a4
        have a2 := (takeAnyS_mild h3).1 a3
        have a1 := (M.expr h2).1 a2
        have n1 := begin_next h1 a1 (by decide)
        obtain ⟨n2, p2⟩ := ih.expr h2 a2
        have n3 := any_next (by decide) h3 a3
        obtain ⟨n4, p4⟩ := ih.expr h4 a4
        have n5 := (take_next h5 a5 (by decide)).1
        have n6 := end_next h6
        exact ⟨by omega, (p2.wide (by omega : s.next ≤ t1.next) n3).append (p4.wide (Nat.le_refl _) (by omega : t4.next ≤ t6.next)) (by omega) (by omega)⟩
      · simp only [Option.bind_eq_some_iff, Option.some.injEq, Prod.mk.injEq, Prod.exists] at h
        obtain ⟨c5, t5, h5, t6, h6, rfl, rfl⟩ := h
        have a5 : t5.stuck = false := by rw [← (endS_mild h6).1]; exact hs
        have a3 := (takeS_mild h5).1 a5
        have a2 := (takeAnyS_mild h3).1 a3
        have a1 := (M.expr h2).1 a2
        have n1 := begin_next h1 a1 (by decide)
        obtain ⟨n2, p2⟩ := ih.expr h2 a2
        have n3 := any_next (by decide) h3 a3
        have n5 := (take_next h5 a5 (by decide)).1
        have n6 := end_next h6
        exact ⟨by omega, p2.wide (by omega : s.next ≤ t1.next) (by omega : t2.next ≤ t6.next)⟩

theorem parse_pos {n : Nat} {t : T} (h : parseS l ts n = some (.ok t)) : ∃ hi, Pl l ts 0 hi t.spans := by
  unfold parseS at h
  obtain ⟨⟨x, s1⟩, hx, h⟩ := Option.bind_eq_some_iff.1 h
  obtain ⟨⟨k, s2⟩, hk, h⟩ := Option.bind_eq_some_iff.1 h
  simp only [Option.some.injEq] at h hk
  have hs2 : s2.stuck = false := by
    cases hq : s2.stuck
    · rfl
    · rw [hq] at h; simp at h
  rw [hs2] at h
  simp only [Bool.false_eq_true, if_false, Except.ok.injEq] at h
  subst h
  exact ⟨_, ((pos_all l ts n).expr hx ((takeS_mild hk).1 hs2)).2⟩

end Go.Proofs.YtckhafpejefbbaaGreatDoor.Tw

/- The tokens of a text in which some names are replaced by another. -/
namespace Go.Proofs.YtckhafpejefbbaaGreatDoor.Tw
open Go

def chgR : Nat → List UInt8 → List (Nat × Nat × List UInt8) → List UInt8
  | _, m, [] => m
  | off, m, (f, t, b) :: cs => m.take (f - off) ++ (b ++ chgR t (m.drop (t - off)) cs)

end Go.Proofs.YtckhafpejefbbaaGreatDoor.Tw

/- The tokens of a text in which some names are replaced by another; whole. -/
namespace Go.Proofs.YtckhafpejefbbaaGreatDoor.Tw
open Go

structure Nm (y : List UInt8) : Prop where
  head : smallI (headI y) = true
  all : ∀ c ∈ y, wordI c.toNat = true
  len : y.length ≤ 6
  sort : wordSortL y = 1

def chs (dx : Nat) (y : List UInt8) (S : List Nat) : List (Nat × Nat × List UInt8) := S.map fun f => (f, f + dx, y)

section
variable {dx : Nat} {y : List UInt8}

def Reps (dx : Nat) (ts : List Tok) (S : List Nat) : Prop := S.Pairwise (· < ·) ∧ ∀ f ∈ S, ∃ t ∈ ts, t.fr = f ∧ t.sort = 1 ∧ t.to = f + dx

end

end Go.Proofs.YtckhafpejefbbaaGreatDoor.Tw

/- The bytes of a text in which names are replaced. -/
namespace Go.Proofs.YtckhafpejefbbaaGreatDoor.Tw
open Go

variable {dx : Nat} {y : List UInt8}

end Go.Proofs.YtckhafpejefbbaaGreatDoor.Tw

/- The library's contracts, one more. -/
namespace Go.Proofs.YtckhafpejefbbaaGreatDoor
open Go.ChangeShapes Go.WideShapes Go.ChangeAt Go.RowKit

theorem lib5 : Lib5 := { lib4 with it := fun i hi w => (Tryz.strconv_Itoa_small i hi w).mono fun _ _ ⟨h1, h2⟩ => ⟨h1, h2.symm⟩ }

end Go.Proofs.YtckhafpejefbbaaGreatDoor

/- tailorkeep.General. -/
namespace Go.Proofs.YtckhafpejefbbaaGreatDoor
open Go.RowKit

theorem ofSaid_any (hIt : Said.ItoaSmall) {t : Tw.T} {fuel : Nat} {sh : List UInt8} (hf : Tw.ofS fuel t = some (some sh)) : OfSaid WtS t sh := fun _ _ _ hr => Of_any hIt hr hf

end Go.Proofs.YtckhafpejefbbaaGreatDoor

/- A range over a function that itself ranges over another: what such a function and the rounds owe each other, and the loop over it. -/
namespace Go.Proofs.YtckhafpejefbbaaGreatDoor
open Go Go.RowKit

def SeqOk {α : Type} (P : Program) (g : Nat) (lb : Array Value) (encs : α → Array Value) (Ok : α → World → Prop) (Kp : World → World → Prop) (S Sp : List α → Prop) (N : Nat) (w : World) : Prop :=
  ∀ (l : Nat) (J Jx : List α → World → Prop) (W : World), Below w.heap.size w W → OwnFrom W.heap.size J → OwnFrom W.heap.size Jx →
    (∀ pre x W1, J pre W1 → pre.length < N → Ok x W1 → YieldAt Fence.wide 0 P l (encs x) W1 fun e W' => KeepsFrom W.heap.size W1 W' ∧
      ((e = .returned (.bool true) ∧ J (pre ++ [x]) W' ∧ Kp W1 W') ∨ (e = .returned (.bool false) ∧ Jx (pre ++ [x]) W'))) →
    J [] W →
    Calls P g (#[.func (.yield l) #[] #[]] ++ lb) W fun e W' => (∃ v, e = .returned v) ∧ ((∃ xs, S xs ∧ J xs W') ∨ (∃ pre, Sp pre ∧ Jx pre W'))

abbrev SeqO {α : Type} (P : Program) (g : Nat) (lb : Array Value) (encs : α → Array Value) (Kp : World → World → Prop) (S Sp : List α → Prop) (N : Nat) (w : World) : Prop := SeqOk P g lb encs (fun _ _ => True) Kp S Sp N w

theorem yieldAt_any {m m' : Nat} {P : Program} {l : Nat} {args : Array Value} {W : World} {R : Ending → World → Prop} (h : YieldAt Fence.wide m P l args W R) : YieldAt Fence.wide m' P l args W R := by
  obtain ⟨fn, tmps, assign, body, hy, hR⟩ := h
  exact ⟨fn, tmps, assign, body, hy, hR.1, fun c cs _ => hR.2 c cs (room_wide _)⟩

theorem seqO_of {α : Type} {n : Nat} {P : Program} {g : Nat} {lb : Array Value} {encs : α → Array Value} {Kp : World → World → Prop} {S Sp : List α → Prop} {N : Nat} {w : World} (h : SeqStopsK Fence.wide n P g lb encs Kp S Sp N w) : SeqO P g lb encs Kp S Sp N w := by
  intro l J Jx W hW hJ hJx hY h0
  have weak : ∀ {K : List α → World → Prop}, OwnFrom W.heap.size K → AbidesFrom W.heap.size K := fun hK s A B row hs hg hr =>
    hK s A B row hs hg fun r e => ⟨(hr r e).1, by obtain ⟨o, ho, hw⟩ := (hr r e).2; exact ⟨o, ho, Obj.not_cells_of_walk hw⟩⟩
  exact callsIn_wide.1 (h l J Jx W hW (weak hJ) (weak hJx) (fun pre x W1 hj hl => yieldAt_any (YieldAt.mono (hY pre x W1 hj hl trivial) fun e W' hr => hr.2)) h0)

theorem keepsFrom_trans {B : Nat} {A C D : World} (h : KeepsFrom B A C) (k : KeepsFrom B C D) : KeepsFrom B A D := ⟨Nat.le_trans h.size k.size, fun i o hi ho hc => k.same i o hi (h.same i o hi ho hc) hc⟩
theorem keepsFrom_up {B B' : Nat} (hB : B ≤ B') {A C : World} (h : KeepsFrom B A C) : KeepsFrom B' A C := ⟨h.size, fun i o hi ho hc => h.same i o (Nat.le_trans hB hi) ho hc⟩
theorem keepsFrom_put {B l : Nat} (hl : l < B) (W : World) (o : Obj) : KeepsFrom B W (W.putObj l o) :=
  ⟨by simp [World.putObj], fun i o' hi ho _ => (World.putObj_heap_other (by omega)).trans ho⟩

structure RecOf (rc : LoopState → Option Code → Loop) (fn : FuncId) (tmps : Array Value) (ps : Array Tmp) (assign body : Code) (D : Nat) : Prop where
  eq : rc = fun st pe => { state := st, pending := pe, fn := fn, tmps := tmps, params := ps, assign := assign, body := body, defers := D }

variable {P : Program} {α : Type}

theorem round_o {rc : LoopState → Option Code → Loop} {fn : FuncId} {tmps : Array Value} {ps : Array Tmp} {assign body : Code} {D l B B' m : Nat} (R : RecOf rc fn tmps ps assign body D) (hB : B ≤ l) (hB' : l < B')
    {encs : α → Array Value} {Kp : World → World → Prop} (hKt : ∀ {A B C : World}, Kp A B → Kp B C → Kp A C) (hKb : ∀ (W : World) (l : Nat) (o o' : Obj), B ≤ l → W.heap[l]? = some o → o.isCells = false → o.isWalk = false → Kp W (W.putObj l o')) (hps : ∀ x, (encs x).size = ps.size)
    {I : List α → World → Prop} {Ix : Code → List α → World → Prop} (hI : OwnFrom B I) (hIx : ∀ c, OwnFrom B (Ix c)) {a₁ : α → Act} {pre : List α} {x : α} {W : World} {Ok : α → World → Prop} (hOk : OwnFrom B (fun (_ : Unit) W => Ok x W)) (hok : Ok x W) (hi : I pre W) (hl : W.heap[l]? = some (.loop (rc .ready none)))
    (hassign : ∀ (W : World) (K : Act → World → Prop), K (a₁ x) W → assign.wpIn (Fence.wide.inRound l) m P (Exit.then K (fun _ _ _ => False)) { tmps := (ps.zip (encs x)).foldl (fun t (p, v) => t.setIfInBounds p v) tmps, defers := [] } W)
    (hbody : ∀ W, (∃ r, W.heap[l]? = some (.loop r)) → I pre W → Ok x W → body.wpIn (Fence.wide.inRound l) m P (ownPostG B Kp I Ix (pre ++ [x]) W) (a₁ x) W) :
    YieldAt Fence.wide m P l (encs x) W fun e W' => KeepsFrom B' W W' ∧
      ((e = .returned (.bool true) ∧ (I (pre ++ [x]) W' ∧ W'.heap[l]? = some (.loop (rc .ready none))) ∧ Kp W W') ∨ (e = .returned (.bool false) ∧ ∃ c, Ix c (pre ++ [x]) W' ∧ W'.heap[l]? = some (.loop (rc .done (some c))))) := by
  have fld : (rc .ready none).params = ps ∧ (rc .ready none).fn = fn ∧ (rc .ready none).tmps = tmps ∧ (rc .ready none).assign = assign ∧ (rc .ready none).body = body := by rw [R.eq]; exact ⟨rfl, rfl, rfl, rfl, rfl⟩
  have hy := run_yield (P := P) (args := encs x) hl (by rw [fld.1]; exact hps x)
  rw [fld.1, fld.2.1, fld.2.2.1, fld.2.2.2.1, fld.2.2.2.2] at hy
  refine ⟨fn, _, assign, body, hy, roundIn_of_wpIn trivial (hassign W _ ?_)⟩
  have hlt := (Array.getElem?_eq_some_iff.1 hl).1
  refine ⟨_, run_beginRound hl (by rw [R.eq]), ?_⟩
  obtain ⟨busy, hbusy⟩ : ∃ b, ({ rc .ready none with state := .busy } : Loop) = b := ⟨_, rfl⟩
  rw [hbusy]
  have hend : ∀ j : Option Code, ({ busy with state := if j.isNone then .ready else .done, pending := j } : Loop) = rc (if j.isNone then .ready else .done) j := fun j => by rw [← hbusy, R.eq]
  have lb : (W.putObj l (.loop busy)).heap[l]? = some (.loop busy) := World.putObj_heap_same hlt
  have k0 : KeepsFrom B' W (W.putObj l (.loop busy)) := keepsFrom_put hB' W _
  have p0 : Kp W (W.putObj l (.loop busy)) := hKb _ _ _ _ hB hl rfl rfl
  refine wpIn_mono (hbody _ ⟨busy, lb⟩ (hI.putObj _ hi hB hl rfl) (hOk.putObj (s := ()) _ hok hB hl rfl)) ?_
  -- a round's end
  have fin : ∀ (j : Option Code) (W3 : World), KeepsFrom B (W.putObj l (.loop busy)) W3 → W3.heap[l]? = some (.loop busy) ∧ (Instr.endRound l j).run P W3 = .ok (.bool j.isNone) (W3.putObj l (.loop (rc (if j.isNone then .ready else .done) j))) ∧ KeepsFrom B' W (W3.putObj l (.loop (rc (if j.isNone then .ready else .done) j))) := fun j W3 k3 => by
    have l3 := k3.same l _ hB lb rfl
    have e := run_endRound (P := P) j l3
    rw [hend] at e
    exact ⟨l3, e, keepsFrom_trans (keepsFrom_trans k0 (keepsFrom_up (by omega) k3)) (keepsFrom_put hB' _ _)⟩
  have leave : ∀ (c : Code) (W3 : World), KeepsFrom B (W.putObj l (.loop busy)) W3 → Ix c (pre ++ [x]) W3 → ∃ v W4, (Instr.endRound l (some c)).run P W3 = .ok v W4 ∧ (KeepsFrom B' W W4 ∧ ((Ending.returned v = .returned (.bool true) ∧ (I (pre ++ [x]) W4 ∧ W4.heap[l]? = some (.loop (rc .ready none))) ∧ Kp W W4) ∨ (Ending.returned v = .returned (.bool false) ∧ ∃ c, Ix c (pre ++ [x]) W4 ∧ W4.heap[l]? = some (.loop (rc .done (some c)))))) := fun c W3 k3 hx => by
    obtain ⟨l3, e, k4⟩ := fin (some c) W3 k3
    exact ⟨_, _, e, k4, .inr ⟨rfl, c, (hIx c).putObj _ hx hB l3 rfl, World.putObj_heap_same (Array.getElem?_eq_some_iff.1 l3).1⟩⟩
  rintro e a3 W3 hp
  cases e with
  | normal =>
    obtain ⟨k3, p3, i3⟩ := hp
    obtain ⟨l3, e, k4⟩ := fin none W3 k3
    exact ⟨_, _, e, k4, .inl ⟨rfl, ⟨hI.putObj _ i3 hB l3 rfl, World.putObj_heap_same (Array.getElem?_eq_some_iff.1 l3).1⟩, hKt (hKt p0 p3) (hKb _ _ _ _ hB l3 rfl rfl)⟩⟩
  | ret => exact leave .ret W3 hp.1 hp.2
  | exit id => exact leave (.exit id) W3 hp.1 hp.2
  | goto t => exact leave (.goto t) W3 hp.1 hp.2
  | panic ch => exact hp.elim
  | outgrown => exact hp.elim

variable {n : Nat} {g : Operand} {ps : Array Tmp} {assign body : Code} {Q : Exit → Act → World → Prop} {a : Act} {w : World}

theorem range_o {gf : Nat} {lb : Array Value} (hg : a.eval g = .func (.func gf) #[] lb) (eg : ∀ args w, (callFunc gf args).run P w = .ok (.enter gf args) w)
    {encs : α → Array Value} {Ok : α → World → Prop} {Kp : World → World → Prop} {S Sp : List α → Prop} {N : Nat} {w0 : World} (hseq : SeqOk P gf lb encs Ok Kp S Sp N w0) (hOk : ∀ x, OwnFrom w.heap.size (fun (_ : Unit) W => Ok x W))
    (hKt : ∀ {A B C : World}, Kp A B → Kp B C → Kp A C) (hKb : ∀ (W : World) (l : Nat) (o o' : Obj), w.heap.size ≤ l → W.heap[l]? = some o → o.isCells = false → o.isWalk = false → Kp W (W.putObj l o')) (hb0 : Below w0.heap.size w0 w) (hps : ∀ x, (encs x).size = ps.size)
    (I : List α → World → Prop) (Ix : Code → List α → World → Prop) (hI : OwnFrom w.heap.size I) (hIx : ∀ c, OwnFrom w.heap.size (Ix c)) (h0 : I [] w) (a₁ : α → Act)
    (hassign : ∀ (l : Nat) (x : α) (W : World) (K : Act → World → Prop), K (a₁ x) W → assign.wpIn (Fence.wide.inRound l) 0 P (Exit.then K (fun _ _ _ => False)) { tmps := (ps.zip (encs x)).foldl (fun t (p, v) => t.setIfInBounds p v) a.tmps, defers := [] } W)
    (hbody : ∀ (l : Nat) (pre : List α) (x : α) (W : World), w.heap.size ≤ l → (∃ r, W.heap[l]? = some (.loop r)) → I pre W → pre.length < N → Ok x W → body.wpIn (Fence.wide.inRound l) 0 P (ownPostG w.heap.size Kp I Ix (pre ++ [x]) W) (a₁ x) W)
    (hdone : ∀ (D : Nat) (xs : List α) (W : World), w.heap.size ≤ D → S xs → I xs W → W.heap[D]? = some (.deferred (some [])) → Q .normal { a with defers := { target := .collected D, args := #[] } :: a.defers } W)
    (hstop : ∀ (D : Nat) (c : Code) (pre : List α) (W : World), w.heap.size ≤ D → Sp pre → Ix c pre W → W.heap[D]? = some (.deferred (some [])) → c.wpIn Fence.wide n P Q { a with defers := { target := .collected D, args := #[] } :: a.defers } W) :
    (Code.rangeFunc g ps assign body).wpIn Fence.wide n P Q a w := by
  refine wpIn_rangeFunc fun fn _ => ?_
  obtain ⟨rc, hrc⟩ : ∃ rc : LoopState → Option Code → Loop, RecOf rc fn a.tmps ps assign body w.heap.size := ⟨_, ⟨rfl⟩⟩
  obtain ⟨W1, hW1⟩ : ∃ W1, (w.alloc (.deferred (some []))).alloc (.loop (rc .ready none)) = W1 := ⟨_, rfl⟩
  have z1 : W1.heap.size = w.heap.size + 2 := by rw [← hW1]; simp
  have hl1 : W1.heap[w.heap.size + 1]? = some (.loop (rc .ready none)) := by
    have := World.alloc_heap_new (w.alloc (.deferred (some []))) (.loop (rc .ready none))
    rw [World.size_alloc] at this
    rw [← hW1]
    exact this
  have hd1 : W1.heap[w.heap.size]? = some (.deferred (some [])) := by
    rw [← hW1]
    exact (Below.heap_alloc _ _ _ (by simp)).trans (World.alloc_heap_new w _)
  have hi1 : I [] W1 := by rw [← hW1]; exact hI.alloc _ (hI.alloc _ h0)
  have hb1 : Below w0.heap.size w0 W1 := by
    rw [← hW1]
    exact hb0.trans ((((Below.refl _ w).alloc (Nat.le_refl _) _).alloc (by simp) _).mono hb0.size)
  have tail : ∀ {A : World} {row : Option Nat}, (∀ r, row = some r → W1.heap.size ≤ r ∧ ∃ o : Obj, A.heap[r]? = some o ∧ o.isCells = false) → ∀ r, row = some r → w.heap.size ≤ r ∧ ∃ o : Obj, A.heap[r]? = some o ∧ o.isCells = false := fun hr r e => ⟨by have := (hr r e).1; omega, (hr r e).2⟩
  have stays : ∀ {A B : World} {row : Option Nat} {k : Nat} {o : Obj}, A.grownBy B row → (∀ r, row = some r → W1.heap.size ≤ r ∧ ∃ o : Obj, A.heap[r]? = some o ∧ o.isCells = false) → k < W1.heap.size → A.heap[k]? = some o → B.heap[k]? = some o := fun {A B row k o} hg hr hk ho =>
    (hg.block k (Array.getElem?_eq_some_iff.1 ho).1 (fun e => by have := (hr k e.symm).1; omega)).trans ho
  refine ⟨w.heap.size + 1, [{ target := .collected w.heap.size, args := #[] }], W1, { target := .fn (.func gf) lb, args := #[.func (.yield (w.heap.size + 1)) #[] #[]] }, W1, gf, #[.func (.yield (w.heap.size + 1)) #[] #[]] ++ lb, W1, ?_, ?_, fun _ _ => trivial, ?_, fun h => (by cases h), ?_⟩
  · have := run_enterLoop_outer (P := P) (w := w) fn a.tmps ps assign body
    rw [← hW1, hrc.eq]
    exact this
  · simp only [resolve, hg]
    simp [go_sem]
  · simp [invoke, go_sem, eg]
  · refine callsIn_wide.2 ((hseq (w.heap.size + 1)
      (fun pre W => (I pre W ∧ W.heap[w.heap.size + 1]? = some (.loop (rc .ready none))) ∧ W.heap[w.heap.size]? = some (.deferred (some [])))
      (fun pre W => (∃ c, Ix c pre W ∧ W.heap[w.heap.size + 1]? = some (.loop (rc .done (some c)))) ∧ W.heap[w.heap.size]? = some (.deferred (some [])))
      W1 hb1
      (fun s A B row hs hg' hr => ⟨⟨hI s A B row hs.1.1 hg' (tail hr), stays hg' hr (by omega) hs.1.2⟩, stays hg' hr (by omega) hs.2⟩)
      (fun s A B row hs hg' hr => by
        obtain ⟨⟨c, hc, hl⟩, hd⟩ := hs
        exact ⟨⟨c, hIx c s A B row hc hg' (tail hr), stays hg' hr (by omega) hl⟩, stays hg' hr (by omega) hd⟩)
      ?_ ⟨⟨hi1, hl1⟩, hd1⟩).mono ?_)
    · rintro pre x W ⟨⟨hi, hl⟩, hd⟩ hlen hok
      have dn : ∀ {K : List α → World → Prop}, OwnFrom w.heap.size K → OwnFrom (w.heap.size + 1) (fun s W => K s W ∧ W.heap[w.heap.size]? = some (.deferred (some []))) := fun hK s A B row hs hg' hr =>
        ⟨hK s A B row hs.1 hg' (fun r e => ⟨by have := (hr r e).1; omega, (hr r e).2⟩), (hg'.block _ (Array.getElem?_eq_some_iff.1 hs.2).1 (fun e => by have := (hr _ e.symm).1; omega)).trans hs.2⟩
      refine YieldAt.mono (round_o (P := P) (m := 0) hrc (Nat.le_refl _) (show w.heap.size + 1 < W1.heap.size by omega) (encs := encs) (Kp := Kp) (fun h k => hKt h k) (fun W l o o' h => hKb W l o o' (by omega)) hps (dn hI) (fun c => dn (hIx c)) (a₁ := a₁) (pre := pre) (x := x) (Ok := Ok) (fun s A B row hs hg' hr => hOk x s A B row hs hg' (fun r e => ⟨by have := (hr r e).1; omega, (hr r e).2⟩)) hok ⟨hi, hd⟩ hl (fun W K hK => hassign _ x W K hK) (fun W hr ⟨hi, hd⟩ hok => wpIn_mono (hbody _ pre x W (by omega) hr hi hlen hok) ?_)) ?_
      · rintro e a3 W3 hp
        cases e with
        | normal => exact ⟨keepsFrom_up (by omega) hp.1, hp.2.1, hp.2.2, hp.1.same _ _ (Nat.le_refl _) hd rfl⟩
        | ret => exact ⟨keepsFrom_up (by omega) hp.1, hp.2, hp.1.same _ _ (Nat.le_refl _) hd rfl⟩
        | exit id => exact ⟨keepsFrom_up (by omega) hp.1, hp.2, hp.1.same _ _ (Nat.le_refl _) hd rfl⟩
        | goto t => exact ⟨keepsFrom_up (by omega) hp.1, hp.2, hp.1.same _ _ (Nat.le_refl _) hd rfl⟩
        | panic ch => exact hp.elim
        | outgrown => exact hp.elim
      · rintro e W' ⟨hk, ⟨he, ⟨⟨h1, h2⟩, h3⟩, h4⟩ | ⟨he, c, ⟨h1, h2⟩, h3⟩⟩
        · exact ⟨hk, .inl ⟨he, ⟨⟨h1, h3⟩, h2⟩, h4⟩⟩
        · exact ⟨hk, .inr ⟨he, ⟨c, h1, h3⟩, h2⟩⟩
    · rintro e W2 ⟨⟨v, rfl⟩, (⟨xs, hS, ⟨hi, hl⟩, hd⟩ | ⟨pre, hSp, ⟨c, hi, hl⟩, hd⟩)⟩
      · refine ⟨none, _, by have := run_endLoop (P := P) hl (by rw [hrc.eq]; simp); rw [hrc.eq] at this; exact this, hdone _ xs _ (Nat.le_refl _) hS (hI.putObj _ hi (by omega) hl rfl) ((World.putObj_heap_other (by omega)).trans hd)⟩
      · refine ⟨some c, _, by have := run_endLoop (P := P) hl (by rw [hrc.eq]; simp); rw [hrc.eq] at this; exact this, hstop _ c pre _ (Nat.le_refl _) hSp ((hIx c).putObj _ hi (by omega) hl rfl) ((World.putObj_heap_other (by omega)).trans hd)⟩

theorem range_oN {l₀ : Nat} {r₀ : Loop} (hl₀ : w.heap[l₀]? = some (.loop r₀)) {gf : Nat} {lb : Array Value} (hg : a.eval g = .func (.func gf) #[] lb) (eg : ∀ args w, (callFunc gf args).run P w = .ok (.enter gf args) w)
    {encs : α → Array Value} {Ok : α → World → Prop} {Kp : World → World → Prop} {S Sp : List α → Prop} {N : Nat} {w0 : World} (hseq : SeqOk P gf lb encs Ok Kp S Sp N w0) (hOk : ∀ x, OwnFrom w.heap.size (fun (_ : Unit) W => Ok x W))
    (hKt : ∀ {A B C : World}, Kp A B → Kp B C → Kp A C) (hKb : ∀ (W : World) (l : Nat) (o o' : Obj), w.heap.size ≤ l → W.heap[l]? = some o → o.isCells = false → o.isWalk = false → Kp W (W.putObj l o')) (hb0 : Below w0.heap.size w0 w) (hps : ∀ x, (encs x).size = ps.size)
    (I : List α → World → Prop) (Ix : Code → List α → World → Prop) (hI : OwnFrom w.heap.size I) (hIx : ∀ c, OwnFrom w.heap.size (Ix c)) (h0 : I [] w) (a₁ : α → Act)
    (hassign : ∀ (l : Nat) (x : α) (W : World) (K : Act → World → Prop), K (a₁ x) W → assign.wpIn (Fence.wide.inRound l) 0 P (Exit.then K (fun _ _ _ => False)) { tmps := (ps.zip (encs x)).foldl (fun t (p, v) => t.setIfInBounds p v) a.tmps, defers := [] } W)
    (hbody : ∀ (l : Nat) (pre : List α) (x : α) (W : World), w.heap.size ≤ l → (∃ r, W.heap[l]? = some (.loop r)) → I pre W → pre.length < N → Ok x W → body.wpIn (Fence.wide.inRound l) 0 P (ownPostG w.heap.size Kp I Ix (pre ++ [x]) W) (a₁ x) W)
    (hdone : ∀ (xs : List α) (W : World), S xs → I xs W → Q .normal a W)
    (hstop : ∀ (c : Code) (pre : List α) (W : World), Sp pre → Ix c pre W → c.wpIn (Fence.wide.inRound l₀) n P Q a W) :
    (Code.rangeFunc g ps assign body).wpIn (Fence.wide.inRound l₀) n P Q a w := by
  refine wpIn_rangeFunc fun fn _ => ?_
  obtain ⟨rc, hrc⟩ : ∃ rc : LoopState → Option Code → Loop, RecOf rc fn a.tmps ps assign body r₀.defers := ⟨_, ⟨rfl⟩⟩
  obtain ⟨W1, hW1⟩ : ∃ W1, w.alloc (.loop (rc .ready none)) = W1 := ⟨_, rfl⟩
  have z1 : W1.heap.size = w.heap.size + 1 := by rw [← hW1]; simp
  have hl1 : W1.heap[w.heap.size]? = some (.loop (rc .ready none)) := by rw [← hW1]; exact World.alloc_heap_new w _
  have hi1 : I [] W1 := by rw [← hW1]; exact hI.alloc _ h0
  have hb1 : Below w0.heap.size w0 W1 := by
    rw [← hW1]
    exact hb0.trans (((Below.refl _ w).alloc (Nat.le_refl _) _).mono hb0.size)
  have tail : ∀ {A : World} {row : Option Nat}, (∀ r, row = some r → W1.heap.size ≤ r ∧ ∃ o : Obj, A.heap[r]? = some o ∧ o.isCells = false) → ∀ r, row = some r → w.heap.size ≤ r ∧ ∃ o : Obj, A.heap[r]? = some o ∧ o.isCells = false := fun hr r e => ⟨by have := (hr r e).1; omega, (hr r e).2⟩
  have stays : ∀ {A B : World} {row : Option Nat} {k : Nat} {o : Obj}, A.grownBy B row → (∀ r, row = some r → W1.heap.size ≤ r ∧ ∃ o : Obj, A.heap[r]? = some o ∧ o.isCells = false) → k < W1.heap.size → A.heap[k]? = some o → B.heap[k]? = some o := fun {A B row k o} hg hr hk ho =>
    (hg.block k (Array.getElem?_eq_some_iff.1 ho).1 (fun e => by have := (hr k e.symm).1; omega)).trans ho
  refine ⟨w.heap.size, [], W1, { target := .fn (.func gf) lb, args := #[.func (.yield w.heap.size) #[] #[]] }, W1, gf, #[.func (.yield w.heap.size) #[] #[]] ++ lb, W1, ?_, ?_, fun _ _ => trivial, ?_, fun h => (by cases h), ?_⟩
  · have := run_enterLoop_inner (P := P) hl₀ fn a.tmps ps assign body
    rw [← hW1, hrc.eq]
    exact this
  · simp only [resolve, hg]
    simp [go_sem]
  · simp [invoke, go_sem, eg]
  · refine CallsIn.inRound l₀ (callsIn_wide.2 ((hseq w.heap.size
      (fun pre W => I pre W ∧ W.heap[w.heap.size]? = some (.loop (rc .ready none)))
      (fun pre W => ∃ c, Ix c pre W ∧ W.heap[w.heap.size]? = some (.loop (rc .done (some c))))
      W1 hb1
      (fun s A B row hs hg' hr => ⟨hI s A B row hs.1 hg' (tail hr), stays hg' hr (by omega) hs.2⟩)
      (fun s A B row hs hg' hr => by
        obtain ⟨c, hc, hl⟩ := hs
        exact ⟨c, hIx c s A B row hc hg' (tail hr), stays hg' hr (by omega) hl⟩)
      ?_ ⟨hi1, hl1⟩).mono ?_))
    · rintro pre x W ⟨hi, hl⟩ hlen hok
      exact round_o (P := P) (m := 0) hrc (Nat.le_refl _) (show w.heap.size < W1.heap.size by omega) (encs := encs) (Kp := Kp) (fun h k => hKt h k) hKb hps hI hIx (a₁ := a₁) (pre := pre) (x := x) (Ok := Ok) (hOk x) hok hi hl (fun W K hK => hassign _ x W K hK) (fun W hr hi hok => hbody _ pre x W (Nat.le_refl _) hr hi hlen hok)
    · rintro e W2 ⟨⟨v, rfl⟩, (⟨xs, hS, hi, hl⟩ | ⟨pre, hSp, c, hi, hl⟩)⟩
      · refine ⟨none, _, by have := run_endLoop (P := P) hl (by rw [hrc.eq]; simp); rw [hrc.eq] at this; exact this, ?_⟩
        simpa using hdone xs _ hS (hI.putObj _ hi (by omega) hl rfl)
      · refine ⟨some c, _, by have := run_endLoop (P := P) hl (by rw [hrc.eq]; simp); rw [hrc.eq] at this; exact this, ?_⟩
        simpa using hstop c pre _ hSp ((hIx c).putObj _ hi (by omega) hl rfl)

theorem ownFrom_cells {β : Type} (B : Nat) (k : Nat) (c : Array Value) (t : TypeId) (m : Nat × Nat) : OwnFrom B (fun (_ : β) W => W.heap[k]? = some (.cells c t m)) := fun _ A C row hs hg hr =>
  (hg.block k (Array.getElem?_eq_some_iff.1 hs).1 (fun e => by
    obtain ⟨_, o, ho, hc⟩ := hr k e.symm
    rw [hs] at ho
    cases ho
    cases hc)).trans hs

theorem range_o2 {p q d1 d2 : Tmp} {gf : Nat} {lb : Array Value} (hg : a.eval g = .func (.func gf) #[] lb) (eg : ∀ args w, (callFunc gf args).run P w = .ok (.enter gf args) w)
    {e1 e2 : α → Value} {Kp : World → World → Prop} {S Sp : List α → Prop} {N : Nat} {w0 : World} (hseq : SeqO P gf lb (fun x => #[e1 x, e2 x]) Kp S Sp N w0)
    (hKt : ∀ {A B C : World}, Kp A B → Kp B C → Kp A C) (hKb : ∀ (W : World) (l : Nat) (o o' : Obj), w.heap.size ≤ l → W.heap[l]? = some o → o.isCells = false → o.isWalk = false → Kp W (W.putObj l o')) (hb0 : Below w0.heap.size w0 w)
    (I : List α → World → Prop) (Ix : Code → List α → World → Prop) (hI : OwnFrom w.heap.size I) (hIx : ∀ c, OwnFrom w.heap.size (Ix c)) (h0 : I [] w)
    (hassign : ∀ (l : Nat) (x : α) (W : World) (K : Act → World → Prop), K { tmps := (((a.tmps.setIfInBounds p (e1 x)).setIfInBounds q (e2 x)).setIfInBounds d1 (e1 x)).setIfInBounds d2 (e2 x), defers := [] } W →
      assign.wpIn (Fence.wide.inRound l) 0 P (Exit.then K (fun _ _ _ => False)) { tmps := (a.tmps.setIfInBounds p (e1 x)).setIfInBounds q (e2 x), defers := [] } W)
    (hbody : ∀ (l : Nat) (pre : List α) (x : α) (W : World), w.heap.size ≤ l → (∃ r, W.heap[l]? = some (.loop r)) → I pre W → pre.length < N → body.wpIn (Fence.wide.inRound l) 0 P (ownPostG w.heap.size Kp I Ix (pre ++ [x]) W) { tmps := (((a.tmps.setIfInBounds p (e1 x)).setIfInBounds q (e2 x)).setIfInBounds d1 (e1 x)).setIfInBounds d2 (e2 x), defers := [] } W)
    (hdone : ∀ (D : Nat) (xs : List α) (W : World), w.heap.size ≤ D → S xs → I xs W → W.heap[D]? = some (.deferred (some [])) → Q .normal { a with defers := { target := .collected D, args := #[] } :: a.defers } W)
    (hstop : ∀ (D : Nat) (c : Code) (pre : List α) (W : World), w.heap.size ≤ D → Sp pre → Ix c pre W → W.heap[D]? = some (.deferred (some [])) → c.wpIn Fence.wide n P Q { a with defers := { target := .collected D, args := #[] } :: a.defers } W) :
    (Code.rangeFunc g #[p, q] assign body).wpIn Fence.wide n P Q a w :=
  range_o hg eg hseq (fun _ _ _ _ _ hs _ _ => hs) (fun h k => hKt h k) hKb hb0 (fun _ => rfl) I Ix hI hIx h0 (fun x => { tmps := (((a.tmps.setIfInBounds p (e1 x)).setIfInBounds q (e2 x)).setIfInBounds d1 (e1 x)).setIfInBounds d2 (e2 x), defers := [] })
    (fun l x W K hK => by simpa using hassign l x W K hK) (fun l pre x W h1 h2 h3 h4 _ => hbody l pre x W h1 h2 h3 h4) hdone hstop

theorem range_ok2 {p q d1 d2 : Tmp} {gf : Nat} {lb : Array Value} (hg : a.eval g = .func (.func gf) #[] lb) (eg : ∀ args w, (callFunc gf args).run P w = .ok (.enter gf args) w)
    {e1 e2 : α → Value} {Ok : α → World → Prop} {Kp : World → World → Prop} {S Sp : List α → Prop} {N : Nat} {w0 : World} (hseq : SeqOk P gf lb (fun x => #[e1 x, e2 x]) Ok Kp S Sp N w0) (hOk : ∀ x, OwnFrom w.heap.size (fun (_ : Unit) W => Ok x W))
    (hKt : ∀ {A B C : World}, Kp A B → Kp B C → Kp A C) (hKb : ∀ (W : World) (l : Nat) (o o' : Obj), w.heap.size ≤ l → W.heap[l]? = some o → o.isCells = false → o.isWalk = false → Kp W (W.putObj l o')) (hb0 : Below w0.heap.size w0 w)
    (I : List α → World → Prop) (Ix : Code → List α → World → Prop) (hI : OwnFrom w.heap.size I) (hIx : ∀ c, OwnFrom w.heap.size (Ix c)) (h0 : I [] w)
    (hassign : ∀ (l : Nat) (x : α) (W : World) (K : Act → World → Prop), K { tmps := (((a.tmps.setIfInBounds p (e1 x)).setIfInBounds q (e2 x)).setIfInBounds d1 (e1 x)).setIfInBounds d2 (e2 x), defers := [] } W →
      assign.wpIn (Fence.wide.inRound l) 0 P (Exit.then K (fun _ _ _ => False)) { tmps := (a.tmps.setIfInBounds p (e1 x)).setIfInBounds q (e2 x), defers := [] } W)
    (hbody : ∀ (l : Nat) (pre : List α) (x : α) (W : World), w.heap.size ≤ l → (∃ r, W.heap[l]? = some (.loop r)) → I pre W → pre.length < N → Ok x W → body.wpIn (Fence.wide.inRound l) 0 P (ownPostG w.heap.size Kp I Ix (pre ++ [x]) W) { tmps := (((a.tmps.setIfInBounds p (e1 x)).setIfInBounds q (e2 x)).setIfInBounds d1 (e1 x)).setIfInBounds d2 (e2 x), defers := [] } W)
    (hdone : ∀ (D : Nat) (xs : List α) (W : World), w.heap.size ≤ D → S xs → I xs W → W.heap[D]? = some (.deferred (some [])) → Q .normal { a with defers := { target := .collected D, args := #[] } :: a.defers } W)
    (hstop : ∀ (D : Nat) (c : Code) (pre : List α) (W : World), w.heap.size ≤ D → Sp pre → Ix c pre W → W.heap[D]? = some (.deferred (some [])) → c.wpIn Fence.wide n P Q { a with defers := { target := .collected D, args := #[] } :: a.defers } W) :
    (Code.rangeFunc g #[p, q] assign body).wpIn Fence.wide n P Q a w :=
  range_o hg eg hseq hOk (fun h k => hKt h k) hKb hb0 (fun _ => rfl) I Ix hI hIx h0 (fun x => { tmps := (((a.tmps.setIfInBounds p (e1 x)).setIfInBounds q (e2 x)).setIfInBounds d1 (e1 x)).setIfInBounds d2 (e2 x), defers := [] })
    (fun l x W K hK => by simpa using hassign l x W K hK) hbody hdone hstop

theorem range_o1 {p d1 : Tmp} {gf : Nat} {lb : Array Value} (hg : a.eval g = .func (.func gf) #[] lb) (eg : ∀ args w, (callFunc gf args).run P w = .ok (.enter gf args) w)
    {e1 : α → Value} {Kp : World → World → Prop} {S Sp : List α → Prop} {N : Nat} {w0 : World} (hseq : SeqO P gf lb (fun x => #[e1 x]) Kp S Sp N w0)
    (hKt : ∀ {A B C : World}, Kp A B → Kp B C → Kp A C) (hKb : ∀ (W : World) (l : Nat) (o o' : Obj), w.heap.size ≤ l → W.heap[l]? = some o → o.isCells = false → o.isWalk = false → Kp W (W.putObj l o')) (hb0 : Below w0.heap.size w0 w)
    (I : List α → World → Prop) (Ix : Code → List α → World → Prop) (hI : OwnFrom w.heap.size I) (hIx : ∀ c, OwnFrom w.heap.size (Ix c)) (h0 : I [] w)
    (hassign : ∀ (l : Nat) (x : α) (W : World) (K : Act → World → Prop), K { tmps := (a.tmps.setIfInBounds p (e1 x)).setIfInBounds d1 (e1 x), defers := [] } W →
      assign.wpIn (Fence.wide.inRound l) 0 P (Exit.then K (fun _ _ _ => False)) { tmps := a.tmps.setIfInBounds p (e1 x), defers := [] } W)
    (hbody : ∀ (l : Nat) (pre : List α) (x : α) (W : World), w.heap.size ≤ l → (∃ r, W.heap[l]? = some (.loop r)) → I pre W → pre.length < N → body.wpIn (Fence.wide.inRound l) 0 P (ownPostG w.heap.size Kp I Ix (pre ++ [x]) W) { tmps := (a.tmps.setIfInBounds p (e1 x)).setIfInBounds d1 (e1 x), defers := [] } W)
    (hdone : ∀ (D : Nat) (xs : List α) (W : World), w.heap.size ≤ D → S xs → I xs W → W.heap[D]? = some (.deferred (some [])) → Q .normal { a with defers := { target := .collected D, args := #[] } :: a.defers } W)
    (hstop : ∀ (D : Nat) (c : Code) (pre : List α) (W : World), w.heap.size ≤ D → Sp pre → Ix c pre W → W.heap[D]? = some (.deferred (some [])) → c.wpIn Fence.wide n P Q { a with defers := { target := .collected D, args := #[] } :: a.defers } W) :
    (Code.rangeFunc g #[p] assign body).wpIn Fence.wide n P Q a w :=
  range_o hg eg hseq (fun _ _ _ _ _ hs _ _ => hs) (fun h k => hKt h k) hKb hb0 (fun _ => rfl) I Ix hI hIx h0 (fun x => { tmps := (a.tmps.setIfInBounds p (e1 x)).setIfInBounds d1 (e1 x), defers := [] })
    (fun l x W K hK => by simpa using hassign l x W K hK) (fun l pre x W h1 h2 h3 h4 _ => hbody l pre x W h1 h2 h3 h4) hdone hstop

theorem ownFrom_grown {β : Type} (W1 : World) {B : Nat} (hB : W1.heap.size ≤ B) : OwnFrom B (fun (_ : β) X => W1.grownBy X none) := fun _ X Y row hs hg hr =>
  ⟨hg.os.trans hs.os, hg.tape.trans hs.tape, hg.output.trans hs.output, Nat.le_trans hs.size hg.size, fun k hk _ => (hg.block k (Nat.lt_of_lt_of_le hk hs.size) (fun e => by have := (hr k e.symm).1; omega)).trans (hs.block k hk (by simp))⟩

theorem keepsFrom_grown {B : Nat} {A C : World} (hg : A.grownBy C none) : KeepsFrom B A C := ⟨hg.size, fun k _ _ hk _ => (hg.block k (Array.getElem?_eq_some_iff.1 hk).1 (by simp)).trans hk⟩

theorem keepsFrom_cell {B : Nat} (W : World) (a : Addr) (v : Value) : KeepsFrom B W (W.setCell a v) := (KeepsOthers.setCell W a v).from B

structure Set1 (W1 : World) (rb : Nat) (v : Value) (ty : TypeId) (X : World) : Prop where
  res : X.heap[rb]? = some (.cells #[v] ty (0, 0))
  old : ∀ k, k < W1.heap.size → k ≠ rb → X.heap[k]? = W1.heap[k]?
  size : W1.heap.size ≤ X.heap.size
  os : X.os = W1.os
  tape : X.tape = W1.tape
  output : X.output = W1.output

theorem Set1.own {β : Type} {W1 : World} {rb : Nat} {v : Value} {ty : TypeId} {B : Nat} (hB : W1.heap.size ≤ B) (hrb : rb < W1.heap.size) : OwnFrom B (fun (_ : β) X => Set1 W1 rb v ty X) := fun _ X Y row hs hg hr => by
  have hz := hs.size
  have key : ∀ k, k < W1.heap.size → Y.heap[k]? = X.heap[k]? := fun k hk => hg.block k (by omega) (fun e => by have := (hr k e.symm).1; omega)
  exact ⟨(key rb hrb).trans hs.res, fun k hk hn => (key k hk).trans (hs.old k hk hn), Nat.le_trans hz hg.size, hg.os.trans hs.os, hg.tape.trans hs.tape, hg.output.trans hs.output⟩

theorem Set1.of_set {W1 X : World} (hg : W1.grownBy X none) {rb : Nat} {u : Value} {ty : TypeId} (hr : X.heap[rb]? = some (.cells #[u] ty (0, 0))) (v : Value) : Set1 W1 rb v ty (X.setCell ⟨rb, 0, none⟩ v) := by
  have hb := grownBy_setCell' X rb v
  refine ⟨?_, fun k hk hn => ?_, Nat.le_trans hg.size hb.size, hb.os.trans hg.os, hb.tape.trans hg.tape, hb.output.trans hg.output⟩
  · unfold World.setCell
    simp only
    rw [Array.getElem?_modify]
    simp [hr]
  · exact (hb.block k (Nat.lt_of_lt_of_le hk hg.size) (fun e => hn (by cases e; rfl))).trans (hg.block k hk (by simp))

end Go.Proofs.YtckhafpejefbbaaGreatDoor

/- tree.parts of names and binders; tree.BinderOf. -/
namespace Go.Proofs.YtckhafpejefbbaaGreatDoor
open Go.RowKit

set_option maxRecDepth 100000 in
set_option maxHeartbeats 2000000 in
theorem parts_Name (w : World) (b : Nat) :
    Calls Tryz.prog 162 #[.iface 83 (.pointer (some ⟨b, 0, none⟩))] w (PartsPost w []) := by
  have q0 := ta_Name_Bracket
  have q1 := ta_Name_Pair
  have q2 := ta_Name_Call
  have q3 := ta_Name_Binary
  have q4 := ta_Name_If
  have q5 := ta_Name_Fun
  have q6 := ta_Name_Let
  go_enter Tryz.func162, Tryz.ntmps162
  go_wp2_with fail
  go_ret
  exact ⟨grown_refl _, .inl ⟨rfl, rfl⟩⟩

set_option maxRecDepth 100000 in
set_option maxHeartbeats 2000000 in
theorem parts_Fun {w : World} {b : Nat} {c0 c1 c2 c3 : Value} {v1 : Value} (h0 : ∃ T n, v1 = .iface T (.pointer (some ⟨n, 0, none⟩))) (hb : w.heap[b]? = some (.cells #[c0, c1, c2, c3, v1] 235 (0, 0))) :
    Calls Tryz.prog 162 #[.iface 215 (.pointer (some ⟨b, 0, none⟩))] w (PartsPost w [v1]) := by
  obtain ⟨T0, n0, rfl⟩ := h0
  have c0 : w.cell? ⟨b, 4, none⟩ = some (.iface T0 (.pointer (some ⟨n0, 0, none⟩))) := by rw [cell_of_row _ _ _ _ _ _ hb]; rfl
  have q0 := ta_Fun_Bracket
  have q1 := ta_Fun_Pair
  have q2 := ta_Fun_Call
  have q3 := ta_Fun_Binary
  have q4 := ta_Fun_If
  have q5 := ta_Fun_Fun
  have q6 := ta_Fun_Let
  clear hb
  go_enter Tryz.func162, Tryz.ntmps162
  go_wp2_with fail
  go_ret
  exact ⟨World.grownBy_alloc _ _ none, .inr ⟨_, rfl, new_block w _⟩⟩

set_option maxRecDepth 100000 in
set_option maxHeartbeats 2000000 in
theorem parts_Let {w : World} {b : Nat} {c0 c1 c2 c3 c4 : Value} {v1 v2 : Value} (h0 : ∃ T n, v1 = .iface T (.pointer (some ⟨n, 0, none⟩))) (h1 : ∃ T n, v2 = .iface T (.pointer (some ⟨n, 0, none⟩))) (hb : w.heap[b]? = some (.cells #[c0, c1, c2, c3, c4, v1, v2] 140 (0, 0))) :
    Calls Tryz.prog 162 #[.iface 136 (.pointer (some ⟨b, 0, none⟩))] w (PartsPost w [v1, v2]) := by
  obtain ⟨T0, n0, rfl⟩ := h0
  obtain ⟨T1, n1, rfl⟩ := h1
  have c0 : w.cell? ⟨b, 5, none⟩ = some (.iface T0 (.pointer (some ⟨n0, 0, none⟩))) := by rw [cell_of_row _ _ _ _ _ _ hb]; rfl
  have c1 : w.cell? ⟨b, 6, none⟩ = some (.iface T1 (.pointer (some ⟨n1, 0, none⟩))) := by rw [cell_of_row _ _ _ _ _ _ hb]; rfl
  have q0 := ta_Let_Bracket
  have q1 := ta_Let_Pair
  have q2 := ta_Let_Call
  have q3 := ta_Let_Binary
  have q4 := ta_Let_If
  have q5 := ta_Let_Fun
  have q6 := ta_Let_Let
  clear hb
  go_enter Tryz.func162, Tryz.ntmps162
  go_wp2_with fail
  go_region
  go_wp2_with fail
  go_ret
  exact ⟨grown_drew (World.grownBy_alloc _ _ none), .inr ⟨_, rfl, new_block w _⟩⟩

set_option maxRecDepth 100000 in
theorem binderOf_Name (w : World) (b : Nat) : Calls Tryz.prog 58 #[.iface 83 (.pointer (some ⟨b, 0, none⟩))] w fun e w' => e = .returned (.pointer none) ∧ w = w' := by
  have q0 := ta_Name_Fun
  have q1 := ta_Name_Let
  go_enter Tryz.func58, Tryz.ntmps58
  go_wp2_with fail
  go_ret
  exact ⟨rfl, rfl⟩

set_option maxRecDepth 100000 in
theorem binderOf_Int (w : World) (b : Nat) : Calls Tryz.prog 58 #[.iface 191 (.pointer (some ⟨b, 0, none⟩))] w fun e w' => e = .returned (.pointer none) ∧ w = w' := by
  have q0 := ta_Int_Fun
  have q1 := ta_Int_Let
  go_enter Tryz.func58, Tryz.ntmps58
  go_wp2_with fail
  go_ret
  exact ⟨rfl, rfl⟩

set_option maxRecDepth 100000 in
theorem binderOf_Truth (w : World) (b : Nat) : Calls Tryz.prog 58 #[.iface 195 (.pointer (some ⟨b, 0, none⟩))] w fun e w' => e = .returned (.pointer none) ∧ w = w' := by
  have q0 := ta_Truth_Fun
  have q1 := ta_Truth_Let
  go_enter Tryz.func58, Tryz.ntmps58
  go_wp2_with fail
  go_ret
  exact ⟨rfl, rfl⟩

set_option maxRecDepth 100000 in
theorem binderOf_Side (w : World) (b : Nat) : Calls Tryz.prog 58 #[.iface 199 (.pointer (some ⟨b, 0, none⟩))] w fun e w' => e = .returned (.pointer none) ∧ w = w' := by
  have q0 := ta_Side_Fun
  have q1 := ta_Side_Let
  go_enter Tryz.func58, Tryz.ntmps58
  go_wp2_with fail
  go_ret
  exact ⟨rfl, rfl⟩

set_option maxRecDepth 100000 in
theorem binderOf_Bracket (w : World) (b : Nat) : Calls Tryz.prog 58 #[.iface 204 (.pointer (some ⟨b, 0, none⟩))] w fun e w' => e = .returned (.pointer none) ∧ w = w' := by
  have q0 := ta_Bracket_Fun
  have q1 := ta_Bracket_Let
  go_enter Tryz.func58, Tryz.ntmps58
  go_wp2_with fail
  go_ret
  exact ⟨rfl, rfl⟩

set_option maxRecDepth 100000 in
theorem binderOf_Pair (w : World) (b : Nat) : Calls Tryz.prog 58 #[.iface 207 (.pointer (some ⟨b, 0, none⟩))] w fun e w' => e = .returned (.pointer none) ∧ w = w' := by
  have q0 := ta_Pair_Fun
  have q1 := ta_Pair_Let
  go_enter Tryz.func58, Tryz.ntmps58
  go_wp2_with fail
  go_ret
  exact ⟨rfl, rfl⟩

set_option maxRecDepth 100000 in
theorem binderOf_Call (w : World) (b : Nat) : Calls Tryz.prog 58 #[.iface 209 (.pointer (some ⟨b, 0, none⟩))] w fun e w' => e = .returned (.pointer none) ∧ w = w' := by
  have q0 := ta_Call_Fun
  have q1 := ta_Call_Let
  go_enter Tryz.func58, Tryz.ntmps58
  go_wp2_with fail
  go_ret
  exact ⟨rfl, rfl⟩

set_option maxRecDepth 100000 in
theorem binderOf_Binary (w : World) (b : Nat) : Calls Tryz.prog 58 #[.iface 211 (.pointer (some ⟨b, 0, none⟩))] w fun e w' => e = .returned (.pointer none) ∧ w = w' := by
  have q0 := ta_Binary_Fun
  have q1 := ta_Binary_Let
  go_enter Tryz.func58, Tryz.ntmps58
  go_wp2_with fail
  go_ret
  exact ⟨rfl, rfl⟩

set_option maxRecDepth 100000 in
theorem binderOf_If (w : World) (b : Nat) : Calls Tryz.prog 58 #[.iface 213 (.pointer (some ⟨b, 0, none⟩))] w fun e w' => e = .returned (.pointer none) ∧ w = w' := by
  have q0 := ta_If_Fun
  have q1 := ta_If_Let
  go_enter Tryz.func58, Tryz.ntmps58
  go_wp2_with fail
  go_ret
  exact ⟨rfl, rfl⟩

set_option maxRecDepth 100000 in
theorem binderOf_Fun (w : World) (b : Nat) : Calls Tryz.prog 58 #[.iface 215 (.pointer (some ⟨b, 0, none⟩))] w fun e w' => e = .returned (.pointer (some ⟨b, 2, none⟩)) ∧ w = w' := by
  have q0 := ta_Fun_Fun
  have q1 := ta_Fun_Let
  go_enter Tryz.func58, Tryz.ntmps58
  go_wp2_with fail
  go_ret
  exact ⟨rfl, rfl⟩

set_option maxRecDepth 100000 in
theorem binderOf_Let (w : World) (b : Nat) : Calls Tryz.prog 58 #[.iface 136 (.pointer (some ⟨b, 0, none⟩))] w fun e w' => e = .returned (.pointer (some ⟨b, 3, none⟩)) ∧ w = w' := by
  have q0 := ta_Let_Fun
  have q1 := ta_Let_Let
  go_enter Tryz.func58, Tryz.ntmps58
  go_wp2_with fail
  go_ret
  exact ⟨rfl, rfl⟩

end Go.Proofs.YtckhafpejefbbaaGreatDoor
