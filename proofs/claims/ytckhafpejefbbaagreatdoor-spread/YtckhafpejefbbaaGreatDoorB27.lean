/- Texts of the proof, put together: InlRun, InlRun2, GramThy, GramThy2, InlLex, InlLex2, InlGram, InlGram2, InlAll, InlAll2, InlScope, InlFine, TextRen, RegRound, RegWide, AltInl. -/
import Derived.Test.YtckhafpejefbbaaGreatDoorB17
import Derived.Test.YtckhafpejefbbaaGreatDoorB25
import Derived.Test.YtckhafpejefbbaaGreatDoorB26
import Derived.Test.YtckhafpejefbbaaGreatDoorB14
import Derived.Test.YtckhafpejefbbaaGreatDoorB20
import Derived.Deep.RegionHeld3
import Derived.Test.YtckhafpejefbbaaGreatDoorB24
import Derived.Sort.QuietTacIn

/- A definition in the places of its uses: the run comes to the same. -/
namespace Go.Proofs.YtckhafpejefbbaaGreatDoor.Tw
namespace Inl
open Go

inductive En1 where
  | both (n : List UInt8) (s : Bool)
  | left (x : List UInt8) (d : T)
  | right (n : List UInt8)

abbrev IE := List En1

def hitB : IE → List UInt8 → Bool → Prop
  | [], _, _ => False
  | .both n s :: E, x, f => (n = x ∧ s = f) ∨ (n ≠ x ∧ hitB E x f)
  | .left y _ :: E, x, f => y ≠ x ∧ hitB E x f
  | .right n :: E, x, f => n ≠ x ∧ hitB E x f

def hitD : IE → List UInt8 → T → IE → Prop
  | [], _, _, _ => False
  | .both n _ :: E, x, d, F => n ≠ x ∧ ∃ G, hitD E x d G ∧ F = .right n :: G
  | .left y c :: E, x, d, F => (y = x ∧ d = c ∧ F = E) ∨ (y ≠ x ∧ hitD E x d F)
  | .right n :: E, x, d, F => n ≠ x ∧ ∃ G, hitD E x d G ∧ F = .right n :: G

def Vd (E : IE) : T → Prop
  | .name _ _ x => hitB E x true
  | .int .. => True
  | .truth .. => True
  | .side .. => True
  | .fn .. => True
  | .bracket _ _ i => Vd E i
  | .pair _ _ l r => Vd E l ∧ Vd E r
  | _ => False

inductive Sb : IE → T → T → Prop
  | name {E : IE} {f t f' t' : Nat} {x : List UInt8} {s : Bool} (h : hitB E x s) : Sb E (.name f t x) (.name f' t' x)
  | use {E F : IE} {f t : Nat} {x : List UInt8} {d d' : T} (h : hitD E x d F) (k : Sb F d d') : Sb E (.name f t x) d'
  | useB {E F : IE} {f t f' t' : Nat} {x : List UInt8} {d d' : T} (h : hitD E x d F) (k : Sb F d d') : Sb E (.name f t x) (.bracket f' t' d')
  | int {E : IE} {f t f' t' : Nat} {v : Int} : Sb E (.int f t v) (.int f' t' v)
  | truth {E : IE} {f t f' t' : Nat} {v : Bool} : Sb E (.truth f t v) (.truth f' t' v)
  | side {E : IE} {f t f' t' : Nat} {v : Bool} : Sb E (.side f t v) (.side f' t' v)
  | bracket {E : IE} {f t f' t' : Nat} {i i' : T} (h : Sb E i i') : Sb E (.bracket f t i) (.bracket f' t' i')
  | pair {E : IE} {f t f' t' : Nat} {x y x' y' : T} (h : Sb E x x') (k : Sb E y y') : Sb E (.pair f t x y) (.pair f' t' x' y')
  | call {E : IE} {f t f' t' : Nat} {x y x' y' : T} (h : Sb E x x') (k : Sb E y y') : Sb E (.call f t x y) (.call f' t' x' y')
  | binary {E : IE} {f t f' t' : Nat} {s : Int} {x y x' y' : T} (h : Sb E x x') (k : Sb E y y') : Sb E (.binary f t s x y) (.binary f' t' s x' y')
  | cond {E : IE} {f t f' t' : Nat} {x y z x' y' z' : T} (h : Sb E x x') (k : Sb E y y') (j : Sb E z z') : Sb E (.cond f t x y z) (.cond f' t' x' y' z')
  | fn {E : IE} {f t f' t' b b' : Nat} {n : List UInt8} {x x' : T} (h : Sb (.both n true :: E) x x') : Sb E (.fn f t n b x) (.fn f' t' n b' x')
  | lett {E : IE} {f t f' t' b b' : Nat} {r : Bool} {n : List UInt8} {x x' y y' : T} (h : Sb (if r then .both n false :: E else E) x x') (k : Sb (.both n true :: E) y y') : Sb E (.lett f t r n b x y) (.lett f' t' r n b' x' y')
  | inl {E : IE} {f t b : Nat} {n : List UInt8} {d y y' : T} (h : Vd E d) (k : Sb (.left n d :: E) y y') : Sb E (.lett f t false n b d y) y'

def valOf (sl : List (Option Val)) (e : VEnv) : T → Option Val
  | .name _ _ x => (lookV e x).bind fun i => (sl[i]?).join
  | .int _ _ v => if -9223372036854775808 ≤ v ∧ v ≤ 9223372036854775807 then some (.num v) else none
  | .truth _ _ b => some (.truth b)
  | .side _ _ b => some (.side b)
  | .fn fr to bn bat b => some (.clo fr to bn bat b e)
  | .bracket _ _ i => valOf sl e i
  | .pair _ _ l r => (valOf sl e l).bind fun x => (valOf sl e r).bind fun y => some (.pair x y)
  | _ => none

inductive ER (R : List (Nat × Nat)) (sl : List (Option Val)) : IE → VEnv → VEnv → Prop
  | nil : ER R sl [] [] []
  | both {E : IE} {n : List UInt8} {s : Bool} {k k' : Nat} {e e' : VEnv} (h : (k, k') ∈ R) (hs : s = true → ∃ v, sl[k]? = some (some v)) (r : ER R sl E e e') : ER R sl (.both n s :: E) ((n, k) :: e) ((n, k') :: e')
  | left {E : IE} {x : List UInt8} {d : T} {k : Nat} {v : Val} {e e' : VEnv} (h : sl[k]? = some (some v)) (hv : valOf sl e d = some v) (r : ER R sl E e e') : ER R sl (.left x d :: E) ((x, k) :: e) e'
  | right {E : IE} {n : List UInt8} {k' : Nat} {e e' : VEnv} (r : ER R sl E e e') : ER R sl (.right n :: E) e ((n, k') :: e')

inductive VR (R : List (Nat × Nat)) (sl : List (Option Val)) : Val → Val → Prop
  | num {n : Int} : VR R sl (.num n) (.num n)
  | truth {b : Bool} : VR R sl (.truth b) (.truth b)
  | side {b : Bool} : VR R sl (.side b) (.side b)
  | pair {l r l' r' : Val} (h : VR R sl l l') (k : VR R sl r r') : VR R sl (.pair l r) (.pair l' r')
  | clo {fr to fr' to' bat bat' : Nat} {n : List UInt8} {b b' : T} {e e' : VEnv} {E : IE} (h : ER R sl E e e') (k : Sb (.both n true :: E) b b') : VR R sl (.clo fr to n bat b e) (.clo fr' to' n bat' b' e')

inductive OR (R : List (Nat × Nat)) (sl : List (Option Val)) : Option Val → Option Val → Prop
  | none : OR R sl none none
  | some {v v' : Val} (h : VR R sl v v') : OR R sl (some v) (some v')

structure SR (R : List (Nat × Nat)) (st st' : RS) : Prop where
  one : ∀ k j j', (k, j) ∈ R → (k, j') ∈ R → j = j'
  two : ∀ k k' j, (k, j) ∈ R → (k', j) ∈ R → k = k'
  get : ∀ k j, (k, j) ∈ R → ∃ o o', st.slots[k]? = some o ∧ st'.slots[j]? = some o' ∧ OR R st.slots o o'
  steps : st.steps = st'.steps
  fin : st.fin = st'.fin

end Inl
end Go.Proofs.YtckhafpejefbbaaGreatDoor.Tw

/- A definition in the places of its uses: the run comes to the same (2). -/
namespace Go.Proofs.YtckhafpejefbbaaGreatDoor.Tw
namespace Inl
open Go

end Inl
end Go.Proofs.YtckhafpejefbbaaGreatDoor.Tw

/- The grammar, told by itself; what the parser makes of tokens is derived by it. -/
namespace Go.Proofs.YtckhafpejefbbaaGreatDoor.Tw
open Go

inductive GK where
  | expr | cmp | sum | term | call | atom
  | chF (p : Part) (g : List Int) (a : T)
  | caF (a : T)

def pk : Part → GK
  | .term => .term
  | .call => .call

inductive G (l : List UInt8) : GK → List Tok → T → Prop
  | lett {tl tn te ti : Tok} {rcs ds bs : List Tok} {rc : Bool} {d b : T} (hl : tl.sort = 3) (hrc : (rcs = [] ∧ rc = false) ∨ (∃ r, rcs = [r] ∧ r.sort = 4 ∧ rc = true)) (hn : tn.sort = 1) (he : te.sort = 15) (hi : ti.sort = 5) (hp : tn.fr ≤ tn.to ∧ tn.to ≤ l.length) (D : G l .expr ds d) (B : G l .expr bs b) :
      G l .expr (tl :: (rcs ++ tn :: te :: (ds ++ ti :: bs))) (.lett tl.fr b.to rc (piece l tn.fr tn.to) tn.fr d b)
  | fn {tl tn ta : Tok} {bs : List Tok} {b : T} (hl : tl.sort = 6) (hn : tn.sort = 1) (ha : ta.sort = 14) (hp : tn.fr ≤ tn.to ∧ tn.to ≤ l.length) (B : G l .expr bs b) :
      G l .expr (tl :: tn :: ta :: bs) (.fn tl.fr b.to (piece l tn.fr tn.to) tn.fr b)
  | cond {tl t1 t2 : Tok} {cs xs ys : List Tok} {c x y : T} (hl : tl.sort = 7) (h1 : t1.sort = 8) (h2 : t2.sort = 9) (C : G l .expr cs c) (X : G l .expr xs x) (Y : G l .expr ys y) :
      G l .expr (tl :: (cs ++ t1 :: (xs ++ t2 :: ys))) (.cond tl.fr y.to c x y)
  | ecmp {ws : List Tok} {t : T} (h : G l .cmp ws t) : G l .expr ws t
  | cmp1 {ws : List Tok} {t : T} (h : G l .sum ws t) : G l .cmp ws t
  | cmp2 {w1 w2 : List Tok} {sg : Tok} {x y : T} (X : G l .sum w1 x) (hs : sg.sort = 23 ∨ sg.sort = 15) (Y : G l .sum w2 y) : G l .cmp (w1 ++ sg :: w2) (.binary x.fr y.to sg.sort x y)
  | sum {w1 w2 : List Tok} {x t : T} (X : G l .term w1 x) (C : G l (.chF .term [19, 20] x) w2 t) : G l .sum (w1 ++ w2) t
  | term {w1 w2 : List Tok} {x t : T} (X : G l .call w1 x) (C : G l (.chF .call [21, 22] x) w2 t) : G l .term (w1 ++ w2) t
  | chN {p : Part} {g : List Int} {a : T} : G l (.chF p g a) [] a
  | chC {p : Part} {g : List Int} {a : T} {sg : Tok} {w1 w2 : List Tok} {y t : T} (hs : sg.sort ∈ g) (Y : G l (pk p) w1 y) (C : G l (.chF p g (.binary a.fr y.to sg.sort a y)) w2 t) : G l (.chF p g a) (sg :: (w1 ++ w2)) t
  | call {w1 w2 : List Tok} {x t : T} (X : G l .atom w1 x) (C : G l (.caF x) w2 t) : G l .call (w1 ++ w2) t
  | caN {a : T} : G l (.caF a) [] a
  | caC {a : T} {w1 w2 : List Tok} {y t : T} (Y : G l .atom w1 y) (C : G l (.caF (.call a.fr y.to a y)) w2 t) : G l (.caF a) (w1 ++ w2) t
  | leaf {tk : Tok} {x : T} (hb : beginsAtom tk.sort = true) (h16 : tk.sort ≠ 16) (h : leafS l tk = some x) : G l .atom [tk] x
  | bracket {ta tc : Tok} {ws : List Tok} {x : T} (ha : ta.sort = 16) (hc : tc.sort = 17) (X : G l .expr ws x) : G l .atom (ta :: (ws ++ [tc])) (.bracket ta.fr tc.to x)
  | pair {ta tm tc : Tok} {w1 w2 : List Tok} {x y : T} (ha : ta.sort = 16) (hm : tm.sort = 18) (hc : tc.sort = 17) (X : G l .expr w1 x) (Y : G l .expr w2 y) : G l .atom (ta :: (w1 ++ tm :: (w2 ++ [tc]))) (.pair ta.fr tc.to x y)

def Seg (ts : List Tok) (i j : Nat) (ws : List Tok) : Prop := ts.drop i = ws ++ ts.drop j ∧ j = i + ws.length

theorem Seg.nil (ts : List Tok) (i : Nat) : Seg ts i i [] := ⟨rfl, rfl⟩
theorem Seg.append {ts : List Tok} {i j k : Nat} {a b : List Tok} (h : Seg ts i j a) (h' : Seg ts j k b) : Seg ts i k (a ++ b) := by
  refine ⟨by rw [h.1, h'.1, List.append_assoc], ?_⟩
  have := h.2
  have := h'.2
  simp
  omega
theorem Seg.one {ts : List Tok} {i : Nat} {t : Tok} (h : ts[i]? = some t) : Seg ts i (i + 1) [t] := by
  refine ⟨?_, rfl⟩
  obtain ⟨hi, rfl⟩ := List.getElem?_eq_some_iff.1 h
  rw [List.drop_eq_getElem_cons hi]
  rfl
theorem Seg.cons {ts : List Tok} {i j : Nat} {t : Tok} {b : List Tok} (h : ts[i]? = some t) (h' : Seg ts (i + 1) j b) : Seg ts i j (t :: b) := (Seg.one h).append h'

def Der (l : List UInt8) (ts : List Tok) (k : GK) (s : PS) (r : T) (s' : PS) : Prop := ∃ ws, Seg ts s.next s'.next ws ∧ G l k ws r

structure GAll (l : List UInt8) (ts : List Tok) (n : Nat) : Prop where
  expr : ∀ {s s' : PS} {r : T}, exprS l ts n s = some (r, s') → s'.stuck = false → Der l ts .expr s r s'
  lett : ∀ {s s' : PS} {r : T}, letS l ts n s = some (r, s') → s'.stuck = false → Der l ts .expr s r s'
  fn : ∀ {s s' : PS} {r : T}, funS l ts n s = some (r, s') → s'.stuck = false → Der l ts .expr s r s'
  cond : ∀ {s s' : PS} {r : T}, condS l ts n s = some (r, s') → s'.stuck = false → Der l ts .expr s r s'
  cmp : ∀ {s s' : PS} {r : T}, cmpS l ts n s = some (r, s') → s'.stuck = false → Der l ts .cmp s r s'
  sum : ∀ {s s' : PS} {r : T}, sumS l ts n s = some (r, s') → s'.stuck = false → Der l ts .sum s r s'
  term : ∀ {s s' : PS} {r : T}, termS l ts n s = some (r, s') → s'.stuck = false → Der l ts .term s r s'
  part : ∀ {p : Part} {s s' : PS} {r : T}, partS l ts n p s = some (r, s') → s'.stuck = false → Der l ts (pk p) s r s'
  chain : ∀ {p : Part} {g : List Int} {s s' : PS} {r : T}, (∀ x ∈ g, x ≠ 0) → chainS l ts n p g s = some (r, s') → s'.stuck = false → ∃ w1 w2 x, Seg ts s.next s'.next (w1 ++ w2) ∧ G l (pk p) w1 x ∧ G l (.chF p g x) w2 r
  chainFrom : ∀ {p : Part} {g : List Int} {a : T} {s s' : PS} {r : T}, (∀ x ∈ g, x ≠ 0) → chainFromS l ts n p g a s = some (r, s') → s'.stuck = false → Der l ts (.chF p g a) s r s'
  call : ∀ {s s' : PS} {r : T}, callS l ts n s = some (r, s') → s'.stuck = false → Der l ts .call s r s'
  callFrom : ∀ {a : T} {s s' : PS} {r : T}, callFromS l ts n a s = some (r, s') → s'.stuck = false → Der l ts (.caF a) s r s'
  atom : ∀ {s s' : PS} {r : T}, atomS l ts n s = some (r, s') → s'.stuck = false → Der l ts .atom s r s'
  bracket : ∀ {s s' : PS} {r : T}, bracketS l ts n s = some (r, s') → s'.stuck = false → Der l ts .atom s r s'

variable {l : List UInt8} {ts : List Tok}

theorem begin_tok {s : Int} {st st' : PS} {k : Nat} (h : beginS ts s st = some (k, st')) (hs : st'.stuck = false) (h0 : s ≠ 0) : ∃ t, ts[st.next]? = some t ∧ t.sort = s ∧ k = t.fr ∧ st'.next = st.next + 1 := by
  have d1 := (begin_deep h hs).1
  unfold beginS at h
  rw [if_neg d1, Option.bind_some] at h
  split at h
  · obtain ⟨⟨t1, s3⟩, h2, h⟩ := Option.bind_eq_some_iff.1 h
    cases h
    obtain ⟨q1, q2, q3⟩ := take_next h2 hs h0
    exact ⟨t1, q2, q3, rfl, q1⟩
  · cases h

theorem any_tok : ∀ {g : List Int} {st st' : PS} {k : Int}, (∀ x ∈ g, x ≠ 0) → takeAnyS ts g st = some (k, st') → st'.stuck = false → (k = 0 ∧ st' = st) ∨ (k ∈ g ∧ ∃ t, ts[st.next]? = some t ∧ t.sort = k ∧ st'.next = st.next + 1)
  | [], st, st', k, _, h, _ => by cases h; exact .inl ⟨rfl, rfl⟩
  | x :: g, st, st', k, h0, h, hs => by
    rw [takeAnyS] at h
    obtain ⟨t, ht, h⟩ := Option.bind_eq_some_iff.1 h
    split at h
    · obtain ⟨⟨t1, s3⟩, h2, h⟩ := Option.bind_eq_some_iff.1 h
      cases h
      obtain ⟨q1, q2, q3⟩ := take_next h2 hs (h0 x (by simp))
      exact .inr ⟨by rw [q3]; simp, t1, q2, rfl, q1⟩
    · rcases any_tok (fun y hy => h0 y (by simp [hy])) h hs with q | ⟨q, r⟩
      · exact .inl q
      · exact .inr ⟨by simp [q], r⟩

theorem binder_tok {st st' : PS} {x : List UInt8} {k : Nat} (h : binderS l ts st = some ((x, k), st')) (hs : st'.stuck = false) : ∃ t, ts[st.next]? = some t ∧ t.sort = 1 ∧ (t.fr ≤ t.to ∧ t.to ≤ l.length) ∧ x = piece l t.fr t.to ∧ k = t.fr ∧ st'.next = st.next + 1 := by
  unfold binderS at h
  obtain ⟨⟨t, s3⟩, h1, h⟩ := Option.bind_eq_some_iff.1 h
  split at h
  · rename_i hc
    cases h
    obtain ⟨a, b, c⟩ := take_next h1 hs (by decide)
    exact ⟨t, b, c, hc, rfl, rfl, a⟩
  · cases h

theorem gram_all (l : List UInt8) (ts : List Tok) : ∀ n, GAll l ts n
  | 0 => by constructor <;> (intros; simp_all [exprS, letS, funS, condS, cmpS, sumS, termS, partS, chainS, chainFromS, callS, callFromS, atomS, bracketS])
  | n + 1 => by
    have ih := gram_all l ts n
    have M := mild_all l ts n
    constructor
    case expr =>
      intro s s' r h hs
      rw [exprS] at h
      obtain ⟨t, _, h⟩ := Option.bind_eq_some_iff.1 h
      split at h
      · exact ih.lett h hs
      split at h
      · exact ih.fn h hs
      split at h
      · exact ih.cond h hs
      · obtain ⟨ws, h1, h2⟩ := ih.cmp h hs
        exact ⟨ws, h1, .ecmp h2⟩
    case lett =>
      intro s s' r h hs
      simp only [letS, Option.bind_eq_some_iff, Option.some.injEq, Prod.mk.injEq, Prod.exists] at h
      obtain ⟨k, t1, h1, rc, t2, h2, bn, bat, t3, h3, c4, t4, h4, d, t5, h5, c6, t6, h6, x, t7, h7, t8, h8, rfl, rfl⟩ := h
      have a7 : t7.stuck = false := by rw [← (endS_mild h8).1]; exact hs
      have a6 := (M.expr h7).1 a7
      have a5 := (takeS_mild h6).1 a6
      have a4 := (M.expr h5).1 a5
      have a3 := (takeS_mild h4).1 a4
      have a2 := (binderS_mild h3).1 a3
      have a1 := (takeAnyS_mild h2).1 a2
      obtain ⟨u1, b1, c1, rfl, n1⟩ := begin_tok h1 a1 (by decide)
      obtain ⟨u3, b3, c3, p3, rfl, rfl, n3⟩ := binder_tok h3 a3
      obtain ⟨n4, b4, c4'⟩ := take_next h4 a4 (by decide)
      obtain ⟨ds, g5, D⟩ := ih.expr h5 a5
      obtain ⟨n6, b6, c6'⟩ := take_next h6 a6 (by decide)
      obtain ⟨bs, g7, B⟩ := ih.expr h7 a7
      have n8 := end_next h8
      unfold Der
      rw [n8]
      have tail : Seg ts t3.next t7.next (c4 :: (ds ++ c6 :: bs)) := Seg.cons b4 (by rw [← n4]; exact g5.append (Seg.cons b6 (by rw [← n6]; exact g7)))
      rcases any_tok (by decide) h2 a2 with ⟨rfl, rfl⟩ | ⟨hk, u2, b2, c2, n2⟩
      · refine ⟨_, Seg.cons b1 ?_, .lett (rcs := []) (rc := false) c1 (.inl ⟨rfl, rfl⟩) c3 c4' c6' p3 D B⟩
        rw [← n1]
        exact Seg.cons b3 (by rw [← n3]; exact tail)
      · obtain rfl : rc = 4 := by simpa using hk
        refine ⟨_, Seg.cons b1 ?_, .lett (rcs := [u2]) (rc := true) c1 (.inr ⟨u2, rfl, c2, rfl⟩) c3 c4' c6' p3 D B⟩
        rw [← n1]
        exact Seg.cons b2 (by rw [← n2]; exact Seg.cons b3 (by rw [← n3]; exact tail))
    case fn =>
      intro s s' r h hs
      simp only [funS, Option.bind_eq_some_iff, Option.some.injEq, Prod.mk.injEq, Prod.exists] at h
      obtain ⟨k, t1, h1, bn, bat, t3, h3, c4, t4, h4, d, t5, h5, t8, h8, rfl, rfl⟩ := h
      have a5 : t5.stuck = false := by rw [← (endS_mild h8).1]; exact hs
      have a4 := (M.expr h5).1 a5
      have a3 := (takeS_mild h4).1 a4
      have a1 := (binderS_mild h3).1 a3
      obtain ⟨u1, b1, c1, rfl, n1⟩ := begin_tok h1 a1 (by decide)
      obtain ⟨u3, b3, c3, p3, rfl, rfl, n3⟩ := binder_tok h3 a3
      obtain ⟨n4, b4, c4'⟩ := take_next h4 a4 (by decide)
      obtain ⟨bs, g5, B⟩ := ih.expr h5 a5
      have n8 := end_next h8
      unfold Der
      rw [n8]
      exact ⟨_, Seg.cons b1 (by rw [← n1]; exact Seg.cons b3 (by rw [← n3]; exact Seg.cons b4 (by rw [← n4]; exact g5))), .fn c1 c3 c4' p3 B⟩
    case cond =>
      intro s s' r h hs
      simp only [condS, Option.bind_eq_some_iff, Option.some.injEq, Prod.mk.injEq, Prod.exists] at h
      obtain ⟨k, t1, h1, x, t2, h2, c3, t3, h3, y, t4, h4, c5, t5, h5, z, t6, h6, t8, h8, rfl, rfl⟩ := h
      have a6 : t6.stuck = false := by rw [← (endS_mild h8).1]; exact hs
      have a5 := (M.expr h6).1 a6
      have a4 := (takeS_mild h5).1 a5
      have a3 := (M.expr h4).1 a4
      have a2 := (takeS_mild h3).1 a3
      have a1 := (M.expr h2).1 a2
      obtain ⟨u1, b1, c1, rfl, n1⟩ := begin_tok h1 a1 (by decide)
      obtain ⟨cs, g2, C⟩ := ih.expr h2 a2
      obtain ⟨n3, b3, c3'⟩ := take_next h3 a3 (by decide)
      obtain ⟨xs, g4, X⟩ := ih.expr h4 a4
      obtain ⟨n5, b5, c5'⟩ := take_next h5 a5 (by decide)
      obtain ⟨ys, g6, Y⟩ := ih.expr h6 a6
      have n8 := end_next h8
      unfold Der
      rw [n8]
      exact ⟨_, Seg.cons b1 (by rw [← n1]; exact g2.append (Seg.cons b3 (by rw [← n3]; exact g4.append (Seg.cons b5 (by rw [← n5]; exact g6))))), .cond c1 c3' c5' C X Y⟩
    case cmp =>
      intro s s' r h hs
      simp only [cmpS, Option.bind_eq_some_iff, Prod.exists] at h
      obtain ⟨x, t1, h1, sg, t2, h2, h⟩ := h
      split at h
      · rename_i h0
        cases h
        have a1 := (takeAnyS_mild h2).1 hs
        obtain ⟨ws, g1, X⟩ := ih.sum h1 a1
        rcases any_tok (by decide) h2 hs with ⟨_, rfl⟩ | ⟨hk, _⟩
        · exact ⟨ws, g1, .cmp1 X⟩
        · rw [h0] at hk; simp at hk
      · rename_i h0
        simp only [Option.bind_eq_some_iff, Option.some.injEq, Prod.mk.injEq, Prod.exists] at h
        obtain ⟨y, t3, h3, rfl, rfl⟩ := h
        have a2 := (M.sum h3).1 hs
        have a1 := (takeAnyS_mild h2).1 a2
        obtain ⟨w1, g1, X⟩ := ih.sum h1 a1
        obtain ⟨w2, g3, Y⟩ := ih.sum h3 hs
        rcases any_tok (by decide) h2 a2 with ⟨q, _⟩ | ⟨hk, u, bu, rfl, nu⟩
        · exact absurd q h0
        · exact ⟨_, g1.append (Seg.cons bu (by rw [← nu]; exact g3)), .cmp2 X (by simpa using hk) Y⟩
    case sum =>
      intro s s' r h hs
      rw [sumS] at h
      obtain ⟨w1, w2, x, g, X, C⟩ := ih.chain (by decide) h hs
      exact ⟨_, g, .sum X C⟩
    case term =>
      intro s s' r h hs
      rw [termS] at h
      obtain ⟨w1, w2, x, g, X, C⟩ := ih.chain (by decide) h hs
      exact ⟨_, g, .term X C⟩
    case part =>
      intro p s s' r h hs
      cases p with
      | term => rw [partS] at h; exact ih.term h hs
      | call => rw [partS] at h; exact ih.call h hs
    case chain =>
      intro p g s s' r hg h hs
      simp only [chainS, Option.bind_eq_some_iff, Prod.exists] at h
      obtain ⟨a, t1, h1, h2⟩ := h
      have a1 := (M.chainFrom h2).1 hs
      obtain ⟨w1, g1, X⟩ := ih.part h1 a1
      obtain ⟨w2, g2, C⟩ := ih.chainFrom hg h2 hs
      exact ⟨w1, w2, a, g1.append g2, X, C⟩
    case chainFrom =>
      intro p g a s s' r hg h hs
      simp only [chainFromS, Option.bind_eq_some_iff, Prod.exists] at h
      obtain ⟨k, t1, h1, h⟩ := h
      split at h
      · rename_i h0
        cases h
        rcases any_tok hg h1 hs with ⟨_, rfl⟩ | ⟨hk, _⟩
        · exact ⟨[], Seg.nil _ _, .chN⟩
        · rw [h0] at hk; exact absurd rfl (hg _ hk)
      · rename_i h0
        simp only [Option.bind_eq_some_iff, Prod.exists] at h
        obtain ⟨c, t2, h2, h3⟩ := h
        have a2 := (M.chainFrom h3).1 hs
        have a1 := (M.part h2).1 a2
        obtain ⟨w1, g1, Y⟩ := ih.part h2 a2
        obtain ⟨w2, g2, C⟩ := ih.chainFrom hg h3 hs
        rcases any_tok hg h1 a1 with ⟨q, _⟩ | ⟨hk, u, bu, rfl, nu⟩
        · exact absurd q h0
        · exact ⟨_, Seg.cons bu (by rw [← nu]; exact g1.append g2), .chC hk Y C⟩
    case call =>
      intro s s' r h hs
      simp only [callS, Option.bind_eq_some_iff, Prod.exists] at h
      obtain ⟨a, t1, h1, h2⟩ := h
      have a1 := (M.callFrom h2).1 hs
      obtain ⟨w1, g1, X⟩ := ih.atom h1 a1
      obtain ⟨w2, g2, C⟩ := ih.callFrom h2 hs
      exact ⟨_, g1.append g2, .call X C⟩
    case callFrom =>
      intro a s s' r h hs
      simp only [callFromS, Option.bind_eq_some_iff] at h
      obtain ⟨t, ht, h⟩ := h
      split at h
      · simp only [Option.bind_eq_some_iff, Prod.exists] at h
        obtain ⟨c, t3, h2, h3⟩ := h
        have a2 := (M.callFrom h3).1 hs
        obtain ⟨w1, g1, Y⟩ := ih.atom h2 a2
        obtain ⟨w2, g2, C⟩ := ih.callFrom h3 hs
        exact ⟨_, g1.append g2, .caC Y C⟩
      · cases h
        exact ⟨[], Seg.nil _ _, .caN⟩
    case atom =>
      intro s s' r h hs
      simp only [atomS, Option.bind_eq_some_iff] at h
      obtain ⟨t, ht, h⟩ := h
      split at h
      · exact ih.bracket h hs
      split at h
      · rename_i h16 hb
        simp only [Option.bind_eq_some_iff, Option.some.injEq, Prod.mk.injEq, Prod.exists] at h
        obtain ⟨c, t3, h2, x, h3, rfl, rfl⟩ := h
        have h0 : t.sort ≠ 0 := by simp only [beginsAtom, decide_eq_true_eq] at hb; omega
        have hst := (takeS_mild h2).1 hs
        obtain ⟨n1, q1, q2⟩ := take_next h2 hs h0
        have ht' : ts[s.next]? = some t := by
          unfold tokS at ht
          rw [hst] at ht
          simpa using ht
        exact ⟨[t], by rw [n1]; exact Seg.one ht', .leaf hb h16 h3⟩
      · simp only [Option.bind_eq_some_iff, Option.some.injEq, Prod.mk.injEq] at h
        obtain ⟨_, h2, rfl, rfl⟩ := h
        rw [(failS_stuck h2).1] at hs
        cases hs
    case bracket =>
      intro s s' r h hs
      simp only [bracketS, Option.bind_eq_some_iff, Prod.exists] at h
      obtain ⟨k, t1, h1, x, t2, h2, sg, t3, h3, h⟩ := h
      split at h
      · rename_i h18
        simp only [Option.bind_eq_some_iff, Option.some.injEq, Prod.mk.injEq, Prod.exists] at h
        obtain ⟨y, t4, h4, c5, t5, h5, t6, h6, rfl, rfl⟩ := h
        have a5 : t5.stuck = false := by rw [← (endS_mild h6).1]; exact hs
        have a4 := (takeS_mild h5).1 a5
        have a3 := (M.expr h4).1 a4
        have a2 := (takeAnyS_mild h3).1 a3
        have a1 := (M.expr h2).1 a2
        obtain ⟨u1, b1, c1, rfl, n1⟩ := begin_tok h1 a1 (by decide)
        obtain ⟨w1, g2, X⟩ := ih.expr h2 a2
        obtain ⟨w2, g4, Y⟩ := ih.expr h4 a4
        obtain ⟨n5, b5, c5'⟩ := take_next h5 a5 (by decide)
        have n6 := end_next h6
        unfold Der
        rw [n6]
        rcases any_tok (by decide) h3 a3 with ⟨q, _⟩ | ⟨_, u, bu, cu, nu⟩
        · rw [h18] at q; cases q
        · exact ⟨_, Seg.cons b1 (by rw [← n1]; exact g2.append (Seg.cons bu (by rw [← nu]; exact g4.append (by rw [n5]; exact Seg.one b5)))), .pair c1 (by rw [cu]; exact h18) c5' X Y⟩
      · rename_i h18
        simp only [Option.bind_eq_some_iff, Option.some.injEq, Prod.mk.injEq, Prod.exists] at h
        obtain ⟨c5, t5, h5, t6, h6, rfl, rfl⟩ := h
        have a5 : t5.stuck = false := by rw [← (endS_mild h6).1]; exact hs
        have a3 := (takeS_mild h5).1 a5
        have a2 := (takeAnyS_mild h3).1 a3
        have a1 := (M.expr h2).1 a2
        obtain ⟨u1, b1, c1, rfl, n1⟩ := begin_tok h1 a1 (by decide)
        obtain ⟨w1, g2, X⟩ := ih.expr h2 a2
        obtain ⟨n5, b5, c5'⟩ := take_next h5 a5 (by decide)
        have n6 := end_next h6
        unfold Der
        rw [n6]
        rcases any_tok (by decide) h3 a3 with ⟨_, rfl⟩ | ⟨q, _⟩
        · exact ⟨_, Seg.cons b1 (by rw [← n1]; exact g2.append (by rw [n5]; exact Seg.one b5)), .bracket c1 c5' X⟩
        · exact absurd (by simpa using q) h18

end Go.Proofs.YtckhafpejefbbaaGreatDoor.Tw

/- The grammar, told by itself: what is derived is what the parser makes, where it makes anything. -/
namespace Go.Proofs.YtckhafpejefbbaaGreatDoor.Tw
open Go

def runK (l : List UInt8) (ts : List Tok) : GK → Nat → PS → Option (T × PS)
  | .expr, n, st => exprS l ts n st
  | .cmp, n, st => cmpS l ts n st
  | .sum, n, st => sumS l ts n st
  | .term, n, st => termS l ts n st
  | .call, n, st => callS l ts n st
  | .atom, n, st => atomS l ts n st
  | .chF p g a, n, st => chainFromS l ts n p g a st
  | .caF a, n, st => callFromS l ts n a st

def fol : GK → Int → Prop
  | .expr, s => stopSort s = true
  | .cmp, s => stopSort s = true
  | .sum, s => s ∉ [19, 20, 21, 22] ∧ beginsAtom s = false
  | .term, s => s ∉ [21, 22] ∧ beginsAtom s = false
  | .call, s => beginsAtom s = false
  | .atom, _ => True
  | .chF p g _, s => s ∉ g ∧ (match p with | .term => s ∉ [21, 22] ∧ beginsAtom s = false | .call => beginsAtom s = false)
  | .caF _, s => beginsAtom s = false

def okK : GK → Prop
  | .chF p g _ => ∀ x ∈ g, x ≠ 0 ∧ fol (pk p) x
  | _ => True

theorem fol_pk {p : Part} {g : List Int} {a : T} {s : Int} (h : fol (.chF p g a) s) : fol (pk p) s := by cases p <;> exact h.2

theorem stop_sum {s : Int} (h : stopSort s = true) : s ∉ [19, 20, 21, 22] ∧ beginsAtom s = false := by
  simp [stopSort] at h
  simp [beginsAtom]
  omega

theorem drop_cons {α : Type} {ts : List α} {k : Nat} {x : α} {r : List α} (h : ts.drop k = x :: r) : ts[k]? = some x ∧ ts.drop (k + 1) = r := by
  have e : ts[k]? = (ts.drop k)[0]? := by simp
  refine ⟨by rw [e, h]; rfl, ?_⟩
  rw [← List.drop_drop, h]
  rfl

def hdK : GK → List Tok → Prop
  | .expr, _ => True
  | .chF _ g _, ws => ws = [] ∨ ∃ t r, ws = t :: r ∧ t.sort ∈ g
  | .caF _, ws => ws = [] ∨ ∃ t r, ws = t :: r ∧ beginsAtom t.sort = true
  | _, ws => ∃ t r, ws = t :: r ∧ beginsAtom t.sort = true

theorem hd_app {ws w2 : List Tok} (h : ∃ t r, ws = t :: r ∧ beginsAtom t.sort = true) : ∃ t r, ws ++ w2 = t :: r ∧ beginsAtom t.sort = true := by
  obtain ⟨t, r, rfl, h⟩ := h
  exact ⟨t, r ++ w2, rfl, h⟩

theorem G.head {l : List UInt8} {k : GK} {ws : List Tok} {t : T} (h : G l k ws t) : hdK k ws := by
  induction h with
  | lett => trivial
  | fn => trivial
  | cond => trivial
  | ecmp => trivial
  | cmp1 _ ih => exact ih
  | cmp2 _ _ _ ih _ => exact hd_app ih
  | sum _ _ ih _ => exact hd_app ih
  | term _ _ ih _ => exact hd_app ih
  | chN => exact .inl rfl
  | chC hs => exact .inr ⟨_, _, rfl, hs⟩
  | call _ _ ih _ => exact hd_app ih
  | caN => exact .inl rfl
  | caC _ _ ih _ => exact .inr (hd_app ih)
  | leaf hb => exact ⟨_, _, rfl, hb⟩
  | bracket ha => exact ⟨_, _, rfl, by rw [ha]; rfl⟩
  | pair ha => exact ⟨_, _, rfl, by rw [ha]; rfl⟩

section
variable {l : List UInt8} {ts : List Tok}

theorem tok_at {st : PS} {x : Tok} {r : List Tok} (hs : st.stuck = false) (h : ts.drop st.next = x :: r) : tokS ts st = some x := by
  unfold tokS
  rw [hs]
  simpa using (drop_cons h).1

theorem take_at {s : Int} {st st' : PS} {t x : Tok} {r : List Tok} (hd : ts.drop st.next = x :: r) (h : takeS ts s st = some (t, st')) (hs : st'.stuck = false) (h0 : s ≠ 0) : t = x ∧ ts.drop st'.next = r := by
  obtain ⟨a, b, c⟩ := take_next h hs h0
  obtain ⟨d, e⟩ := drop_cons hd
  rw [d] at b
  cases b
  rw [a]
  exact ⟨rfl, e⟩

theorem begin_at {s : Int} {st st' : PS} {k : Nat} {x : Tok} {r : List Tok} (hd : ts.drop st.next = x :: r) (h : beginS ts s st = some (k, st')) (hs : st'.stuck = false) (h0 : s ≠ 0) : k = x.fr ∧ ts.drop st'.next = r := by
  obtain ⟨t, a, _, rfl, b⟩ := begin_tok h hs h0
  obtain ⟨d, e⟩ := drop_cons hd
  rw [d] at a
  cases a
  rw [b]
  exact ⟨rfl, e⟩

theorem binder_at {st st' : PS} {y : List UInt8} {k : Nat} {x : Tok} {r : List Tok} (hd : ts.drop st.next = x :: r) (h : binderS l ts st = some ((y, k), st')) (hs : st'.stuck = false) : y = piece l x.fr x.to ∧ k = x.fr ∧ ts.drop st'.next = r := by
  obtain ⟨t, a, _, _, rfl, rfl, b⟩ := binder_tok h hs
  obtain ⟨d, e⟩ := drop_cons hd
  rw [d] at a
  cases a
  rw [b]
  exact ⟨rfl, rfl, e⟩

theorem any_no : ∀ {g : List Int} {st st' : PS} {k : Int} {x : Tok}, tokS ts st = some x → x.sort ∉ g → takeAnyS ts g st = some (k, st') → k = 0 ∧ st' = st
  | [], st, st', k, x, _, _, h => by cases h; exact ⟨rfl, rfl⟩
  | y :: g, st, st', k, x, hx, hg, h => by
    rw [takeAnyS, hx, Option.bind_some, if_neg (fun e => hg (by simp [e]))] at h
    exact any_no hx (fun e => hg (by simp [e])) h

theorem any_yes : ∀ {g : List Int} {st st' : PS} {k : Int} {x : Tok} {r : List Tok}, st.stuck = false → ts.drop st.next = x :: r → (∀ y ∈ g, y ≠ 0) → x.sort ∈ g → takeAnyS ts g st = some (k, st') → st'.stuck = false → k = x.sort ∧ ts.drop st'.next = r
  | [], st, st', k, x, r, _, _, _, hg, h, _ => by cases hg
  | y :: g, st, st', k, x, r, hst, hx, h0, hg, h, hs => by
    rw [takeAnyS, tok_at hst hx, Option.bind_some] at h
    split at h
    · obtain ⟨⟨t1, s3⟩, h2, h⟩ := Option.bind_eq_some_iff.1 h
      cases h
      obtain ⟨rfl, q⟩ := take_at hx h2 hs (h0 y (by simp))
      exact ⟨rfl, q⟩
    · rename_i hne
      exact any_yes hst hx (fun z hz => h0 z (by simp [hz])) (by simpa [hne] using hg) h hs
end

def Mk (l : List UInt8) (ts : List Tok) (k : GK) (ws : List Tok) (t : T) : Prop :=
  ∀ {n : Nat} {st st' : PS} {r : T} {u : Tok} {rest : List Tok}, okK k → fol k u.sort → ts.drop st.next = ws ++ u :: rest → st.stuck = false → runK l ts k n st = some (r, st') → st'.stuck = false → r = t ∧ ts.drop st'.next = u :: rest

theorem chF_next {l : List UInt8} {p : Part} {g : List Int} {a : T} {w2 : List Tok} {t : T} (h : G l (.chF p g a) w2 t) (hg : ∀ x ∈ g, x ≠ 0 ∧ fol (pk p) x) {u : Tok} {rest : List Tok} (hu : fol (pk p) u.sort) : ∃ v r, w2 ++ u :: rest = v :: r ∧ fol (pk p) v.sort := by
  rcases h.head with rfl | ⟨v, r, rfl, hv⟩
  · exact ⟨u, rest, rfl, hu⟩
  · exact ⟨v, r ++ u :: rest, rfl, (hg _ hv).2⟩

theorem caF_next {l : List UInt8} {a : T} {w2 : List Tok} {t : T} (h : G l (.caF a) w2 t) {u : Tok} {rest : List Tok} : ∃ v r, w2 ++ u :: rest = v :: r := by
  rcases h.head with rfl | ⟨v, r, rfl, hv⟩
  · exact ⟨u, rest, rfl⟩
  · exact ⟨v, r ++ u :: rest, rfl⟩

theorem g19 : ∀ x ∈ ([19, 20] : List Int), x ≠ 0 ∧ fol (pk .term) x := by
  intro x hx
  simp only [List.mem_cons, List.not_mem_nil, or_false] at hx
  rcases hx with rfl | rfl <;> exact ⟨by decide, by decide, by decide⟩
theorem g21 : ∀ x ∈ ([21, 22] : List Int), x ≠ 0 ∧ fol (pk .call) x := by
  intro x hx
  simp only [List.mem_cons, List.not_mem_nil, or_false] at hx
  rcases hx with rfl | rfl <;> exact ⟨by decide, show beginsAtom _ = false by decide⟩

theorem mk_all (l : List UInt8) (ts : List Tok) {k : GK} {ws : List Tok} {t : T} (h : G l k ws t) : Mk l ts k ws t := by
  induction h with
  | @lett tl tn te ti rcs ds bs rc d b hl hrc hn he hi hp D B ihD ihB =>
    intro n st st' r u rest _ hu hd hst h hs
    simp only [List.cons_append, List.append_assoc] at hd
    cases n with
    | zero => simp [runK, exprS] at h
    | succ n =>
    have M := mild_all l ts
    simp only [runK] at h
    rw [exprS, tok_at hst hd, Option.bind_some, if_pos hl] at h
    cases n with
    | zero => simp [letS] at h
    | succ n =>
    simp only [letS, Option.bind_eq_some_iff, Option.some.injEq, Prod.mk.injEq, Prod.exists] at h
    obtain ⟨k, t1, h1, rcv, t2, h2, bn, bat, t3, h3, c4, t4, h4, d', t5, h5, c6, t6, h6, x, t7, h7, t8, h8, rfl, rfl⟩ := h
    have a7 : t7.stuck = false := by rw [← (endS_mild h8).1]; exact hs
    have a6 := ((M n).expr h7).1 a7
    have a5 := (takeS_mild h6).1 a6
    have a4 := ((M n).expr h5).1 a5
    have a3 := (takeS_mild h4).1 a4
    have a2 := (binderS_mild h3).1 a3
    have a1 := (takeAnyS_mild h2).1 a2
    obtain ⟨rfl, d1⟩ := begin_at hd h1 a1 (by decide)
    have key : rcv = (if rc then 4 else 0) ∧ ts.drop t2.next = tn :: te :: (ds ++ ti :: (bs ++ u :: rest)) := by
      rcases hrc with ⟨rfl, rfl⟩ | ⟨r4, rfl, h4', rfl⟩
      · obtain ⟨rfl, rfl⟩ := any_no (tok_at a1 d1) (by rw [hn]; decide) h2
        exact ⟨rfl, d1⟩
      · obtain ⟨rfl, q⟩ := any_yes a1 d1 (by decide) (by rw [h4']; decide) h2 a2
        exact ⟨h4', q⟩
    obtain ⟨rfl, d2⟩ := key
    obtain ⟨rfl, rfl, d3⟩ := binder_at d2 h3 a3
    obtain ⟨rfl, d4⟩ := take_at d3 h4 a4 (by decide)
    obtain ⟨rfl, d5⟩ := ihD trivial (show stopSort ti.sort = true by rw [hi]; decide) d4 a4 (n := n) h5 a5
    obtain ⟨rfl, d6⟩ := take_at d5 h6 a6 (by decide)
    obtain ⟨rfl, d7⟩ := ihB trivial hu d6 a6 (n := n) h7 a7
    refine ⟨?_, by rw [end_next h8]; exact d7⟩
    cases rc <;> rfl
  | @fn tl tn ta bs b hl hn ha hp B ihB =>
    intro n st st' r u rest _ hu hd hst h hs
    simp only [List.cons_append] at hd
    cases n with
    | zero => simp [runK, exprS] at h
    | succ n =>
    have M := mild_all l ts
    simp only [runK] at h
    rw [exprS, tok_at hst hd, Option.bind_some, if_neg (by rw [hl]; decide), if_pos hl] at h
    cases n with
    | zero => simp [funS] at h
    | succ n =>
    simp only [funS, Option.bind_eq_some_iff, Option.some.injEq, Prod.mk.injEq, Prod.exists] at h
    obtain ⟨k, t1, h1, bn, bat, t3, h3, c4, t4, h4, x, t7, h7, t8, h8, rfl, rfl⟩ := h
    have a7 : t7.stuck = false := by rw [← (endS_mild h8).1]; exact hs
    have a4 := ((M n).expr h7).1 a7
    have a3 := (takeS_mild h4).1 a4
    have a1 := (binderS_mild h3).1 a3
    obtain ⟨rfl, d1⟩ := begin_at hd h1 a1 (by decide)
    obtain ⟨rfl, rfl, d3⟩ := binder_at d1 h3 a3
    obtain ⟨rfl, d4⟩ := take_at d3 h4 a4 (by decide)
    obtain ⟨rfl, d7⟩ := ihB trivial hu d4 a4 (n := n) h7 a7
    exact ⟨rfl, by rw [end_next h8]; exact d7⟩
  | @cond tl u1 u2 cs xs ys c x y hl h1' h2' C X Y ihC ihX ihY =>
    intro n st st' r u rest _ hu hd hst h hs
    simp only [List.cons_append, List.append_assoc] at hd
    cases n with
    | zero => simp [runK, exprS] at h
    | succ n =>
    have M := mild_all l ts
    simp only [runK] at h
    rw [exprS, tok_at hst hd, Option.bind_some, if_neg (by rw [hl]; decide), if_neg (by rw [hl]; decide), if_pos hl] at h
    cases n with
    | zero => simp [condS] at h
    | succ n =>
    simp only [condS, Option.bind_eq_some_iff, Option.some.injEq, Prod.mk.injEq, Prod.exists] at h
    obtain ⟨k, t1, h1, x', t2, h2, c3, t3, h3, y', t4, h4, c5, t5, h5, z', t6, h6, t8, h8, rfl, rfl⟩ := h
    have a6 : t6.stuck = false := by rw [← (endS_mild h8).1]; exact hs
    have a5 := ((M n).expr h6).1 a6
    have a4 := (takeS_mild h5).1 a5
    have a3 := ((M n).expr h4).1 a4
    have a2 := (takeS_mild h3).1 a3
    have a1 := ((M n).expr h2).1 a2
    obtain ⟨rfl, d1⟩ := begin_at hd h1 a1 (by decide)
    obtain ⟨rfl, d2⟩ := ihC trivial (show stopSort u1.sort = true by rw [h1']; decide) d1 a1 (n := n) h2 a2
    obtain ⟨rfl, d3⟩ := take_at d2 h3 a3 (by decide)
    obtain ⟨rfl, d4⟩ := ihX trivial (show stopSort u2.sort = true by rw [h2']; decide) d3 a3 (n := n) h4 a4
    obtain ⟨rfl, d5⟩ := take_at d4 h5 a5 (by decide)
    obtain ⟨rfl, d6⟩ := ihY trivial hu d5 a5 (n := n) h6 a6
    exact ⟨rfl, by rw [end_next h8]; exact d6⟩
  | @ecmp ws t h ih =>
    intro n st st' r u rest _ hu hd hst hr hs
    cases n with
    | zero => simp [runK, exprS] at hr
    | succ n =>
    obtain ⟨v, w, rfl, hv⟩ := h.head
    have hv' : v.sort ≠ 3 ∧ v.sort ≠ 6 ∧ v.sort ≠ 7 := by
      simp only [beginsAtom, decide_eq_true_eq] at hv
      omega
    simp only [runK] at hr
    rw [exprS, tok_at hst hd, Option.bind_some, if_neg hv'.1, if_neg hv'.2.1, if_neg hv'.2.2] at hr
    exact ih trivial hu hd hst (n := n) hr hs
  | @cmp1 ws t h ih =>
    intro n st st' r u rest _ hu hd hst hr hs
    cases n with
    | zero => simp [runK, cmpS] at hr
    | succ n =>
    simp only [runK, cmpS, Option.bind_eq_some_iff, Prod.exists] at hr
    obtain ⟨x, t1, h1, sg, t2, h2, hr⟩ := hr
    have a2 : t2.stuck = false := by
      split at hr
      · cases hr; exact hs
      · simp only [Option.bind_eq_some_iff, Option.some.injEq, Prod.mk.injEq, Prod.exists] at hr
        obtain ⟨y, t3, h3, rfl, rfl⟩ := hr
        exact ((mild_all l ts n).sum h3).1 hs
    have a1 := (takeAnyS_mild h2).1 a2
    obtain ⟨rfl, d1⟩ := ih trivial (stop_sum hu) hd hst (n := n) h1 a1
    have hns : u.sort ∉ ([23, 15] : List Int) := by
      have hu' : stopSort u.sort = true := hu
      simp [stopSort] at hu'
      simp
      omega
    obtain ⟨rfl, rfl⟩ := any_no (tok_at a1 d1) hns h2
    rw [if_pos rfl] at hr
    cases hr
    exact ⟨rfl, d1⟩
  | @cmp2 w1 w2 sg x y X hsg Y ihX ihY =>
    intro n st st' r u rest _ hu hd hst hr hs
    simp only [List.append_assoc, List.cons_append] at hd
    cases n with
    | zero => simp [runK, cmpS] at hr
    | succ n =>
    simp only [runK, cmpS, Option.bind_eq_some_iff, Prod.exists] at hr
    obtain ⟨x', t1, h1, sg', t2, h2, hr⟩ := hr
    have a2 : t2.stuck = false := by
      split at hr
      · cases hr; exact hs
      · simp only [Option.bind_eq_some_iff, Option.some.injEq, Prod.mk.injEq, Prod.exists] at hr
        obtain ⟨y, t3, h3, rfl, rfl⟩ := hr
        exact ((mild_all l ts n).sum h3).1 hs
    have a1 := (takeAnyS_mild h2).1 a2
    obtain ⟨rfl, d1⟩ := ihX trivial (show fol .sum sg.sort by rcases hsg with e | e <;> rw [e] <;> exact ⟨by decide, by decide⟩) hd hst (n := n) h1 a1
    obtain ⟨rfl, d2⟩ := any_yes a1 d1 (by decide) (by simpa using hsg) h2 a2
    rw [if_neg (by rcases hsg with e | e <;> rw [e] <;> decide)] at hr
    simp only [Option.bind_eq_some_iff, Option.some.injEq, Prod.mk.injEq, Prod.exists] at hr
    obtain ⟨y', t3, h3, rfl, rfl⟩ := hr
    obtain ⟨rfl, d3⟩ := ihY trivial (stop_sum hu) d2 a2 (n := n) h3 hs
    exact ⟨rfl, d3⟩
  | @sum w1 w2 x t X C ihX ihC =>
    intro n st st' r u rest _ hu hd hst hr hs
    rw [List.append_assoc] at hd
    cases n with
    | zero => simp [runK, sumS] at hr
    | succ n =>
    simp only [runK, sumS] at hr
    cases n with
    | zero => simp [chainS] at hr
    | succ n =>
    simp only [chainS, Option.bind_eq_some_iff, Prod.exists] at hr
    obtain ⟨x', t1, h1, h2⟩ := hr
    have a1 := ((mild_all l ts n).chainFrom h2).1 hs
    have hu2 : fol (.chF .term [19, 20] x) u.sort := ⟨fun h => hu.1 (by simp at h ⊢; omega), fun h => hu.1 (by simp at h ⊢; omega), hu.2⟩
    obtain ⟨v, w, hv, hvf⟩ := chF_next C g19 (rest := rest) (fol_pk hu2)
    rw [hv] at hd
    cases n with
    | zero => simp [partS] at h1
    | succ n =>
    rw [partS] at h1
    obtain ⟨rfl, d1⟩ := ihX trivial hvf hd hst (n := n) h1 a1
    rw [← hv] at d1
    exact ihC g19 hu2 d1 a1 (n := n + 1) h2 hs
  | @term w1 w2 x t X C ihX ihC =>
    intro n st st' r u rest _ hu hd hst hr hs
    rw [List.append_assoc] at hd
    cases n with
    | zero => simp [runK, termS] at hr
    | succ n =>
    simp only [runK, termS] at hr
    cases n with
    | zero => simp [chainS] at hr
    | succ n =>
    simp only [chainS, Option.bind_eq_some_iff, Prod.exists] at hr
    obtain ⟨x', t1, h1, h2⟩ := hr
    have a1 := ((mild_all l ts n).chainFrom h2).1 hs
    have hu2 : fol (.chF .call [21, 22] x) u.sort := ⟨hu.1, hu.2⟩
    obtain ⟨v, w, hv, hvf⟩ := chF_next C g21 (rest := rest) (fol_pk hu2)
    rw [hv] at hd
    cases n with
    | zero => simp [partS] at h1
    | succ n =>
    rw [partS] at h1
    obtain ⟨rfl, d1⟩ := ihX trivial hvf hd hst (n := n) h1 a1
    rw [← hv] at d1
    exact ihC g21 hu2 d1 a1 (n := n + 1) h2 hs
  | @chN p g a =>
    intro n st st' r u rest _ hu hd hst hr hs
    cases n with
    | zero => simp [runK, chainFromS] at hr
    | succ n =>
    simp only [runK, chainFromS, Option.bind_eq_some_iff, Prod.exists] at hr
    obtain ⟨k, t1, h1, hr⟩ := hr
    obtain ⟨rfl, rfl⟩ := any_no (tok_at hst hd) hu.1 h1
    rw [if_pos rfl] at hr
    cases hr
    exact ⟨rfl, hd⟩
  | @chC p g a sg w1 w2 y t hsg Y C ihY ihC =>
    intro n st st' r u rest hok hu hd hst hr hs
    simp only [List.cons_append, List.append_assoc] at hd
    cases n with
    | zero => simp [runK, chainFromS] at hr
    | succ n =>
    simp only [runK, chainFromS, Option.bind_eq_some_iff, Prod.exists] at hr
    obtain ⟨k, t1, h1, hr⟩ := hr
    have a1 : t1.stuck = false := by
      split at hr
      · cases hr; exact hs
      · simp only [Option.bind_eq_some_iff, Prod.exists] at hr
        obtain ⟨c, t2, h2, h3⟩ := hr
        exact ((mild_all l ts n).part h2).1 (((mild_all l ts n).chainFrom h3).1 hs)
    obtain ⟨rfl, d1⟩ := any_yes hst hd (fun y hy => (hok y hy).1) hsg h1 a1
    rw [if_neg (hok _ hsg).1] at hr
    simp only [Option.bind_eq_some_iff, Prod.exists] at hr
    obtain ⟨c, t2, h2, h3⟩ := hr
    have a2 := ((mild_all l ts n).chainFrom h3).1 hs
    obtain ⟨v, w, hv, hvf⟩ := chF_next C hok (rest := rest) (fol_pk hu)
    rw [hv] at d1
    cases n with
    | zero => simp [partS] at h2
    | succ n =>
    have h2' : runK l ts (pk p) n t1 = some (c, t2) := by
      cases p with
      | term => rw [partS] at h2; exact h2
      | call => rw [partS] at h2; exact h2
    obtain ⟨rfl, d2⟩ := ihY (by cases p <;> trivial) hvf d1 a1 h2' a2
    rw [← hv] at d2
    exact ihC hok (by cases p <;> exact hu) d2 a2 (n := n + 1) h3 hs
  | @call w1 w2 x t X C ihX ihC =>
    intro n st st' r u rest _ hu hd hst hr hs
    rw [List.append_assoc] at hd
    cases n with
    | zero => simp [runK, callS] at hr
    | succ n =>
    simp only [runK, callS, Option.bind_eq_some_iff, Prod.exists] at hr
    obtain ⟨x', t1, h1, h2⟩ := hr
    have a1 := ((mild_all l ts n).callFrom h2).1 hs
    obtain ⟨v, w, hv⟩ := caF_next C (u := u) (rest := rest)
    rw [hv] at hd
    obtain ⟨rfl, d1⟩ := ihX trivial trivial hd hst (n := n) h1 a1
    rw [← hv] at d1
    exact ihC trivial hu d1 a1 (n := n) h2 hs
  | @caN a =>
    intro n st st' r u rest _ hu hd hst hr hs
    cases n with
    | zero => simp [runK, callFromS] at hr
    | succ n =>
    have hu' : beginsAtom u.sort = false := hu
    simp only [runK] at hr
    rw [callFromS, tok_at hst hd, Option.bind_some, if_neg (by rw [hu']; decide)] at hr
    cases hr
    exact ⟨rfl, hd⟩
  | @caC a w1 w2 y t Y C ihY ihC =>
    intro n st st' r u rest _ hu hd hst hr hs
    rw [List.append_assoc] at hd
    cases n with
    | zero => simp [runK, callFromS] at hr
    | succ n =>
    obtain ⟨v0, w0, hv0, hb0⟩ := Y.head
    have hd0 := hd
    rw [hv0] at hd0
    simp only [runK] at hr
    rw [callFromS, tok_at hst hd0, Option.bind_some, if_pos hb0] at hr
    simp only [Option.bind_eq_some_iff, Prod.exists] at hr
    obtain ⟨c, t3, h2, h3⟩ := hr
    have a2 := ((mild_all l ts n).callFrom h3).1 hs
    obtain ⟨v, w, hv⟩ := caF_next C (u := u) (rest := rest)
    rw [hv] at hd
    obtain ⟨rfl, d1⟩ := ihY trivial trivial hd hst (n := n) h2 a2
    rw [← hv] at d1
    exact ihC trivial hu d1 a2 (n := n) h3 hs
  | @leaf tk x hb h16 hx =>
    intro n st st' r u rest _ hu hd hst hr hs
    cases n with
    | zero => simp [runK, atomS] at hr
    | succ n =>
    simp only [runK] at hr
    rw [atomS, tok_at hst hd, Option.bind_some, if_neg h16, if_pos hb] at hr
    simp only [Option.bind_eq_some_iff, Option.some.injEq, Prod.mk.injEq, Prod.exists] at hr
    obtain ⟨c, t3, h2, x', h3, rfl, rfl⟩ := hr
    have h0 : tk.sort ≠ 0 := by simp only [beginsAtom, decide_eq_true_eq] at hb; omega
    rw [hx] at h3
    cases h3
    exact ⟨rfl, (take_at hd h2 hs h0).2⟩
  | @bracket ta tc ws x ha hc X ihX =>
    intro n st st' r u rest _ hu hd hst hr hs
    simp only [List.cons_append, List.append_assoc, List.nil_append] at hd
    cases n with
    | zero => simp [runK, atomS] at hr
    | succ n =>
    simp only [runK] at hr
    rw [atomS, tok_at hst hd, Option.bind_some, if_pos ha] at hr
    cases n with
    | zero => simp [bracketS] at hr
    | succ n =>
    have M := mild_all l ts n
    simp only [bracketS, Option.bind_eq_some_iff, Prod.exists] at hr
    obtain ⟨k, t1, h1, x', t2, h2, sg, t3, h3, hr⟩ := hr
    have a3 : t3.stuck = false := by
      split at hr
      · simp only [Option.bind_eq_some_iff, Option.some.injEq, Prod.mk.injEq, Prod.exists] at hr
        obtain ⟨y, t4, h4, c5, t5, h5, t6, h6, rfl, rfl⟩ := hr
        exact (M.expr h4).1 ((takeS_mild h5).1 (by rw [← (endS_mild h6).1]; exact hs))
      · simp only [Option.bind_eq_some_iff, Option.some.injEq, Prod.mk.injEq, Prod.exists] at hr
        obtain ⟨c5, t5, h5, t6, h6, rfl, rfl⟩ := hr
        exact (takeS_mild h5).1 (by rw [← (endS_mild h6).1]; exact hs)
    have a2 := (takeAnyS_mild h3).1 a3
    have a1 := (M.expr h2).1 a2
    obtain ⟨rfl, d1⟩ := begin_at hd h1 a1 (by decide)
    obtain ⟨rfl, d2⟩ := ihX trivial (show stopSort tc.sort = true by rw [hc]; decide) d1 a1 (n := n) h2 a2
    obtain ⟨rfl, rfl⟩ := any_no (tok_at a2 d2) (by rw [hc]; decide) h3
    rw [if_neg (by decide)] at hr
    simp only [Option.bind_eq_some_iff, Option.some.injEq, Prod.mk.injEq, Prod.exists] at hr
    obtain ⟨c5, t5, h5, t6, h6, rfl, rfl⟩ := hr
    have a5 : t5.stuck = false := by rw [← (endS_mild h6).1]; exact hs
    obtain ⟨rfl, d5⟩ := take_at d2 h5 a5 (by decide)
    exact ⟨rfl, by rw [end_next h6]; exact d5⟩
  | @pair ta tm tc w1 w2 x y ha hm hc X Y ihX ihY =>
    intro n st st' r u rest _ hu hd hst hr hs
    simp only [List.cons_append, List.append_assoc, List.nil_append] at hd
    cases n with
    | zero => simp [runK, atomS] at hr
    | succ n =>
    simp only [runK] at hr
    rw [atomS, tok_at hst hd, Option.bind_some, if_pos ha] at hr
    cases n with
    | zero => simp [bracketS] at hr
    | succ n =>
    have M := mild_all l ts n
    simp only [bracketS, Option.bind_eq_some_iff, Prod.exists] at hr
    obtain ⟨k, t1, h1, x', t2, h2, sg, t3, h3, hr⟩ := hr
    have a3 : t3.stuck = false := by
      split at hr
      · simp only [Option.bind_eq_some_iff, Option.some.injEq, Prod.mk.injEq, Prod.exists] at hr
        obtain ⟨y, t4, h4, c5, t5, h5, t6, h6, rfl, rfl⟩ := hr
        exact (M.expr h4).1 ((takeS_mild h5).1 (by rw [← (endS_mild h6).1]; exact hs))
      · simp only [Option.bind_eq_some_iff, Option.some.injEq, Prod.mk.injEq, Prod.exists] at hr
        obtain ⟨c5, t5, h5, t6, h6, rfl, rfl⟩ := hr
        exact (takeS_mild h5).1 (by rw [← (endS_mild h6).1]; exact hs)
    have a2 := (takeAnyS_mild h3).1 a3
    have a1 := (M.expr h2).1 a2
    obtain ⟨rfl, d1⟩ := begin_at hd h1 a1 (by decide)
    obtain ⟨rfl, d2⟩ := ihX trivial (show stopSort tm.sort = true by rw [hm]; decide) d1 a1 (n := n) h2 a2
    obtain ⟨rfl, d3⟩ := any_yes a2 d2 (by decide) (by rw [hm]; decide) h3 a3
    rw [if_pos hm] at hr
    simp only [Option.bind_eq_some_iff, Option.some.injEq, Prod.mk.injEq, Prod.exists] at hr
    obtain ⟨y', t4, h4, c5, t5, h5, t6, h6, rfl, rfl⟩ := hr
    have a5 : t5.stuck = false := by rw [← (endS_mild h6).1]; exact hs
    have a4 := (takeS_mild h5).1 a5
    obtain ⟨rfl, d4⟩ := ihY trivial (show stopSort tc.sort = true by rw [hc]; decide) d3 a3 (n := n) h4 a4
    obtain ⟨rfl, d5⟩ := take_at d4 h5 a5 (by decide)
    exact ⟨rfl, by rw [end_next h6]; exact d5⟩

end Go.Proofs.YtckhafpejefbbaaGreatDoor.Tw

/- A definition in the places of its uses: the tokens. -/
namespace Go.Proofs.YtckhafpejefbbaaGreatDoor.Tw
namespace Inl
open Go

inductive LexW : List UInt8 → List (Int × List UInt8) → Prop
  | nil : LexW [] []
  | gap {m : List UInt8} {ws : List (Int × List UInt8)} (h : m ≠ []) (hg : 0 < gapL m) (r : LexW (m.drop (gapL m).toNat) ws) : LexW m ws
  | tok {m : List UInt8} {ws : List (Int × List UInt8)} (h : m ≠ []) (hg : ¬ 0 < gapL m) (h0 : (firstL m).2 ≠ 0) (r : LexW (m.drop (firstL m).2.toNat) ws) : LexW m (((firstL m).1, m.take (firstL m).2.toNat) :: ws)

theorem lex_apart {off : Nat} {m : List UInt8} {ts : List Tok} (h : Lex off m ts) : ts.Pairwise (fun t u => t.to ≤ u.fr) := by
  induction h with
  | nil => exact .nil
  | gap _ _ _ ih => exact ih
  | @tok off m ts hm hg h0 hr ih => exact List.pairwise_cons.2 ⟨fun u hu => ((hr.toks).1 u hu).low, ih⟩

end Inl
end Go.Proofs.YtckhafpejefbbaaGreatDoor.Tw

/- A definition in the places of its uses: the tokens (2). -/
namespace Go.Proofs.YtckhafpejefbbaaGreatDoor.Tw
namespace Inl
open Go

def chB (dx : Nat) (blk : Nat → List UInt8) (S : List Nat) : List (Nat × Nat × List UInt8) := S.map fun f => (f, f + dx, blk f)

structure BlkOk (l : List UInt8) (b : List UInt8) (bw : List (Int × List UInt8)) (f : Nat) : Prop where
  lex : ∀ {r' : List UInt8} {wr : List (Int × List UInt8)}, LexW r' wr → wordI (headI r') = false → LexW (b ++ r') (bw ++ wr)
  ne : b ≠ []
  no62 : headI b ≠ 62
  dig : digitI (headI b) = true → 0 < f → digitI (headI (l.drop (f - 1))) = false

end Inl
end Go.Proofs.YtckhafpejefbbaaGreatDoor.Tw

/- A definition in the places of its uses: what is derived of the altered tokens. -/
namespace Go.Proofs.YtckhafpejefbbaaGreatDoor.Tw
namespace Inl
open Go

def Bd : IE → T → Prop
  | E, .name _ _ x => ∃ s, hitB E x s
  | _, .int .. => True
  | _, .truth .. => True
  | _, .side .. => True
  | E, .bracket _ _ i => Bd E i
  | E, .pair _ _ a b => Bd E a ∧ Bd E b
  | E, .call _ _ a b => Bd E a ∧ Bd E b
  | E, .binary _ _ _ a b => Bd E a ∧ Bd E b
  | E, .cond _ _ a b c => Bd E a ∧ Bd E b ∧ Bd E c
  | E, .fn _ _ n _ a => Bd (.both n true :: E) a
  | E, .lett _ _ r n _ a b => Bd (if r then .both n false :: E else E) a ∧ Bd (.both n true :: E) b

structure CpTok (l l' : List UInt8) (a b : Tok) : Prop where
  sort : b.sort = a.sort
  fit : a.fr ≤ a.to ∧ a.to ≤ l.length → b.fr ≤ b.to ∧ b.to ≤ l'.length
  text : piece l' b.fr b.to = piece l a.fr a.to

inductive Cp (l l' : List UInt8) (S : Nat → Prop) (d : T) : List Tok → List Tok → Prop
  | nil : Cp l l' S d [] []
  | keep {a b : Tok} {ws ws' : List Tok} (h : CpTok l l' a b) (hS : a.sort = 1 → ¬ S a.fr) (r : Cp l l' S d ws ws') : Cp l l' S d (a :: ws) (b :: ws')
  | use {a : Tok} {blk ws ws' : List Tok} (h : a.sort = 1) (hS : S a.fr) (hb : ∀ F, Bd F d → ∃ d', G l' .atom blk d' ∧ (Sb F d d' ∨ ∃ f t d2, d' = .bracket f t d2 ∧ Sb F d d2)) (r : Cp l l' S d ws ws') : Cp l l' S d (a :: ws) (blk ++ ws')

variable {l l' : List UInt8} {S : Nat → Prop} {d : T}

inductive KR (E : IE) : GK → GK → Prop
  | expr : KR E .expr .expr
  | cmp : KR E .cmp .cmp
  | sum : KR E .sum .sum
  | term : KR E .term .term
  | call : KR E .call .call
  | atom : KR E .atom .atom
  | chF {p : Part} {g : List Int} {a a' : T} (hg : ∀ x ∈ g, x ≠ 1) (h : Sb E a a') : KR E (.chF p g a) (.chF p g a')
  | caF {a a' : T} (h : Sb E a a') : KR E (.caF a) (.caF a')

end Inl
end Go.Proofs.YtckhafpejefbbaaGreatDoor.Tw

/- A definition in the places of its uses: the way to the let. -/
namespace Go.Proofs.YtckhafpejefbbaaGreatDoor.Tw
namespace Inl
open Go

inductive Pa : IE → T → T → IE → Prop
  | here {E : IE} {n : T} : Pa E n n E
  | bracket {E F : IE} {f t : Nat} {i n : T} (h : Pa E i n F) : Pa E (.bracket f t i) n F
  | pairL {E F : IE} {f t : Nat} {a b n : T} (h : Pa E a n F) : Pa E (.pair f t a b) n F
  | pairR {E F : IE} {f t : Nat} {a b n : T} (h : Pa E b n F) : Pa E (.pair f t a b) n F
  | callL {E F : IE} {f t : Nat} {a b n : T} (h : Pa E a n F) : Pa E (.call f t a b) n F
  | callR {E F : IE} {f t : Nat} {a b n : T} (h : Pa E b n F) : Pa E (.call f t a b) n F
  | binL {E F : IE} {f t : Nat} {s : Int} {a b n : T} (h : Pa E a n F) : Pa E (.binary f t s a b) n F
  | binR {E F : IE} {f t : Nat} {s : Int} {a b n : T} (h : Pa E b n F) : Pa E (.binary f t s a b) n F
  | cond1 {E F : IE} {f t : Nat} {a b c n : T} (h : Pa E a n F) : Pa E (.cond f t a b c) n F
  | cond2 {E F : IE} {f t : Nat} {a b c n : T} (h : Pa E b n F) : Pa E (.cond f t a b c) n F
  | cond3 {E F : IE} {f t : Nat} {a b c n : T} (h : Pa E c n F) : Pa E (.cond f t a b c) n F
  | fn {E F : IE} {f t k : Nat} {m : List UInt8} {a n : T} (h : Pa (.both m true :: E) a n F) : Pa E (.fn f t m k a) n F
  | lettD {E F : IE} {f t k : Nat} {r : Bool} {m : List UInt8} {a b n : T} (h : Pa (if r then .both m false :: E else E) a n F) : Pa E (.lett f t r m k a b) n F
  | lettB {E F : IE} {f t k : Nat} {r : Bool} {m : List UInt8} {a b n : T} (h : Pa (.both m true :: E) b n F) : Pa E (.lett f t r m k a b) n F

structure HeadOf (l : List UInt8) (n d b : T) (hd ds bs : List Tok) : Prop where
  ex : ∃ tl tn te ti : Tok, hd = tl :: tn :: te :: (ds ++ [ti]) ∧ tl.sort = 3 ∧ tn.sort = 1 ∧ te.sort = 15 ∧ ti.sort = 5 ∧ n = .lett tl.fr b.to false (piece l tn.fr tn.to) tn.fr d b
  D : G l .expr ds d
  B : G l .expr bs b

variable {l : List UInt8} {n d b : T} {F : IE}

end Inl
end Go.Proofs.YtckhafpejefbbaaGreatDoor.Tw

/- A definition in the places of its uses: the tree of the altered text. -/
namespace Go.Proofs.YtckhafpejefbbaaGreatDoor.Tw
namespace Inl
open Go

def frK : GK → List Tok → T → Prop
  | .chF _ _ a, _, t => t.fr = a.fr
  | .caF a, _, t => t.fr = a.fr
  | _, ws, t => ∃ tk r, ws = tk :: r ∧ t.fr = tk.fr

theorem leaf_fr {l : List UInt8} {tk : Tok} {x : T} (h : leafS l tk = some x) : x.fr = tk.fr ∧ x.to = tk.to ∧ ∀ f ∈ x.places, f = tk.fr ∧ (beginsAtom tk.sort = true → tk.sort ≠ 16 → tk.sort = 1) := by
  unfold leafS at h
  split at h
  · split at h
    · obtain ⟨v, _, h⟩ := Option.bind_eq_some_iff.1 h
      cases h
      exact ⟨rfl, rfl, fun f hf => by cases hf⟩
    · cases h
  · rename_i h2
    split at h
    · cases h; exact ⟨rfl, rfl, fun f hf => by cases hf⟩
    · rename_i h3
      split at h
      · cases h; exact ⟨rfl, rfl, fun f hf => by cases hf⟩
      · rename_i h4
        split at h
        · cases h
          refine ⟨rfl, rfl, fun f hf => ⟨by simpa [T.places] using hf, fun hb h16 => ?_⟩⟩
          simp only [beginsAtom, decide_eq_true_eq] at hb
          omega
        · cases h

theorem G.begins {l : List UInt8} {k : GK} {ws : List Tok} {t : T} (h : G l k ws t) : frK k ws t := by
  induction h with
  | lett => exact ⟨_, _, rfl, rfl⟩
  | fn => exact ⟨_, _, rfl, rfl⟩
  | cond => exact ⟨_, _, rfl, rfl⟩
  | ecmp _ ih => exact ih
  | cmp1 _ ih => exact ih
  | cmp2 _ _ _ ih _ => obtain ⟨tk, r, rfl, e⟩ := ih; exact ⟨tk, _, rfl, e⟩
  | sum _ _ ih ih2 => obtain ⟨tk, r, rfl, e⟩ := ih; exact ⟨tk, _, rfl, ih2.trans e⟩
  | term _ _ ih ih2 => obtain ⟨tk, r, rfl, e⟩ := ih; exact ⟨tk, _, rfl, ih2.trans e⟩
  | chN => rfl
  | chC _ _ _ _ ih2 => exact ih2
  | call _ _ ih ih2 => obtain ⟨tk, r, rfl, e⟩ := ih; exact ⟨tk, _, rfl, ih2.trans e⟩
  | caN => rfl
  | caC _ _ _ ih2 => exact ih2
  | leaf _ _ h => exact ⟨_, _, rfl, (leaf_fr h).1⟩
  | bracket => exact ⟨_, _, rfl, rfl⟩
  | pair => exact ⟨_, _, rfl, rfl⟩

def toK : GK → List Tok → T → Prop
  | .chF _ _ a, ws, t => (ws = [] ∧ t = a) ∨ ∃ q tz, ws = q ++ [tz] ∧ t.to = tz.to
  | .caF a, ws, t => (ws = [] ∧ t = a) ∨ ∃ q tz, ws = q ++ [tz] ∧ t.to = tz.to
  | _, ws, t => ∃ q tz, ws = q ++ [tz] ∧ t.to = tz.to

theorem to_app {w1 w2 : List Tok} {x t : T} (h1 : ∃ q tz, w1 = q ++ [tz] ∧ x.to = tz.to) (h2 : (w2 = [] ∧ t = x) ∨ ∃ q tz, w2 = q ++ [tz] ∧ t.to = tz.to) : ∃ q tz, w1 ++ w2 = q ++ [tz] ∧ t.to = tz.to := by
  rcases h2 with ⟨rfl, rfl⟩ | ⟨q, tz, rfl, e⟩
  · rw [List.append_nil]; exact h1
  · exact ⟨w1 ++ q, tz, by rw [List.append_assoc], e⟩

theorem to_app2 {w1 w2 : List Tok} {u y t : T} (hu : u.to = y.to) (h1 : ∃ q tz, w1 = q ++ [tz] ∧ y.to = tz.to) (h2 : (w2 = [] ∧ t = u) ∨ ∃ q tz, w2 = q ++ [tz] ∧ t.to = tz.to) : ∃ q tz, w1 ++ w2 = q ++ [tz] ∧ t.to = tz.to := by
  rcases h2 with ⟨rfl, rfl⟩ | ⟨q, tz, rfl, e⟩
  · obtain ⟨q, tz, rfl, e⟩ := h1
    exact ⟨q, tz, by rw [List.append_nil], hu.trans e⟩
  · exact ⟨w1 ++ q, tz, by rw [List.append_assoc], e⟩

theorem G.ends {l : List UInt8} {k : GK} {ws : List Tok} {t : T} (h : G l k ws t) : toK k ws t := by
  induction h with
  | @lett tl tn te ti rcs ds bs rc d b hl hrc hn he hi hp D B ihD ihB =>
    obtain ⟨q, tz, rfl, e⟩ := ihB
    exact ⟨tl :: (rcs ++ tn :: te :: (ds ++ ti :: q)), tz, by simp, e⟩
  | @fn tl tn ta bs b hl hn ha hp B ihB =>
    obtain ⟨q, tz, rfl, e⟩ := ihB
    exact ⟨tl :: tn :: ta :: q, tz, by simp, e⟩
  | @cond tl t1 t2 cs xs ys c x y hl h1 h2 C X Y ihC ihX ihY =>
    obtain ⟨q, tz, rfl, e⟩ := ihY
    exact ⟨tl :: (cs ++ t1 :: (xs ++ t2 :: q)), tz, by simp, e⟩
  | ecmp _ ih => exact ih
  | cmp1 _ ih => exact ih
  | @cmp2 w1 w2 sg x y X hs Y ihX ihY =>
    obtain ⟨q, tz, rfl, e⟩ := ihY
    exact ⟨w1 ++ sg :: q, tz, by simp, e⟩
  | sum _ _ ih ih2 => exact to_app ih ih2
  | term _ _ ih ih2 => exact to_app ih ih2
  | chN => exact .inl ⟨rfl, rfl⟩
  | @chC p g a sg w1 w2 y t hs Y C ihY ihC =>
    refine .inr ?_
    have h1 : ∃ q tz, w1 = q ++ [tz] ∧ y.to = tz.to := by cases p <;> exact ihY
    obtain ⟨q, tz, e1, e2⟩ := to_app2 (show (T.binary a.fr y.to sg.sort a y).to = y.to from rfl) h1 ihC
    exact ⟨sg :: q, tz, by rw [e1]; rfl, e2⟩
  | call _ _ ih ih2 => exact to_app ih ih2
  | caN => exact .inl ⟨rfl, rfl⟩
  | @caC a w1 w2 y t Y C ihY ihC => exact .inr (to_app2 (show (T.call a.fr y.to a y).to = y.to from rfl) ihY ihC)
  | leaf _ _ h => exact ⟨[], _, rfl, (leaf_fr h).2.1⟩
  | @bracket ta tc ws x => exact ⟨ta :: ws, tc, rfl, rfl⟩
  | @pair ta tm tc w1 w2 x y => exact ⟨ta :: (w1 ++ tm :: w2), tc, by simp, rfl⟩

def plK : GK → List Tok → T → Prop
  | .chF _ _ a, ws, t => ∀ f ∈ t.places, f ∈ a.places ∨ ∃ tk ∈ ws, tk.fr = f ∧ tk.sort = 1
  | .caF a, ws, t => ∀ f ∈ t.places, f ∈ a.places ∨ ∃ tk ∈ ws, tk.fr = f ∧ tk.sort = 1
  | _, ws, t => ∀ f ∈ t.places, ∃ tk ∈ ws, tk.fr = f ∧ tk.sort = 1

theorem pl_sub {w ws : List Tok} (hw : ∀ x ∈ w, x ∈ ws) {f : Nat} (h : ∃ tk ∈ w, tk.fr = f ∧ tk.sort = 1) : ∃ tk ∈ ws, tk.fr = f ∧ tk.sort = 1 := by
  obtain ⟨tk, h1, h2⟩ := h
  exact ⟨tk, hw _ h1, h2⟩

theorem G.places {l : List UInt8} {k : GK} {ws : List Tok} {t : T} (h : G l k ws t) : plK k ws t := by
  induction h with
  | @lett tl tn te ti rcs ds bs rc d b hl hrc hn he hi hp D B ihD ihB =>
    intro f hf
    simp only [T.places, List.mem_cons, List.mem_append] at hf
    rcases hf with rfl | hf | hf
    · exact ⟨tn, by simp, rfl, hn⟩
    · exact pl_sub (fun x hx => by simp [hx]) (ihD f hf)
    · exact pl_sub (fun x hx => by simp [hx]) (ihB f hf)
  | @fn tl tn ta bs b hl hn ha hp B ihB =>
    intro f hf
    simp only [T.places, List.mem_cons] at hf
    rcases hf with rfl | hf
    · exact ⟨tn, by simp, rfl, hn⟩
    · exact pl_sub (fun x hx => by simp [hx]) (ihB f hf)
  | @cond tl t1 t2 cs xs ys c x y hl h1 h2 C X Y ihC ihX ihY =>
    intro f hf
    simp only [T.places, List.mem_append] at hf
    rcases hf with hf | hf | hf
    · exact pl_sub (fun x hx => by simp [hx]) (ihC f hf)
    · exact pl_sub (fun x hx => by simp [hx]) (ihX f hf)
    · exact pl_sub (fun x hx => by simp [hx]) (ihY f hf)
  | ecmp _ ih => exact ih
  | cmp1 _ ih => exact ih
  | @cmp2 w1 w2 sg x y X hs Y ihX ihY =>
    intro f hf
    simp only [T.places, List.mem_append] at hf
    rcases hf with hf | hf
    · exact pl_sub (fun x hx => by simp [hx]) (ihX f hf)
    · exact pl_sub (fun x hx => by simp [hx]) (ihY f hf)
  | sum _ _ ih ih2 =>
    intro f hf
    rcases ih2 f hf with h | h
    · exact pl_sub (fun x hx => by simp [hx]) (ih f h)
    · exact pl_sub (fun x hx => by simp [hx]) h
  | term _ _ ih ih2 =>
    intro f hf
    rcases ih2 f hf with h | h
    · exact pl_sub (fun x hx => by simp [hx]) (ih f h)
    · exact pl_sub (fun x hx => by simp [hx]) h
  | chN => intro f hf; exact .inl hf
  | @chC p g a sg w1 w2 y t hs Y C ihY ihC =>
    intro f hf
    have h1 : ∀ f ∈ y.places, ∃ tk ∈ w1, tk.fr = f ∧ tk.sort = 1 := by cases p <;> exact ihY
    rcases ihC f hf with h | h
    · simp only [T.places, List.mem_append] at h
      rcases h with h | h
      · exact .inl h
      · exact .inr (pl_sub (fun x hx => by simp [hx]) (h1 f h))
    · exact .inr (pl_sub (fun x hx => by simp [hx]) h)
  | call _ _ ih ih2 =>
    intro f hf
    rcases ih2 f hf with h | h
    · exact pl_sub (fun x hx => by simp [hx]) (ih f h)
    · exact pl_sub (fun x hx => by simp [hx]) h
  | caN => intro f hf; exact .inl hf
  | @caC a w1 w2 y t Y C ihY ihC =>
    intro f hf
    rcases ihC f hf with h | h
    · simp only [T.places, List.mem_append] at h
      rcases h with h | h
      · exact .inl h
      · exact .inr (pl_sub (fun x hx => by simp [hx]) (ihY f h))
    · exact .inr (pl_sub (fun x hx => by simp [hx]) h)
  | @leaf tk x hb h16 h =>
    intro f hf
    obtain ⟨e, q⟩ := (leaf_fr h).2.2 f hf
    exact ⟨tk, by simp, e.symm, q hb h16⟩
  | @bracket ta tc ws x ha hc X ih =>
    intro f hf
    exact pl_sub (fun x hx => by simp [hx]) (ih f hf)
  | @pair ta tm tc w1 w2 x y ha hm hc X Y ihX ihY =>
    intro f hf
    simp only [T.places, List.mem_append] at hf
    rcases hf with hf | hf
    · exact pl_sub (fun x hx => by simp [hx]) (ihX f hf)
    · exact pl_sub (fun x hx => by simp [hx]) (ihY f hf)

end Inl
end Go.Proofs.YtckhafpejefbbaaGreatDoor.Tw

/- A definition in the places of its uses: the tree of the altered text (2). -/
namespace Go.Proofs.YtckhafpejefbbaaGreatDoor.Tw
namespace Inl
open Go

def needsB (l : List UInt8) (d : T) (f : Nat) : Bool :=
  match d with
  | .fn .. => true
  | .int .. => digitI (headI (l.drop (f - 1)))
  | _ => false

def inText (l : List UInt8) (d : T) (f : Nat) : List UInt8 := if needsB l d f then 40 :: (piece l d.fr d.to ++ [41]) else piece l d.fr d.to

end Inl
end Go.Proofs.YtckhafpejefbbaaGreatDoor.Tw

/- A definition in the places of its uses: what binds where. -/
namespace Go.Proofs.YtckhafpejefbbaaGreatDoor.Tw
namespace Inl
open Go

/-! ### Values -/

def isV (own : Nat → Bool) : T → Bool
  | .name f _ _ => !own f
  | .int .. => true
  | .truth .. => true
  | .side .. => true
  | .fn .. => true
  | .bracket _ _ i => isV own i
  | .pair _ _ a b => isV own a && isV own b
  | _ => false

/-! ### Names that would be captured -/

def freeIn (z : List UInt8) : T → List (List UInt8) → Prop
  | .name _ _ x, I => x = z ∧ z ∉ I
  | .int .., _ | .truth .., _ | .side .., _ => False
  | .bracket _ _ i, I => freeIn z i I
  | .pair _ _ a b, I => freeIn z a I ∨ freeIn z b I
  | .call _ _ a b, I => freeIn z a I ∨ freeIn z b I
  | .binary _ _ _ a b, I => freeIn z a I ∨ freeIn z b I
  | .cond _ _ a b c, I => freeIn z a I ∨ (freeIn z b I ∨ freeIn z c I)
  | .fn _ _ n _ a, I => freeIn z a (n :: I)
  | .lett _ _ r n _ a b, I => freeIn z a (if r then n :: I else I) ∨ freeIn z b (n :: I)

def captD (x : List UInt8) (d : T) : T → List (List UInt8) → Prop
  | .name _ _ z, I => z = x ∧ x ∉ I ∧ ∃ y, freeIn y d [] ∧ y ∈ I
  | .int .., _ | .truth .., _ | .side .., _ => False
  | .bracket _ _ i, I => captD x d i I
  | .pair _ _ a b, I => captD x d a I ∨ captD x d b I
  | .call _ _ a b, I => captD x d a I ∨ captD x d b I
  | .binary _ _ _ a b, I => captD x d a I ∨ captD x d b I
  | .cond _ _ a b c, I => captD x d a I ∨ (captD x d b I ∨ captD x d c I)
  | .fn _ _ n _ a, I => captD x d a (n :: I)
  | .lett _ _ r n _ a b, I => captD x d a (if r then n :: I else I) ∨ captD x d b (n :: I)

end Inl
end Go.Proofs.YtckhafpejefbbaaGreatDoor.Tw

/- A definition in the places of its uses: a text that is opened runs the same. -/
namespace Go.Proofs.YtckhafpejefbbaaGreatDoor.Tw
namespace Inl
open Go

theorem within {l : List UInt8} {ws : List Tok} {t : T} (h : G l .expr ws t) (hp : ws.Pairwise (fun a b => a.to ≤ b.fr)) (hlt : ∀ a ∈ ws, a.fr < a.to) : ∀ f ∈ t.places, t.fr ≤ f ∧ f < t.to := by
  intro f hf
  obtain ⟨tk, htk, rfl, _⟩ := G.places h f hf
  obtain ⟨ta, r, e1, e2⟩ := G.begins h
  obtain ⟨q, tz, e3, e4⟩ := G.ends h
  constructor
  · rw [e2]
    have hp1 := hp
    rw [e1] at hp1 htk
    rcases List.mem_cons.1 htk with rfl | hm
    · exact Nat.le_refl _
    · have := (List.pairwise_cons.1 hp1).1 tk hm
      have := hlt ta (by rw [e1]; simp)
      omega
  · rw [e4]
    have hl := hlt tk htk
    rw [e3] at hp htk
    rcases List.mem_append.1 htk with hm | hm
    · have := (List.pairwise_append.1 hp).2.2 tk hm tz (by simp)
      have := hlt tz (by rw [e3]; simp)
      omega
    · rw [List.mem_singleton] at hm
      rw [← hm]
      exact hl

def Df (N f0 : Nat) (d b : T) : Prop := (∀ f ∈ d.places, d.fr ≤ f ∧ f < d.to) ∧ d.fr < d.to ∧ d.to ≤ b.fr ∧ f0 < b.fr ∧ b.fr < N ∧ ∀ f ∈ b.places, b.fr ≤ f

def dfK (N : Nat) : GK → T → Prop
  | .chF _ _ a, t => ∀ m ∈ t.binds, ∀ f0 t0 r x k d b, m = .lett f0 t0 r x k d b → m ∈ a.binds ∨ Df N f0 d b
  | .caF a, t => ∀ m ∈ t.binds, ∀ f0 t0 r x k d b, m = .lett f0 t0 r x k d b → m ∈ a.binds ∨ Df N f0 d b
  | _, t => ∀ m ∈ t.binds, ∀ f0 t0 r x k d b, m = .lett f0 t0 r x k d b → Df N f0 d b

theorem defs_in {N : Nat} {l : List UInt8} {k : GK} {ws : List Tok} {t : T} (h : G l k ws t) : ws.Pairwise (fun a b => a.to ≤ b.fr) → (∀ a ∈ ws, a.fr < a.to ∧ a.to ≤ N) → dfK N k t := by
  induction h with
  | @lett tl tn te ti rcs ds bs rc d b hl hrc hn he hi hp D B ihD ihB =>
    intro hp hlt m hm f0 t0 r x k d' b' e
    have p1 := (List.pairwise_cons.1 hp).2
    have p2 := (List.pairwise_append.1 p1).2.1
    have p3 := (List.pairwise_cons.1 (List.pairwise_cons.1 p2).2).2
    have p4 := List.pairwise_append.1 p3
    have hds : ∀ a ∈ ds, a.fr < a.to ∧ a.to ≤ N := fun a ha => hlt a (by simp [ha])
    have hbs : ∀ a ∈ bs, a.fr < a.to ∧ a.to ≤ N := fun a ha => hlt a (by simp [ha])
    simp only [T.binds, List.mem_cons, List.mem_append] at hm
    rcases hm with rfl | hm | hm
    · cases e
      obtain ⟨td, rd, ed1, ed2⟩ := G.begins D
      obtain ⟨qd, zd, ed3, ed4⟩ := G.ends D
      obtain ⟨tb, rb, eb1, eb2⟩ := G.begins B
      have mtd : td ∈ ds := by rw [ed1]; simp
      have mzd : zd ∈ ds := by rw [ed3]; simp
      have mtb : tb ∈ bs := by rw [eb1]; simp
      have htl := hlt tl (by simp)
      have h1 := hds td mtd
      have h2 := hds zd mzd
      have h3 := hbs tb mtb
      have h4 := (List.pairwise_cons.1 hp).1 tb (by simp [mtb])
      have h5 := p4.2.2 zd mzd tb (by simp [mtb])
      have h6 : td.fr < zd.to := by
        have hpd := p4.1
        rw [ed1] at mzd hpd
        rcases List.mem_cons.1 mzd with rfl | hm
        · exact h2.1
        · have := (List.pairwise_cons.1 hpd).1 zd hm
          omega
      exact ⟨within D p4.1 (fun a ha => (hds a ha).1), by omega, by omega, by simp only [eb2]; omega, by omega, fun f hf => (within B (List.pairwise_cons.1 p4.2.1).2 (fun a ha => (hbs a ha).1) f hf).1⟩
    · exact ihD p4.1 hds m hm _ _ _ _ _ _ _ e
    · exact ihB (List.pairwise_cons.1 p4.2.1).2 (fun a ha => hlt a (by simp [ha])) m hm _ _ _ _ _ _ _ e
  | @fn tl tn ta bs b hl hn ha hp B ihB =>
    intro hp hlt m hm f0 t0 r x k d' b' e
    simp only [T.binds, List.mem_cons] at hm
    rcases hm with rfl | hm
    · cases e
    · exact ihB (List.pairwise_cons.1 (List.pairwise_cons.1 (List.pairwise_cons.1 hp).2).2).2 (fun a ha => hlt a (by simp [ha])) m hm _ _ _ _ _ _ _ e
  | @cond tl t1 t2 cs xs ys c x y hl h1 h2 C X Y ihC ihX ihY =>
    intro hp hlt m hm f0 t0 r x' k d' b' e
    have p1 := List.pairwise_append.1 (List.pairwise_cons.1 hp).2
    have p2 := List.pairwise_append.1 (List.pairwise_cons.1 p1.2.1).2
    simp only [T.binds, List.mem_append] at hm
    rcases hm with hm | hm | hm
    · exact ihC p1.1 (fun a ha => hlt a (by simp [ha])) m hm _ _ _ _ _ _ _ e
    · exact ihX p2.1 (fun a ha => hlt a (by simp [ha])) m hm _ _ _ _ _ _ _ e
    · exact ihY (List.pairwise_cons.1 p2.2.1).2 (fun a ha => hlt a (by simp [ha])) m hm _ _ _ _ _ _ _ e
  | ecmp _ ih => exact ih
  | cmp1 _ ih => exact ih
  | @cmp2 w1 w2 sg x y X hs Y ihX ihY =>
    intro hp hlt m hm f0 t0 r x' k d' b' e
    have p1 := List.pairwise_append.1 hp
    simp only [T.binds, List.mem_append] at hm
    rcases hm with hm | hm
    · exact ihX p1.1 (fun a ha => hlt a (by simp [ha])) m hm _ _ _ _ _ _ _ e
    · exact ihY (List.pairwise_cons.1 p1.2.1).2 (fun a ha => hlt a (by simp [ha])) m hm _ _ _ _ _ _ _ e
  | sum _ _ ih ih2 =>
    intro hp hlt m hm f0 t0 r x' k d' b' e
    have p1 := List.pairwise_append.1 hp
    rcases ih2 p1.2.1 (fun a ha => hlt a (by simp [ha])) m hm _ _ _ _ _ _ _ e with h | h
    · exact ih p1.1 (fun a ha => hlt a (by simp [ha])) m h _ _ _ _ _ _ _ e
    · exact h
  | term _ _ ih ih2 =>
    intro hp hlt m hm f0 t0 r x' k d' b' e
    have p1 := List.pairwise_append.1 hp
    rcases ih2 p1.2.1 (fun a ha => hlt a (by simp [ha])) m hm _ _ _ _ _ _ _ e with h | h
    · exact ih p1.1 (fun a ha => hlt a (by simp [ha])) m h _ _ _ _ _ _ _ e
    · exact h
  | chN => intro _ _ m hm _ _ _ _ _ _ _ _; exact .inl hm
  | @chC p g a sg w1 w2 y t hs Y C ihY ihC =>
    intro hp hlt m hm f0 t0 r x' k d' b' e
    have p1 := List.pairwise_append.1 (List.pairwise_cons.1 hp).2
    have hy : ∀ m ∈ y.binds, ∀ f0 t0 r x k d b, m = .lett f0 t0 r x k d b → Df N f0 d b := by
      have := ihY p1.1 (fun a ha => hlt a (by simp [ha]))
      cases p <;> exact this
    rcases ihC p1.2.1 (fun a ha => hlt a (by simp [ha])) m hm _ _ _ _ _ _ _ e with h | h
    · simp only [T.binds, List.mem_append] at h
      rcases h with h | h
      · exact .inl h
      · exact .inr (hy m h _ _ _ _ _ _ _ e)
    · exact .inr h
  | call _ _ ih ih2 =>
    intro hp hlt m hm f0 t0 r x' k d' b' e
    have p1 := List.pairwise_append.1 hp
    rcases ih2 p1.2.1 (fun a ha => hlt a (by simp [ha])) m hm _ _ _ _ _ _ _ e with h | h
    · exact ih p1.1 (fun a ha => hlt a (by simp [ha])) m h _ _ _ _ _ _ _ e
    · exact h
  | caN => intro _ _ m hm _ _ _ _ _ _ _ _; exact .inl hm
  | @caC a w1 w2 y t Y C ihY ihC =>
    intro hp hlt m hm f0 t0 r x' k d' b' e
    have p1 := List.pairwise_append.1 hp
    rcases ihC p1.2.1 (fun a ha => hlt a (by simp [ha])) m hm _ _ _ _ _ _ _ e with h | h
    · simp only [T.binds, List.mem_append] at h
      rcases h with h | h
      · exact .inl h
      · exact .inr (ihY p1.1 (fun a ha => hlt a (by simp [ha])) m h _ _ _ _ _ _ _ e)
    · exact .inr h
  | @leaf tk x hb h16 h =>
    intro _ _ m hm
    exfalso
    unfold leafS at h
    split at h
    · split at h
      · obtain ⟨v, _, h⟩ := Option.bind_eq_some_iff.1 h
        cases h; cases hm
      · cases h
    · split at h
      · cases h; cases hm
      · split at h
        · cases h; cases hm
        · split at h
          · cases h; cases hm
          · cases h
  | @bracket ta tc ws x ha hc X ih =>
    intro hp hlt
    exact ih (List.pairwise_append.1 (List.pairwise_cons.1 hp).2).1 (fun a ha => hlt a (by simp [ha]))
  | @pair ta tm tc w1 w2 x y ha hm' hc X Y ihX ihY =>
    intro hp hlt m hm f0 t0 r x' k d' b' e
    have p1 := List.pairwise_append.1 (List.pairwise_cons.1 hp).2
    have p2 := List.pairwise_append.1 (List.pairwise_cons.1 p1.2.1).2
    simp only [T.binds, List.mem_append] at hm
    rcases hm with hm | hm
    · exact ihX p1.1 (fun a ha => hlt a (by simp [ha])) m hm _ _ _ _ _ _ _ e
    · exact ihY p2.1 (fun a ha => hlt a (by simp [ha])) m hm _ _ _ _ _ _ _ e

def ownF (t : T) (f : Nat) : Bool := t.binds.any fun m => match m with
  | .lett a b true z k md mb => decide (md.fr ≤ f ∧ f < md.to) && decide (f ∈ (T.lett a b true z k md mb).useS)
  | _ => false

def inlText (l : List UInt8) (n : T) : List UInt8 :=
  match n with
  | .lett _ _ _ x _ d b => chgR 0 l ((n.fr, b.fr, []) :: chB x.length (inText l d) n.useS)
  | _ => l

theorem sorts_in {l : List UInt8} {k : GK} {ws : List Tok} {t : T} (h : G l k ws t) : okK k → ∀ u ∈ ws, u.sort ≠ 0 := by
  induction h with
  | @lett tl tn te ti rcs ds bs rc d b hl hrc hn he hi hp D B ihD ihB =>
    intro _ u hu
    simp only [List.mem_cons, List.mem_append] at hu
    rcases hu with rfl | hu | rfl | rfl | hu | rfl | hu
    · omega
    · rcases hrc with ⟨rfl, _⟩ | ⟨r, rfl, h4, _⟩
      · cases hu
      · rw [List.mem_singleton] at hu; subst hu; omega
    · omega
    · omega
    · exact ihD trivial u hu
    · omega
    · exact ihB trivial u hu
  | @fn tl tn ta bs b hl hn ha hp B ihB =>
    intro _ u hu
    simp only [List.mem_cons] at hu
    rcases hu with rfl | rfl | rfl | hu
    · omega
    · omega
    · omega
    · exact ihB trivial u hu
  | @cond tl t1 t2 cs xs ys c x y hl h1 h2 C X Y ihC ihX ihY =>
    intro _ u hu
    simp only [List.mem_cons, List.mem_append] at hu
    rcases hu with rfl | hu | rfl | hu | rfl | hu
    · omega
    · exact ihC trivial u hu
    · omega
    · exact ihX trivial u hu
    · omega
    · exact ihY trivial u hu
  | ecmp _ ih => intro _; exact ih trivial
  | cmp1 _ ih => intro _; exact ih trivial
  | @cmp2 w1 w2 sg x y X hs Y ihX ihY =>
    intro _ u hu
    simp only [List.mem_cons, List.mem_append] at hu
    rcases hu with hu | rfl | hu
    · exact ihX trivial u hu
    · omega
    · exact ihY trivial u hu
  | sum _ _ ih ih2 =>
    intro _ u hu
    rcases List.mem_append.1 hu with hu | hu
    · exact ih trivial u hu
    · exact ih2 g19 u hu
  | term _ _ ih ih2 =>
    intro _ u hu
    rcases List.mem_append.1 hu with hu | hu
    · exact ih trivial u hu
    · exact ih2 g21 u hu
  | chN => intro _ u hu; cases hu
  | @chC p g a sg w1 w2 y t hs Y C ihY ihC =>
    intro hok u hu
    simp only [List.mem_cons, List.mem_append] at hu
    rcases hu with rfl | hu | hu
    · exact (hok _ hs).1
    · exact ihY (by cases p <;> trivial) u hu
    · exact ihC hok u hu
  | call _ _ ih ih2 =>
    intro _ u hu
    rcases List.mem_append.1 hu with hu | hu
    · exact ih trivial u hu
    · exact ih2 trivial u hu
  | caN => intro _ u hu; cases hu
  | caC _ _ ih ih2 =>
    intro _ u hu
    rcases List.mem_append.1 hu with hu | hu
    · exact ih trivial u hu
    · exact ih2 trivial u hu
  | @leaf tk x hb h16 h =>
    intro _ u hu
    rw [List.mem_singleton] at hu
    subst hu
    simp only [beginsAtom, decide_eq_true_eq] at hb
    omega
  | @bracket ta tc ws x ha hc X ih =>
    intro _ u hu
    simp only [List.mem_cons, List.mem_append, List.not_mem_nil, or_false] at hu
    rcases hu with rfl | hu | rfl
    · omega
    · exact ih trivial u hu
    · omega
  | @pair ta tm tc w1 w2 x y ha hm hc X Y ihX ihY =>
    intro _ u hu
    simp only [List.mem_cons, List.mem_append, List.not_mem_nil, or_false] at hu
    rcases hu with rfl | hu | rfl | hu | rfl
    · omega
    · exact ihX trivial u hu
    · omega
    · exact ihY trivial u hu
    · omega

theorem gram_of {l : List UInt8} {body : List Tok} {fuel : Nat} {t : T} (hL : Lex 0 l body) (hp : parseS l (body ++ [⟨0, l.length, l.length⟩]) fuel = some (.ok t)) : G l .expr body t ∧ ∀ {t2 : T}, G l .expr body t2 → t = t2 := by
  have hb : ∀ u ∈ body, u.sort ≠ 0 := fun u hu => ((hL.toks).1 u hu).sort
  obtain ⟨s, h1, h2, h3⟩ := parse_fine hb hp
  have hst : (⟨0, 0, false, 0⟩ : PS).stuck = false := rfl
  obtain ⟨ws, ⟨g1, g2⟩, g⟩ := (gram_all l _ fuel).expr h1 h2
  simp only [List.drop_zero, Nat.zero_add] at g1 g2
  have hle : s.next ≤ body.length := by
    rcases Nat.lt_or_ge body.length s.next with h | h
    · exfalso
      -- the last token is no part of an expr
      have hw : ws.length = s.next := g2.symm
      have : (⟨0, l.length, l.length⟩ : Tok) ∈ ws := by
        have e : (body ++ [⟨0, l.length, l.length⟩])[body.length]? = some (⟨0, l.length, l.length⟩ : Tok) := by simp
        rw [g1, List.getElem?_append_left (by omega)] at e
        exact List.mem_of_getElem? e
      exact absurd rfl (sorts_in g trivial _ this)
    · exact h
  have hn := h3 hle
  have hw : ws = body := by
    have e := congrArg (List.take body.length) g1
    rw [List.take_append_of_le_length (Nat.le_refl _), List.take_length, List.take_append_of_le_length (by omega), List.take_of_length_le (by omega)] at e
    exact e.symm
  subst hw
  exact ⟨g, fun {t2} g' => (mk_all l _ g' (u := ⟨0, l.length, l.length⟩) (rest := []) trivial (show stopSort 0 = true by decide) (by simp) rfl h1 h2).1⟩

end Inl
end Go.Proofs.YtckhafpejefbbaaGreatDoor.Tw

/- Text.become, Text.Rename. -/
namespace Go.Proofs.YtckhafpejefbbaaGreatDoor
open Go.RowKit

theorem two_set {w : World} {b : Nat} {u v u' v' : Value} {t : TypeId} (hb : w.heap[b]? = some (.cells #[u, v] t (0, 0))) : ((w.setCell ⟨b, 0, none⟩ u').setCell ⟨b, 1, none⟩ v').heap[b]? = some (.cells #[u', v'] t (0, 0)) ∧ w.grownBy ((w.setCell ⟨b, 0, none⟩ u').setCell ⟨b, 1, none⟩ v') (some b) := by
  constructor
  · unfold World.setCell
    simp only
    rw [Array.getElem?_modify, if_pos rfl, Array.getElem?_modify, if_pos rfl, hb]
    rfl
  · refine ⟨rfl, rfl, rfl, by unfold World.setCell; simp, fun k _ hk => ?_⟩
    have hne : k ≠ b := fun e => hk (by rw [e])
    rw [Below.heap_setCell _ _ _ k hne, Below.heap_setCell _ _ _ k hne]

theorem kp_text {w w' : World} {b : Nat} {c : Array Value} (hb : w.heap[b]? = some (.cells c 72 (0, 0))) (hg : w.grownBy w' (some b)) : Kp w w' := by
  intro k c' t m hk ht
  refine (hg.block k (Array.getElem?_eq_some_iff.1 hk).1 ?_).trans hk
  intro e
  cases e
  rw [hb] at hk
  cases hk
  exact absurd ht (by decide)

theorem grown_row {w w1 w2 : World} {b : Nat} (h : w.grownBy w1 none) (k : w1.grownBy w2 (some b)) : w.grownBy w2 (some b) :=
  ⟨k.os.trans h.os, k.tape.trans h.tape, k.output.trans h.output, Nat.le_trans h.size k.size, fun i hi hn => (k.block i (Nat.lt_of_lt_of_le hi h.size) hn).trans (h.block i hi (by simp))⟩

set_option maxRecDepth 100000 in
set_option maxHeartbeats 2000000 in
theorem become_fine (hIB : Said.IndexByte) (hPI : Said.ParseInt) (hIt : Said.ItoaSmall) {w : World} {bt : Nat} {s s' : ByteArray} {t t' : Tw.T} {sh : List UInt8} {fo : Nat} (hT : TextAt w bt s t) (ho : Tw.openS 6100 fo s'.data.toList = some (.fine t' sh)) :
    Calls Tryz.prog 37 #[.pointer (some ⟨bt, 0, none⟩), .string s', .int .i64 0] w fun e w' => e = .returned (.int .i64 0) ∧ TextAt w' bt s' t' ∧ w.grownBy w' (some bt) := by
  obtain ⟨hi, tv, hb, _⟩ := hT
  have HB := hide hb
  clear hb
  go_enter Tryz.func37, Tryz.ntmps37
  go_wp2_with fail
  refine (Open_any hIB hPI hIt ho w).mono ?_
  rintro e1 w1 ⟨bn, rfl, ⟨hi', tv', hbn, hr'⟩, hk⟩
  have g1 := hk.grown
  have b1 := (g1.block _ (Array.getElem?_eq_some_iff.1 (unhide HB)).1 (by simp)).trans (unhide HB)
  have c0 : w1.cell? ⟨bn, 0, none⟩ = some (.string s') := by rw [cell_of_row _ _ _ _ _ _ hbn]; rfl
  have c1 : w1.cell? ⟨bn, 1, none⟩ = some tv' := by rw [cell_of_row _ _ _ _ _ _ hbn]; rfl
  obtain ⟨PT, nt, rfl⟩ := hr'.iface
  have HR := hide hr'
  have G1 := hide g1
  have B1 := hide b1
  have d0 : w1.cell? ⟨bt, 0, none⟩ = some (.string s) := by rw [cell_of_row _ _ _ _ _ _ b1]; rfl
  have d1 : w1.cell? ⟨bt, 1, none⟩ = some tv := by rw [cell_of_row _ _ _ _ _ _ b1]; rfl
  have f0 : w1.frozen? ⟨bt, 0, none⟩ = false := frozen_of_row _ _ _ _ _ b1
  have f1 : w1.frozen? ⟨bt, 1, none⟩ = false := frozen_of_row _ _ _ _ _ b1
  clear hk g1 b1 hr' hbn
  go_wp2_with fail
  go_ret
  go_light
  obtain ⟨q1, q2⟩ := two_set (u' := .string s') (v' := .iface PT (.pointer (some ⟨nt, 0, none⟩))) (unhide B1)
  exact ⟨rfl, ⟨hi', _, q1, (unhide HR).kp (kp_text (unhide B1) q2)⟩, grown_row (unhide G1) q2⟩

end Go.Proofs.YtckhafpejefbbaaGreatDoor

/- A region whose order is drawn, in a round: by the laws of a plain one. -/
namespace Go.Proofs.YtckhafpejefbbaaGreatDoor
open Go Go.RowKit

variable {P : Program} {n : Nat}

theorem uponIn_plain (lr : Nat) {o : Oper} {a : Act} {K : Act → World → Prop} {Q : Exit → Act → World → Prop} {r : Result Next} (h : o.upon P a K Q r) : o.uponIn (Fence.wide.inRound lr) n P a K Q r := by
  cases r with
  | ok x w =>
    cases x with
    | value v => exact h
    | skip => exact h
    | defer d => exact h
    | enter f args => exact ⟨fun h => (by cases h), CallsIn.inRound lr (callsIn_wide.2 h)⟩
    | row row args => exact ⟨fun h => (by cases h), fun c cs _ => by obtain ⟨v, w', r, s⟩ := h c cs; exact ⟨v, w', r, stepsIn_wide.2 s⟩⟩
    | _ => exact h.elim
  | halt e w =>
    cases e with
    | panic v => exact h
    | _ => exact h.elim

theorem wpAnyIn_plain (lr : Nat) {md : Region.Mode} {ops : Array Oper} {Q : Exit → Act → World → Prop} (hlo : ¬ LetsOut Q) (hd : ∀ (i : Nat) (o : Oper), ops[i]? = some o → ∀ c, o.op ≠ .defer c) :
    ∀ (fuel : Nat) (listed : Array Bool) (a : Act) (w : World), wpAny P md ops Q fuel listed a w → wpAnyIn (Fence.wide.inRound lr) n P md ops Q fuel listed a w
  | 0, _, _, _, h => h
  | fuel + 1, listed, a, w, h => by
    refine ⟨h.1, fun i hi => ?_⟩
    have h2 := wpOp_mono (K' := wpAnyIn (Fence.wide.inRound lr) n P md ops Q fuel (listed.setIfInBounds i true)) (fun a w => wpAnyIn_plain lr hlo hd fuel _ a w) (h.2 i hi)
    unfold wpOp at h2
    unfold wpOpIn
    split
    · rename_i ho
      simp only [ho] at h2
      exact h2
    · rename_i o ho
      simp only [ho] at h2
      split
      · rename_i hw
        simp only [hw, if_true] at h2
        rcases h2 with h2 | h2
        · refine ⟨fun _ _ => trivial, ?_⟩
          rw [show (Fence.wide.inRound lr).round = some lr from rfl, Oper.semAt_some lr a.eval o (hd i o ho)]
          exact uponIn_plain lr h2
        · exact absurd h2.2 hlo
      · rename_i hw
        simp only [hw] at h2
        exact ⟨fun _ _ => trivial, h2⟩

def OnlyN (Q : Exit → Act → World → Prop) (e : Exit) (a : Act) (w : World) : Prop := e = .normal ∧ Q .normal a w

theorem region_round (lr : Nat) {id : Nat} {Q : Exit → Act → World → Prop} {a : Act} {w : World} {l : List Oper} (S : World → Prop) (hm : P.follows .mixedOrders = true) (hd : noDefer l = true) (hS : S w.drew)
    (h : S w.drew → wpAnyH P .any l.toArray (OnlyN Q) S l.toArray.size (Array.replicate l.toArray.size false) a w.drew) : (Code.region id l.toArray true).wpIn (Fence.wide.inRound lr) n P Q a w := by
  refine wpIn_mono (Q := OnlyN Q) (wpIn_region_any hm (wpAnyIn_plain lr ?_ (noDefer_spec hd) _ _ _ _ (wpAny_of_held (S := S) _ _ _ _ (h hS)))) ?_
  · rintro ⟨a, w, h, _⟩
    cases h
  · rintro e a w ⟨rfl, h⟩
    exact h

theorem noPanic {Q : Exit → Act → World → Prop} {d : Option Tmp} {v : Value} : ∀ c a w, OnlyN Q (.panic c) (Act.put a d v) w → OnlyN Q (.panic c) a w := fun _ _ _ h => by cases h.1

end Go.Proofs.YtckhafpejefbbaaGreatDoor

/- A region whose order is drawn, in a function that ranges: by the laws of a plain one. -/
namespace Go.Proofs.YtckhafpejefbbaaGreatDoor
open Go Go.RowKit

variable {P : Program} {n : Nat}

theorem uponIn_plainW {o : Oper} {a : Act} {K : Act → World → Prop} {Q : Exit → Act → World → Prop} {r : Result Next} (h : o.upon P a K Q r) : o.uponIn (Fence.wide) n P a K Q r := by
  cases r with
  | ok x w =>
    cases x with
    | value v => exact h
    | skip => exact h
    | defer d => exact h
    | enter f args => exact ⟨fun h => (by cases h), callsIn_wide.2 h⟩
    | row row args => exact ⟨fun h => (by cases h), fun c cs _ => by obtain ⟨v, w', r, s⟩ := h c cs; exact ⟨v, w', r, stepsIn_wide.2 s⟩⟩
    | _ => exact h.elim
  | halt e w =>
    cases e with
    | panic v => exact h
    | _ => exact h.elim

theorem wpAnyIn_plainW {md : Region.Mode} {ops : Array Oper} {Q : Exit → Act → World → Prop} (hlo : ¬ LetsOut Q) :
    ∀ (fuel : Nat) (listed : Array Bool) (a : Act) (w : World), wpAny P md ops Q fuel listed a w → wpAnyIn (Fence.wide) n P md ops Q fuel listed a w
  | 0, _, _, _, h => h
  | fuel + 1, listed, a, w, h => by
    refine ⟨h.1, fun i hi => ?_⟩
    have h2 := wpOp_mono (K' := wpAnyIn (Fence.wide) n P md ops Q fuel (listed.setIfInBounds i true)) (fun a w => wpAnyIn_plainW hlo fuel _ a w) (h.2 i hi)
    unfold wpOp at h2
    unfold wpOpIn
    split
    · rename_i ho
      simp only [ho] at h2
      exact h2
    · rename_i o ho
      simp only [ho] at h2
      split
      · rename_i hw
        simp only [hw, if_true] at h2
        rcases h2 with h2 | h2
        · refine ⟨fun _ _ => trivial, ?_⟩
          exact uponIn_plainW h2
        · exact absurd h2.2 hlo
      · rename_i hw
        simp only [hw] at h2
        exact ⟨fun _ _ => trivial, h2⟩

theorem region_wide {id : Nat} {Q : Exit → Act → World → Prop} {a : Act} {w : World} {l : List Oper} (S : World → Prop) (hm : P.follows .mixedOrders = true) (hS : S w.drew)
    (h : S w.drew → wpAnyH P .any l.toArray (OnlyN Q) S l.toArray.size (Array.replicate l.toArray.size false) a w.drew) : (Code.region id l.toArray true).wpIn (Fence.wide) n P Q a w := by
  refine wpIn_mono (Q := OnlyN Q) (wpIn_region_any hm (wpAnyIn_plainW ?_ _ _ _ _ (wpAny_of_held (S := S) _ _ _ _ (h hS)))) ?_
  · rintro ⟨a, w, h, _⟩
    cases h
  · rintro e a w ⟨rfl, h⟩
    exact h

end Go.Proofs.YtckhafpejefbbaaGreatDoor

/- alter.bindsFreeOf. -/
namespace Go.Proofs.YtckhafpejefbbaaGreatDoor
open Go.RowKit Go.Shelf

attribute [local go_sem] Oper.semAt_some

section
variable {P : Program} {α : Type} {n : Nat} {g : Operand} {ps : Array Tmp} {assign body : Code} {Q : Exit → Act → World → Prop} {a : Act} {w : World}
theorem range_ok21 {p q d1 : Tmp} {gf : Nat} {lb : Array Value} (hg : a.eval g = .func (.func gf) #[] lb) (eg : ∀ args w, (callFunc gf args).run P w = .ok (.enter gf args) w)
    {e1 e2 : α → Value} {Ok : α → World → Prop} {Kp : World → World → Prop} {S Sp : List α → Prop} {N : Nat} {w0 : World} (hseq : SeqOk P gf lb (fun x => #[e1 x, e2 x]) Ok Kp S Sp N w0) (hOk : ∀ x, OwnFrom w.heap.size (fun (_ : Unit) W => Ok x W))
    (hKt : ∀ {A B C : World}, Kp A B → Kp B C → Kp A C) (hKb : ∀ (W : World) (l : Nat) (o o' : Obj), w.heap.size ≤ l → W.heap[l]? = some o → o.isCells = false → o.isWalk = false → Kp W (W.putObj l o')) (hb0 : Below w0.heap.size w0 w)
    (I : List α → World → Prop) (Ix : Code → List α → World → Prop) (hI : OwnFrom w.heap.size I) (hIx : ∀ c, OwnFrom w.heap.size (Ix c)) (h0 : I [] w)
    (hassign : ∀ (l : Nat) (x : α) (W : World) (K : Act → World → Prop), K { tmps := ((a.tmps.setIfInBounds p (e1 x)).setIfInBounds q (e2 x)).setIfInBounds d1 (e1 x), defers := [] } W →
      assign.wpIn (Fence.wide.inRound l) 0 P (Exit.then K (fun _ _ _ => False)) { tmps := (a.tmps.setIfInBounds p (e1 x)).setIfInBounds q (e2 x), defers := [] } W)
    (hbody : ∀ (l : Nat) (pre : List α) (x : α) (W : World), w.heap.size ≤ l → (∃ r, W.heap[l]? = some (.loop r)) → I pre W → pre.length < N → Ok x W → body.wpIn (Fence.wide.inRound l) 0 P (ownPostG w.heap.size Kp I Ix (pre ++ [x]) W) { tmps := ((a.tmps.setIfInBounds p (e1 x)).setIfInBounds q (e2 x)).setIfInBounds d1 (e1 x), defers := [] } W)
    (hdone : ∀ (D : Nat) (xs : List α) (W : World), w.heap.size ≤ D → S xs → I xs W → W.heap[D]? = some (.deferred (some [])) → Q .normal { a with defers := { target := .collected D, args := #[] } :: a.defers } W)
    (hstop : ∀ (D : Nat) (c : Code) (pre : List α) (W : World), w.heap.size ≤ D → Sp pre → Ix c pre W → W.heap[D]? = some (.deferred (some [])) → c.wpIn Fence.wide n P Q { a with defers := { target := .collected D, args := #[] } :: a.defers } W) :
    (Code.rangeFunc g #[p, q] assign body).wpIn Fence.wide n P Q a w :=
  range_o hg eg hseq hOk (fun h k => hKt h k) hKb hb0 (fun _ => rfl) I Ix hI hIx h0 (fun x => { tmps := ((a.tmps.setIfInBounds p (e1 x)).setIfInBounds q (e2 x)).setIfInBounds d1 (e1 x), defers := [] })
    (fun l x W K hK => by simpa using hassign l x W K hK) hbody hdone hstop
end

set_option maxRecDepth 100000 in
set_option maxHeartbeats 4000000 in
theorem bindsFreeOf_any {w : World} {hi : Nat} {d : Tw.T} {dv bv : Value} {LD : List NB} {e : Tw.BEn} (hn : NL w hi d dv .nil LD) (hb : BAt w e bv) :
    Calls Tryz.prog 113 #[dv, bv] w fun r w' => r = .returned (.bool ((freeL LD).any fun y => (e.look y.tx).isSome)) ∧ w.grownBy w' none := by
  obtain ⟨T1, m1, rfl⟩ := hn.iface
  obtain ⟨pb, rfl⟩ := hb.ptr
  refine (callsIn_wide (n := 3)).1 ?_
  refine callsIn_of_wp_marks Tryz.func113 rfl trivial ?_
  simp only [Tryz.ntmps113, List.size_toArray, List.length_cons, List.length_nil, Nat.reduceAdd, Nat.reduceSub, Array.replicate_succ, Array.replicate_zero, List.push_toArray, List.append_toArray, List.nil_append, List.cons_append]
  obtain ⟨W0, hW0⟩ : ∃ W0, (w.alloc (.cells #[.pointer pb] 184)).alloc (.cells #[.bool false] 4) = W0 := ⟨_, rfl⟩
  have G0 : w.grownBy W0 none := by rw [← hW0]; exact grown_alloc (grown_alloc (grown_refl _) _) _
  have z0 : W0.heap.size = w.heap.size + 2 := by rw [← hW0]; simp
  have b0 : W0.heap[w.heap.size]? = some (.cells #[.pointer pb] 184 (0, 0)) := by rw [← hW0]; exact (two_a w _ _).2
  have r0 : W0.heap[w.heap.size + 1]? = some (.cells #[.bool false] 4 (0, 0)) := by rw [← hW0]; exact (two_a w _ _).1
  gi_wp2_with fail
  refine ⟨trivial, ?_⟩
  refine (callsIn_wide.2 (Free_any W0 ⟨T1, m1, rfl⟩)).mono ?_
  rintro e1 w3 ⟨rfl, rfl⟩
  gi_wp2_with fail
  obtain ⟨W1, hW1⟩ : ∃ W1, W0.alloc (.cells #[.iface T1 (.pointer (some ⟨m1, 0, none⟩))] 68) = W1 := ⟨_, rfl⟩
  have G1 : W0.grownBy W1 none := by rw [← hW1]; exact World.grownBy_alloc _ _ none
  have z1 : W1.heap.size = w.heap.size + 3 := by rw [← hW1]; simp; omega
  have hne : W1.heap[W0.heap.size]? = some (.cells #[.iface T1 (.pointer (some ⟨m1, 0, none⟩))] 68 (0, 0)) := by rw [← hW1]; exact new_block W0 _
  have b1 := (G1.block _ (Array.getElem?_eq_some_iff.1 b0).1 (by simp)).trans b0
  have r1 := (G1.block _ (Array.getElem?_eq_some_iff.1 r0).1 (by simp)).trans r0
  have g1 := grown_trans G0 G1
  have hn1 := hn.kp (Kp.of_grown g1)
  have hb1 := hb.grown g1
  rw [z0] at hne
  rw [hW1]
  clear hW0 hW1 G0 G1 b0 r0 hn hb
  refine range_ok21 (p := 8) (q := 9) (d1 := 5) rfl (enters_of Tryz.func185 (by kernel_rfl) rfl) (free_ok hne hn1) (fun x => FOk.own x _) (fun h k => h.trans k) kp_b (Below.refl _ _)
    (fun pre X => (∀ z ∈ pre, (e.look z.1.1.tx).isSome = false) ∧ W1.grownBy X none)
    (fun c pre X => c = .ret ∧ ∃ init x, pre = init ++ [x] ∧ (∀ z ∈ init, (e.look z.1.1.tx).isSome = false) ∧ (e.look x.1.1.tx).isSome = true ∧ Set1 W1 (w.heap.size + 1) (.bool true) 4 X) ?own ?ownx ⟨by simp, grown_refl _⟩ ?assign ?body ?done ?stop
  case own =>
    rintro s X Y row ⟨h1, h2⟩ hg hr
    exact ⟨h1, ownFrom_grown (β := Unit) W1 (Nat.le_refl _) () X Y row h2 hg hr⟩
  case ownx =>
    rintro c s X Y row ⟨h0, init, x, h1, h2, h3, h4⟩ hg hr
    exact ⟨h0, init, x, h1, h2, h3, Set1.own (β := Unit) (Nat.le_refl _) (by omega) () X Y row h4 hg hr⟩
  case assign =>
    intro l x X K hK
    simp only [List.setIfInBounds_toArray, List.set_cons_zero, List.set_cons_succ] at hK ⊢
    gi_wp2
    exact hK
  case body =>
    rintro lr pre ⟨⟨x, ev⟩, hxf, hev⟩ X hlr hrec ⟨hpre, hgX⟩ hlt hok
    obtain ⟨a, ha⟩ := id hev
    obtain rfl : ev = .pointer a := ha
    obtain ⟨_, hnb⟩ := hok
    dsimp only at hnb
    obtain ⟨_, _, cx, _, _, _⟩ := three_cells hnb
    have HP := hide hpre
    have HG := hide hgX
    have bX := (hgX.block _ (Array.getElem?_eq_some_iff.1 b1).1 (by simp)).trans b1
    have rX := (hgX.block _ (Array.getElem?_eq_some_iff.1 r1).1 (by simp)).trans r1
    have cb := (one_cell bX).1
    have HR := hide rX
    have HS := hide (fun k => binds_any (w := X.drewN k) (hb1.grown (grown_trans hgX (grown_drewN X k))) x.tx)
    obtain ⟨bl, hbl⟩ : ∃ bl, (e.look x.tx).isSome = bl := ⟨_, rfl⟩
    rw [hbl] at HS
    have HBL := hide hbl
    obtain ⟨cr, fr⟩ := one_cell rX
    simp only [List.setIfInBounds_toArray, List.set_cons_zero, List.set_cons_succ]
    have hfn : Fence.wide.fn 118 := trivial
    clear hgX hpre bX rX hnb hbl
    gi_wp2_with fail
    refine region_quiet lr (by kernel_rfl) (by kernel_rfl) (by kernel_rfl) ?_
    repeat (gi_big_quiet_step (exact ⟨rfl, callsIn_wide.2 ((unhide HS _).mono (by rintro e w' ⟨rfl, rfl⟩; exact ⟨rfl, _, rfl⟩))⟩))
    refine wpQuietIn_nil ?_
    intro _ hw'
    obtain ⟨nq, hw''⟩ := hw'
    subst hw''
    cases bl with
    | true =>
      gi_wp2_with fail
      exact ⟨keepsFrom_trans (keepsFrom_grown (grown_drewN X nq)) (keepsFrom_cell _ _ _), rfl, pre, _, rfl, unhide HP, unhide HBL, Set1.of_set (grown_trans (unhide HG) (grown_drewN X nq)) (unhide HR) _⟩
    | false =>
      gi_wp2_with fail
      exact ⟨keepsFrom_grown (grown_drewN X nq), Kp.of_grown (grown_drewN X nq), fun z hz => (by
        rcases List.mem_append.1 hz with hz | hz
        · exact unhide HP z hz
        · simp only [List.mem_singleton] at hz
          subst hz
          exact unhide HBL), grown_trans (unhide HG) (grown_drewN X nq)⟩
  case done =>
    rintro D xs X hD hxs ⟨hpre, hg⟩ hK
    have rX := (hg.block _ (Array.getElem?_eq_some_iff.1 r1).1 (by simp)).trans r1
    obtain ⟨cr, fr⟩ := one_cell rX
    gi_wp2_with fail
    have st := Set1.of_set hg rX (.bool false)
    have hK2 : (X.setCell ⟨w.heap.size + 1, 0, none⟩ (.bool false)).heap[D]? = some (.deferred (some [])) := (keepsFrom_cell (B := 0) X _ _).same D _ (Nat.zero_le _) hK rfl
    refine ⟨by simp, .inl ⟨_, _, rfl, run_takeDeferred hK2, ?_⟩⟩
    have st' := Set1.own (β := Unit) (Nat.le_refl _) (by omega) () _ _ (some D) st (grownBy_putObj' _ D (.deferred none)) (fun r e => by cases e; exact ⟨by omega, _, hK2, rfl⟩)
    obtain ⟨e0, _⟩ := one_cell st'.res
    refine ⟨.bool false, by simp [results, Tryz.results113, go_sem, e0], ?_, ?_⟩
    · have : ((freeL LD).any fun y => (e.look y.tx).isSome) = false := by
        rw [List.any_eq_false]
        intro z hz
        rw [← hxs] at hz
        obtain ⟨y, hy, rfl⟩ := List.mem_map.1 hz
        rw [hpre y hy]
        simp
      rw [this]
    · refine ⟨st'.os.trans g1.os, st'.tape.trans g1.tape, st'.output.trans g1.output, by have := st'.size; omega, fun k hk _ => (st'.old k (by omega) (by omega)).trans (g1.block k hk (by simp))⟩
  case stop =>
    rintro D c pre X hD hpre ⟨rfl, init, x, h1, h2, h3, h4⟩ hK
    gi_wp2_with fail
    refine ⟨by simp, .inl ⟨_, _, rfl, run_takeDeferred hK, ?_⟩⟩
    have st' := Set1.own (β := Unit) (Nat.le_refl _) (by omega) () _ _ (some D) h4 (grownBy_putObj' _ D (.deferred none)) (fun r e => by cases e; exact ⟨by omega, _, hK, rfl⟩)
    obtain ⟨e0, _⟩ := one_cell st'.res
    refine ⟨.bool true, by simp [results, Tryz.results113, go_sem, e0], ?_, ?_⟩
    · have : ((freeL LD).any fun y => (e.look y.tx).isSome) = true := by
        rw [List.any_eq_true]
        exact ⟨x.1.1, hpre.subset (by rw [h1]; simp), h3⟩
      rw [this]
    · refine ⟨st'.os.trans g1.os, st'.tape.trans g1.tape, st'.output.trans g1.output, by have := st'.size; omega, fun k hk _ => (st'.old k (by omega) (by omega)).trans (g1.block k hk (by simp))⟩

end Go.Proofs.YtckhafpejefbbaaGreatDoor
