/- Texts of the proof, put together: Gram9, PText, SolveTw, Solve, Solve2, Solve3, Env, Find, TypeAs, Infer, Infer2, Infer3. -/
import Derived.Test.YtckhafpejefbbaaGreatDoorB08
import Derived.Deep.RegionHeld3
import Derived.Test.YtckhafpejefbbaaGreatDoorB04

/- The grammar's functions: atom at an INT; atom whole. -/
namespace Go.Proofs.YtckhafpejefbbaaGreatDoor
open Go.RowKit

set_option maxRecDepth 100000 in
set_option maxHeartbeats 2000000 in
theorem atom_int (hPI : Said.ParseInt) {w : World} {bp gt cap : Nat} {cur : Array Value} {s : ByteArray} {ts : List Tw.Tok} {st st' : Tw.PS} {tk : Tw.Tok}
    (h : PCtx w bp gt cap cur s ts st) (ht : Tw.tokS ts st = some tk) {r : Tw.Tok} (b16 : (tk.sort == 16) = false) (hb : Tw.beginsAtom tk.sort = true) (hf : Tw.takeS ts tk.sort st = some (r, st')) (b2 : (tk.sort == 2) = true) (hp1 : tk.fr ≤ tk.to) (hp2 : tk.to ≤ s.size) {v : Int} (hv : Lib.parseIntB 64 (Tw.piece s.data.toList tk.fr tk.to) = .ok v) :
    Calls Tryz.prog 233 #[.pointer (some ⟨bp, 0, none⟩)] w (PPost w bp gt cap cur s ts (.int tk.fr tk.to v) st') := by
  have HH : Hid (PCtx w bp gt cap cur s ts st) := h
  have HT : Hid (Tw.tokS ts st = some tk) := ht
  have hbp := h.bp_lt
  have hgt := h.gt_lt
  have hsz := h.size
  have H2 : Hid (Tw.takeS ts tk.sort st = some (r, st')) := hf
  have HB : Hid (Tw.beginsAtom tk.sort = true) := hb
  clear h ht hf hb
  go_enter Tryz.func233, Tryz.ntmps233
  go_wp2_with fail
  refine (token_any HH.out HT.out).mono ?_
  rintro e w1 ⟨rfl, hg⟩
  have P1 : Hid (PCtx w1 bp gt cap cur s ts st) := HH.out.kept hg
  have K1 : Hid (Keep bp w w1) := Keep.of_none hg
  have z1 : w.heap.size ≤ w1.heap.size := hg.size
  clear hg
  go_wp2_with fail
  refine (beginsAtom_any _ _).mono ?_
  rintro e w2 ⟨rfl, rfl⟩
  rw [HB.out]
  go_wp2_with fail
  refine (take_any (P1.out.alloc _) _ H2.out).mono ?_
  rintro e w3 ⟨rfl, hk, h⟩
  have P3 : Hid (PCtx w3 bp gt cap cur s ts st') := h
  have K3 : Hid (Keep bp w w3) := (K1.out.alloc _).trans hk
  have z3 : w1.heap.size < w3.heap.size := by have := hk.size; simp at this; omega
  have L3 := three_cells (hk.at (new_block w1 _) (by omega))
  obtain ⟨a0, a1, a2, f0, f1, f2⟩ := L3
  obtain ⟨p0, p1, p2, p3, p4, p5⟩ := P3.out.p
  have hbp3 : bp < w3.heap.size := by omega
  clear hk h p1 p2 p3 p4 p5
  have hq1 : (tk.fr : Int) ≤ (tk.to : Int) := by omega
  have hq2 : (tk.to : Int) ≤ (s.size : Int) := by omega
  have hvs : (s.extract tk.fr tk.to).size ≤ 300 := by simp [ByteArray.size_extract]; omega
  have HV : Hid (Lib.parseIntB 64 (s.extract tk.fr tk.to).data.toList = .ok v) := by show _ = _; rw [piece_extract]; exact hv
  clear hv
  go_wp2_with fail
  clear a0 f0 f1 f2
  go_region_held3 (fun W => W.cell? ⟨w3.heap.size, 0, none⟩ = some (.int .i64 tk.fr) ∧ W.cell? ⟨w3.heap.size, 1, none⟩ = some (.int .i64 tk.to) ∧ W.cell? ⟨bp, 0, none⟩ = some (.string s) ∧ W.cell? ⟨w1.heap.size, 1, none⟩ = some (.int .i64 tk.fr) ∧ W.cell? ⟨w1.heap.size, 2, none⟩ = some (.int .i64 tk.to)) (go_keep)
    ((go_at_call 238; refine (value_any hPI _ hvs _ HV.out _).mono ?_; rintro e w4 ⟨rfl, hg⟩
      have hg4 : Hid (((w3.alloc (.cells #[.int .i64 tk.fr, .int .i64 tk.to] 85)).drew).grownBy w4 none) := hg
      have q4 := two_cells ((hg.block _ (by simp) (by simp)).trans (new_block w3 (.cells #[.int .i64 tk.fr, .int .i64 tk.to] 85)))
      obtain ⟨q0, q1, _, _⟩ := q4
      have r0 : w4.cell? ⟨bp, 0, none⟩ = some (.string s) := by
        rw [World.cell?_of_block (w := (w3.alloc (.cells #[.int .i64 tk.fr, .int .i64 tk.to] 85)).drew) (hg.block bp (by simp; omega) (by simp))]
        go_simp
      have r1 : w4.cell? ⟨w1.heap.size, 1, none⟩ = some (.int .i64 tk.fr) := by
        rw [World.cell?_of_block (w := (w3.alloc (.cells #[.int .i64 tk.fr, .int .i64 tk.to] 85)).drew) (hg.block w1.heap.size (by simp; omega) (by simp))]
        go_simp
      have r2 : w4.cell? ⟨w1.heap.size, 2, none⟩ = some (.int .i64 tk.to) := by
        rw [World.cell?_of_block (w := (w3.alloc (.cells #[.int .i64 tk.fr, .int .i64 tk.to] 85)).drew) (hg.block w1.heap.size (by simp; omega) (by simp))]
        go_simp
      clear hg))
  go_wp2_with fail
  go_ret
  go_light
  have z4 := hg4.out.size
  simp at z4
  have G4 : w3.grownBy w4 none := grown_trans (grown_drew (World.grownBy_alloc w3 _ none)) hg4.out
  exact ⟨_, rfl, (K3.out.trans (Keep.of_none G4)).alloc _, (P3.out.kept G4).alloc _, ⟨w4.heap.size, by omega, by simp, rfl, new_block w4 _⟩⟩

theorem atom_step {n : Nat} (hPI : Said.ParseInt) (hB : PSaid 237 Tw.bracketS n) : PSaid 233 Tw.atomS (n + 1) := by
  intro w bp gt cap cur s ts st t st' h hf0
  rw [Tw.atomS] at hf0
  obtain ⟨tk, ht, hf1⟩ := Option.bind_eq_some_iff.1 hf0
  by_cases h16 : tk.sort = 16
  · rw [if_pos h16] at hf1
    exact atom_bracket hB h ht (by simp [h16]) hf1
  rw [if_neg h16] at hf1
  have b16 : (tk.sort == 16) = false := by simp [h16]
  cases hba : Tw.beginsAtom tk.sort
  · rw [hba] at hf1
    simp only [Bool.false_eq_true, if_false] at hf1
    obtain ⟨st1, hst, hf2⟩ := Option.bind_eq_some_iff.1 hf1
    simp only [Option.some.injEq, Prod.mk.injEq] at hf2
    obtain ⟨rfl, rfl⟩ := hf2
    exact atom_fail h ht b16 hba hst
  rw [hba] at hf1
  simp only [if_true] at hf1
  obtain ⟨⟨r, st1⟩, hr, hf2⟩ := Option.bind_eq_some_iff.1 hf1
  obtain ⟨x, hx, hf3⟩ := Option.bind_eq_some_iff.1 hf2
  simp only [Option.some.injEq, Prod.mk.injEq] at hf3
  obtain ⟨rfl, rfl⟩ := hf3
  have hl : s.data.toList.length = s.size := rfl
  unfold Tw.leafS at hx
  by_cases h2 : tk.sort = 2
  · rw [if_pos h2] at hx
    split at hx
    rotate_left
    · cases hx
    rename_i hpc
    obtain ⟨v, hv, hx2⟩ := Option.bind_eq_some_iff.1 hx
    simp only [Option.some.injEq] at hx2
    subst hx2
    unfold Tw.valueS at hv
    split at hv
    rotate_left
    · cases hv
    rename_i v' hv'
    simp only [Option.some.injEq] at hv
    subst hv
    exact atom_int hPI h ht b16 hba hr (by simp [h2]) hpc.1 (by rw [← hl]; exact hpc.2) hv'
  rw [if_neg h2] at hx
  have b2 : (tk.sort == 2) = false := by simp [h2]
  by_cases h10 : tk.sort = 10 ∨ tk.sort = 11
  · rw [if_pos h10] at hx
    simp only [Option.some.injEq] at hx
    subst hx
    rcases h10 with h10 | h10
    · have b10 : (tk.sort == 10) = true := by simp [h10]
      rw [b10]
      exact atom_true h ht b16 hba hr b2 b10
    · have b10 : (tk.sort == 10) = false := by simp [h10]
      rw [b10]
      exact atom_false h ht b16 hba hr b2 b10 (by simp [h10])
  rw [if_neg h10] at hx
  have b10 : (tk.sort == 10) = false := by simp; exact fun e => h10 (.inl e)
  have b11 : (tk.sort == 11) = false := by simp; exact fun e => h10 (.inr e)
  by_cases h12 : tk.sort = 12 ∨ tk.sort = 13
  · rw [if_pos h12] at hx
    simp only [Option.some.injEq] at hx
    subst hx
    rcases h12 with h12 | h12
    · have b13 : (tk.sort == 13) = false := by simp [h12]
      rw [b13]
      exact atom_fst h ht b16 hba hr b2 b10 b11 (by simp [h12]) b13
    · have b13 : (tk.sort == 13) = true := by simp [h12]
      rw [b13]
      exact atom_snd h ht b16 hba hr b2 b10 b11 (by simp [h12]) b13
  rw [if_neg h12] at hx
  split at hx
  rotate_left
  · cases hx
  rename_i hpc
  simp only [Option.some.injEq] at hx
  subst hx
  exact atom_name h ht b16 hba hr b2 b10 b11 (by simp; exact fun e => h12 (.inl e)) (by simp; exact fun e => h12 (.inr e)) hpc.1 (by rw [← hl]; exact hpc.2)

structure PAll (n : Nat) : Prop where
  expr : PSaid 81 Tw.exprS n
  lett : PSaid 156 Tw.letS n
  fn : PSaid 157 Tw.funS n
  cond : PSaid 158 Tw.condS n
  cmp : PSaid 159 Tw.cmpS n
  sum : PSaid 206 Tw.sumS n
  term : PSaid 218 Tw.termS n
  call : PSaid 225 Tw.callS n
  atom : PSaid 233 Tw.atomS n
  bracket : PSaid 237 Tw.bracketS n

theorem parse_all (hPI : Said.ParseInt) : ∀ n, PAll n := by
  intro n
  induction n using Nat.strongRecOn with
  | _ n ih =>
    cases n with
    | zero =>
      constructor
      all_goals
        intro w bp gt cap cur s ts st t st' h hf
        first
          | (simp [Tw.exprS] at hf; done) | (simp [Tw.letS] at hf; done) | (simp [Tw.funS] at hf; done) | (simp [Tw.condS] at hf; done) | (simp [Tw.cmpS] at hf; done)
          | (simp [Tw.sumS] at hf; done) | (simp [Tw.termS] at hf; done) | (simp [Tw.callS] at hf; done) | (simp [Tw.atomS] at hf; done) | (simp [Tw.bracketS] at hf; done)
    | succ n =>
      have hn := ih n (by omega)
      exact
        { expr := expr_step hn.lett hn.fn hn.cond hn.cmp
          lett := let_step hn.expr
          fn := fun_step hn.expr
          cond := cond_step hn.expr
          cmp := cmp_step hn.sum
          sum := sum_step fun m hm => (ih m (by omega)).term
          term := term_step fun m hm => (ih m (by omega)).call
          call := call_step fun m hm => (ih m (by omega)).atom
          atom := atom_step hPI hn.bracket
          bracket := bracket_step hn.expr }

end Go.Proofs.YtckhafpejefbbaaGreatDoor

/- parse.Text. -/
namespace Go.Proofs.YtckhafpejefbbaaGreatDoor
open Go.RowKit

structure TokRow (w : World) (gt cap : Nat) (cur : Array Value) (ts : List Tw.Tok) : Prop where
  row : w.heap[gt]? = some (.cells cur 176 (0, 0))
  cells : cur.toList.take (ts.length * 3) = toksCells ts
  len : ts.length ≤ cap
  capm : cap ≤ maxLen
  many : ts.length ≤ 301

theorem TokRow.of_owns {w : World} {base : Nat} {v : Value} {ts : List Tw.Tok} (h : w.ownsRow base 176 3 v ts.length (toksCells ts)) (h0 : 0 < ts.length) (h1 : ts.length ≤ 301) :
    ∃ gt cap cur, v = .slice (some ⟨gt, 0, none⟩) ts.length cap ∧ base ≤ gt ∧ TokRow w gt cap cur ts := by
  rcases h.2 with ⟨_, hn⟩ | ⟨g, cap, cur, hv, hb, hh, hn, hc, _, ht⟩
  · omega
  · exact ⟨g, cap, cur, hv, hb, ⟨hh, ht, hn, hc, h1⟩⟩

def textPost (w : World) (r : Except Nat Tw.T) (e : Ending) (w' : World) : Prop := w.grownBy w' none ∧
  match r with
  | .ok t => ∃ v, e = .returned (.tuple #[v, .int .i64 0, .bool true]) ∧ Rep w' w.heap.size w'.heap.size t v
  | .error k => e = .returned (.tuple #[.nilIface, .int .i64 k, .bool false])

theorem grown_of_keep {w w' : World} {o : Obj} (h : Keep w.heap.size (w.alloc o) w') : w.grownBy w' none :=
  ⟨h.os, h.tape, h.output, by have := h.size; simp at this; omega, fun k hk _ => by rw [h.block k (by simp; omega) (by simp; omega)]; exact Below.heap_alloc w o k hk⟩

set_option maxRecDepth 100000 in
set_option maxHeartbeats 2000000 in
theorem Text_any (hPI : Said.ParseInt) {w : World} {gt cap : Nat} {cur : Array Value} {ts : List Tw.Tok} (h : TokRow w gt cap cur ts) (s : ByteArray) (hs : s.size ≤ 300) {fuel : Nat} {r : Except Nat Tw.T} (hf : Tw.parseS s.data.toList ts fuel = some r) :
    Calls Tryz.prog 47 #[.string s, .slice (some ⟨gt, 0, none⟩) ts.length cap] w (textPost w r) := by
  unfold Tw.parseS at hf
  obtain ⟨⟨t, st1⟩, ht, hf1⟩ := Option.bind_eq_some_iff.1 hf
  obtain ⟨⟨tk, st2⟩, htk, hf2⟩ := Option.bind_eq_some_iff.1 hf1
  simp only [Option.some.injEq] at hf2
  clear hf hf1
  simp only at htk
  have hgt : gt < w.heap.size := (Array.getElem?_eq_some_iff.1 h.row).1
  have PH : Hid (PCtx (w.alloc (.cells #[.string s, .slice (some ⟨gt, 0, none⟩) ts.length cap, .int .i64 0, .int .i64 0, .bool false, .int .i64 0] 179)) w.heap.size gt cap cur s ts ⟨0, 0, false, 0⟩) :=
    { parser := new_block w _, row := alloc_at h.row _, ne := by omega, cells := h.cells, len := h.len, capm := h.capm, size := hs, many := h.many, nxt := by simp, dep := by simp }
  have H1 : Hid (Tw.exprS s.data.toList ts fuel ⟨0, 0, false, 0⟩ = some (t, st1)) := ht
  have H2 : Hid (Tw.takeS ts 0 st1 = some (tk, st2)) := htk
  have PA : PAll fuel := parse_all hPI fuel
  clear ht htk h
  cases hst : st2.stuck
  · rw [hst] at hf2
    simp only [Bool.false_eq_true, if_false] at hf2
    subst hf2
    have HS : Hid (st2.stuck = false) := hst
    clear hst
    go_enter Tryz.func47, Tryz.ntmps47
    go_wp2_with fail
    refine (PA.expr PH.out H1.out).mono ?_
    rintro e w1 ⟨v, rfl, hk, h, r⟩
    have P1 : Hid (PCtx w1 w.heap.size gt cap cur s ts st1) := h
    have K1 : Hid (Keep w.heap.size (w.alloc (.cells #[.string s, .slice (some ⟨gt, 0, none⟩) ts.length cap, .int .i64 0, .int .i64 0, .bool false, .int .i64 0] 179)) w1) := hk
    have R1 : Hid (Rep w1 (w.heap.size + 1) w1.heap.size t v) := by show Rep _ _ _ _ _; simpa using r
    clear hk h r
    go_wp2_with fail
    refine (take_any P1.out _ H2.out).mono ?_
    rintro e w2 ⟨rfl, hk, h⟩
    have X : Hid (w.grownBy w2 none ∧ Rep w2 w.heap.size w2.heap.size t v) := ⟨grown_of_keep (K1.out.trans hk), R1.out.keep hk (by omega) (by omega) hk.size⟩
    have p4 := h.p.2.2.2.2.1
    rw [HS.out] at p4
    clear hk h
    go_wp2_with fail
    go_ret3
    exact ⟨X.out.1, _, rfl, X.out.2⟩
  · rw [hst] at hf2
    simp only [if_true] at hf2
    subst hf2
    have HS : Hid (st2.stuck = true) := hst
    clear hst
    go_enter Tryz.func47, Tryz.ntmps47
    go_wp2_with fail
    refine (PA.expr PH.out H1.out).mono ?_
    rintro e w1 ⟨v, rfl, hk, h, r⟩
    have P1 : Hid (PCtx w1 w.heap.size gt cap cur s ts st1) := h
    have K1 : Hid (Keep w.heap.size (w.alloc (.cells #[.string s, .slice (some ⟨gt, 0, none⟩) ts.length cap, .int .i64 0, .int .i64 0, .bool false, .int .i64 0] 179)) w1) := hk
    clear hk h r
    go_wp2_with fail
    refine (take_any P1.out _ H2.out).mono ?_
    rintro e w2 ⟨rfl, hk, h⟩
    have X : Hid (w.grownBy w2 none) := grown_of_keep (K1.out.trans hk)
    obtain ⟨_, _, _, _, p4, p5⟩ := h.p
    rw [HS.out] at p4
    clear hk h
    go_wp2_with fail
    go_region
    go_wp2_with fail
    go_ret3
    exact ⟨grown_drew X.out, rfl⟩

theorem Rep.iface {w : World} {lo hi : Nat} {t : Tw.T} {v : Value} (h : Rep w lo hi t v) : ∃ T b, v = .iface T (.pointer (some ⟨b, 0, none⟩)) := by
  obtain ⟨b, _, _, hv, _⟩ := h.node
  exact ⟨_, b, hv⟩

theorem five_cells {w : World} {b : Nat} {x y z u q : Value} {t : TypeId} (h : w.heap[b]? = some (.cells #[x, y, z, u, q] t (0, 0))) :
    w.cell? ⟨b, 0, none⟩ = some x ∧ w.cell? ⟨b, 1, none⟩ = some y ∧ w.cell? ⟨b, 2, none⟩ = some z ∧ w.cell? ⟨b, 3, none⟩ = some u ∧ w.cell? ⟨b, 4, none⟩ = some q := by
  refine ⟨?_, ?_, ?_, ?_, ?_⟩ <;> (rw [cell_of_row w b _ _ _ _ h]; rfl)

theorem seven_cells {w : World} {b : Nat} {x y z u q r s : Value} {t : TypeId} (h : w.heap[b]? = some (.cells #[x, y, z, u, q, r, s] t (0, 0))) :
    w.cell? ⟨b, 2, none⟩ = some z ∧ w.cell? ⟨b, 3, none⟩ = some u ∧ w.cell? ⟨b, 5, none⟩ = some r ∧ w.cell? ⟨b, 6, none⟩ = some s := by
  refine ⟨?_, ?_, ?_, ?_⟩ <;> (rw [cell_of_row w b _ _ _ _ h]; rfl)

end Go.Proofs.YtckhafpejefbbaaGreatDoor

/- Package types' solver as plain functions. -/
namespace Go.Proofs.YtckhafpejefbbaaGreatDoor.Tw
open Go

structure Sh where
  sort : Int
  left : Nat
  right : Nat
  same : Nat
  deriving DecidableEq

structure SS where
  shs : List Sh
  clash : Bool
  deriving DecidableEq

def addS (of : Int) (l r : Nat) (st : SS) : Option (Nat × SS) :=
  if st.shs.length ≤ 10000000 then some (st.shs.length, { st with shs := st.shs ++ [⟨of, l, r, st.shs.length⟩] }) else none

def setSame (st : SS) (r : Nat) (x : Sh) (n : Nat) : SS := { st with shs := st.shs.set r { x with same := n } }

def findS : Nat → SS → Nat → Option (Nat × SS)
  | 0, _, _ => none
  | n + 1, st, r => match st.shs[r]? with
    | none => none
    | some x => if x.same = r then some (r, st) else match st.shs[x.same]? with
      | none => none
      | some y => findS n (setSame st r x y.same) x.same

def unifyS : Nat → SS → Nat → Nat → Option SS
  | 0, _, _, _ => none
  | n + 1, st, a, b => (findS n st a).bind fun p => (findS n p.2 b).bind fun q =>
    match q.2.shs[p.1]?, q.2.shs[q.1]? with
    | some x, some y =>
      if p.1 = q.1 then some q.2
      else if x.sort = 0 then some (setSame q.2 p.1 x q.1)
      else if y.sort = 0 then some (setSame q.2 q.1 y p.1)
      else if x.sort = y.sort then (unifyS n (setSame q.2 p.1 x q.1) x.left y.left).bind fun st' => unifyS n st' x.right y.right
      else some { q.2 with clash := true }
    | _, _ => none

inductive En where
  | nil
  | fix (name : List UInt8) (r : Nat) (o : En)
  | dfn (name : List UInt8) (t : T) (o : En)

def En.look : En → List UInt8 → Option (Nat ⊕ (T × En))
  | .nil, _ => none
  | .fix n r o, x => if n = x then some (.inl r) else o.look x
  | .dfn n t o, x => if n = x then some (.inr (t, o)) else o.look x

mutual
def inferS : Nat → T → En → SS → Option (Nat × SS)
  | 0, _, _, _ => none
  | n + 1, .name _ _ x, e, st => match e.look x with
    | none => none
    | some (.inl r) => some (r, st)
    | some (.inr (t, o)) => defS n t o st
  | _ + 1, .int _ _ _, _, st => some (0, st)
  | _ + 1, .truth _ _ _, _, st => some (1, st)
  | _ + 1, .side _ _ sec, _, st => (addS 0 0 0 st).bind fun a => (addS 0 0 0 a.2).bind fun b => (addS 4 a.1 b.1 b.2).bind fun p => addS 3 p.1 (if sec then b.1 else a.1) p.2
  | n + 1, .bracket _ _ i, e, st => inferS n i e st
  | n + 1, .pair _ _ l r, e, st => (inferS n l e st).bind fun a => (inferS n r e a.2).bind fun b => addS 4 a.1 b.1 b.2
  | n + 1, .call _ _ f a, e, st => (inferS n f e st).bind fun x => (inferS n a e x.2).bind fun y => (addS 0 0 0 y.2).bind fun to =>
    (addS 3 y.1 to.1 to.2).bind fun fa => (unifyS n fa.2 x.1 fa.1).bind fun st' => some (to.1, st')
  | n + 1, .binary _ _ sg l r, e, st => (inferS n l e st).bind fun x => (unifyS n x.2 x.1 0).bind fun st1 => (inferS n r e st1).bind fun y => (unifyS n y.2 y.1 0).bind fun st2 =>
    some (if sg = 23 ∨ sg = 15 then 1 else 0, st2)
  | n + 1, .cond _ _ c t f, e, st => (inferS n c e st).bind fun x => (unifyS n x.2 x.1 1).bind fun st1 => (inferS n t e st1).bind fun y => (inferS n f e y.2).bind fun z =>
    (unifyS n z.2 y.1 z.1).bind fun st2 => some (y.1, st2)
  | n + 1, .fn _ _ bn _ b, e, st => (addS 0 0 0 st).bind fun from_ => (inferS n b (.fix bn from_.1 e) from_.2).bind fun to => addS 3 from_.1 to.1 to.2
  | n + 1, .lett fr to rc bn bat d b, e, st => (defS n (.lett fr to rc bn bat d b) e st).bind fun x => inferS n b (.dfn bn (.lett fr to rc bn bat d b) e) x.2
def defS : Nat → T → En → SS → Option (Nat × SS)
  | 0, _, _, _ => none
  | n + 1, .lett _ _ false _ _ d _, e, st => inferS n d e st
  | n + 1, .lett _ _ true bn _ d _, e, st => (addS 0 0 0 st).bind fun own => (inferS n d (.fix bn own.1 e) own.2).bind fun x => (unifyS n x.2 own.1 x.1).bind fun st' => some (own.1, st')
  | _ + 1, _, _, _ => none
end

end Go.Proofs.YtckhafpejefbbaaGreatDoor.Tw

/- Package types: the solver in memory; add, fresh, find. -/
namespace Go.Proofs.YtckhafpejefbbaaGreatDoor
open Go.RowKit

def shCell (x : Tw.Sh) : List Value := [.int .i64 x.sort, .int .i64 x.left, .int .i64 x.right, .int .i64 x.same]
def shCells : List Tw.Sh → List Value
  | [] => []
  | x :: l => shCell x ++ shCells l

theorem shCells_append (a b : List Tw.Sh) : shCells (a ++ b) = shCells a ++ shCells b := by
  induction a with
  | nil => rfl
  | cons t a ih => simp [shCells, ih]

theorem shCells_length (a : List Tw.Sh) : (shCells a).length = a.length * 4 := by
  induction a with
  | nil => rfl
  | cons t a ih => simp [shCells, shCell, ih]; omega

theorem shCells_get (l : List Tw.Sh) (j : Nat) (x : Tw.Sh) (h : l[j]? = some x) :
    (shCells l)[j * 4]? = some (.int .i64 x.sort) ∧ (shCells l)[j * 4 + 1]? = some (.int .i64 x.left) ∧ (shCells l)[j * 4 + 2]? = some (.int .i64 x.right) ∧ (shCells l)[j * 4 + 3]? = some (.int .i64 x.same) := by
  induction l generalizing j with
  | nil => simp at h
  | cons a l ih =>
    cases j with
    | zero => simp at h; subst h; simp [shCells, shCell]
    | succ j =>
      have := ih j (by simpa using h)
      simp only [shCells, shCell]
      rw [show (j + 1) * 4 = j * 4 + 1 + 1 + 1 + 1 from by omega]
      simpa using this

def notRow (o : Option Obj) : Prop := ∀ cur m, o ≠ some (.cells cur 334 m)

structure SK (bs : Nat) (w w' : World) : Prop where
  os : w'.os = w.os
  tape : w'.tape = w.tape
  output : w'.output = w.output
  size : w.heap.size ≤ w'.heap.size
  block : ∀ k, k < w.heap.size → k ≠ bs → (k < bs ∨ notRow w.heap[k]?) → w'.heap[k]? = w.heap[k]?

theorem SK.refl (bs : Nat) (w : World) : SK bs w w := ⟨rfl, rfl, rfl, Nat.le_refl _, fun _ _ _ _ => rfl⟩
theorem SK.trans {bs : Nat} {a b c : World} (h : SK bs a b) (k : SK bs b c) : SK bs a c :=
  ⟨k.os.trans h.os, k.tape.trans h.tape, k.output.trans h.output, Nat.le_trans h.size k.size, fun i hi hb hn => by
    have e := h.block i hi hb hn
    rw [k.block i (Nat.lt_of_lt_of_le hi h.size) hb (hn.imp id fun q => by rw [e]; exact q), e]⟩
theorem SK.of_none {bs : Nat} {w w' : World} (h : w.grownBy w' none) : SK bs w w' := ⟨h.os, h.tape, h.output, h.size, fun i hi _ _ => h.block i hi (by simp)⟩
theorem SK.set {bs : Nat} {a w : World} (h : SK bs a w) (j : Nat) (v : Value) : SK bs a (w.setCell ⟨bs, j, none⟩ v) :=
  h.trans ⟨rfl, rfl, rfl, by simp, fun k _ hb _ => heap_setCell_other w ⟨bs, j, none⟩ k v (by simpa using hb)⟩
theorem SK.at {bs : Nat} {w w' : World} (h : SK bs w w') {b : Nat} {o : Obj} (hb : w.heap[b]? = some o) (h1 : b ≠ bs) (h2 : notRow (some o)) : w'.heap[b]? = some o := by
  rw [h.block b (Array.getElem?_eq_some_iff.1 hb).1 h1 (.inr (by rw [hb]; exact h2))]; exact hb

structure UK (bs g : Nat) (w w' : World) : Prop where
  os : w'.os = w.os
  tape : w'.tape = w.tape
  output : w'.output = w.output
  size : w.heap.size ≤ w'.heap.size
  block : ∀ k, k < w.heap.size → k ≠ bs → k ≠ g → w'.heap[k]? = w.heap[k]?

theorem UK.refl (bs g : Nat) (w : World) : UK bs g w w := ⟨rfl, rfl, rfl, Nat.le_refl _, fun _ _ _ _ => rfl⟩
theorem UK.trans {bs g : Nat} {a b c : World} (h : UK bs g a b) (k : UK bs g b c) : UK bs g a c :=
  ⟨k.os.trans h.os, k.tape.trans h.tape, k.output.trans h.output, Nat.le_trans h.size k.size, fun i hi hb hn => (k.block i (Nat.lt_of_lt_of_le hi h.size) hb hn).trans (h.block i hi hb hn)⟩
theorem UK.of_none {bs g : Nat} {w w' : World} (h : w.grownBy w' none) : UK bs g w w' := ⟨h.os, h.tape, h.output, h.size, fun i hi _ _ => h.block i hi (by simp)⟩
theorem UK.drew {bs g : Nat} {a w : World} (h : UK bs g a w) : UK bs g a w.drew := ⟨h.os, h.tape, h.output, h.size, h.block⟩
theorem UK.alloc {bs g : Nat} {a w : World} (h : UK bs g a w) (o : Obj) : UK bs g a (w.alloc o) := h.trans (UK.of_none (World.grownBy_alloc w o none))
theorem UK.set {bs g : Nat} {a w : World} (h : UK bs g a w) (j : Nat) (v : Value) : UK bs g a (w.setCell ⟨bs, j, none⟩ v) :=
  h.trans ⟨rfl, rfl, rfl, by simp, fun k _ hb _ => heap_setCell_other w ⟨bs, j, none⟩ k v (by simpa using hb)⟩
theorem UK.setRow {bs g : Nat} {a w : World} (h : UK bs g a w) (j : Nat) (v : Value) : UK bs g a (w.setCell ⟨g, j, none⟩ v) :=
  h.trans ⟨rfl, rfl, rfl, by simp, fun k _ _ hb => heap_setCell_other w ⟨g, j, none⟩ k v (by simpa using hb)⟩
theorem UK.at {bs g : Nat} {w w' : World} (h : UK bs g w w') {b : Nat} {o : Obj} (hb : w.heap[b]? = some o) (h1 : b ≠ bs) (h2 : b ≠ g) : w'.heap[b]? = some o := by
  rw [h.block b (Array.getElem?_eq_some_iff.1 hb).1 h1 h2]; exact hb
theorem UK.sk {bs g : Nat} {w w' : World} (h : UK bs g w w') {cur : Array Value} {m : Nat × Nat} (hg : w.heap[g]? = some (.cells cur 334 m)) (hl : bs ≤ g) : SK bs w w' :=
  ⟨h.os, h.tape, h.output, h.size, fun k hk hb hn => h.block k hk hb (fun e => by subst e; exact hn.elim (fun q => by omega) (fun q => q _ _ hg))⟩

structure SolAt (w : World) (bs : Nat) (v : Value) (st : Tw.SS) : Prop where
  solver : w.heap[bs]? = some (.cells #[v, .bool st.clash] 128 (0, 0))
  owns : w.ownsRow bs 334 4 v st.shs.length (shCells st.shs)
  ne : v.ownBlock ≠ some bs
  many : st.shs.length ≤ 10000001

theorem Tryz.info334 : (Tryz.prog.info? 334).map (fun i => (i.zero, i.size, i.bytes)) = some (some (.agg #[.int .i64 0, .int .i64 0, .int .i64 0, .int .i64 0]), 4, 32) := by kernel_rfl

theorem cell_four_new (w : World) (a b c d : Value) (t : TypeId) : ∀ j u, [a, b, c, d][j]? = some u → (w.alloc (.cells #[a, b, c, d] t)).cell? ((⟨w.heap.size, 0, none⟩ : Addr).add j) = some u := by
  intro j u hj
  match j, hj with
  | 0, hj => simp at hj; subst hj; simp [Addr.add]
  | 1, hj => simp at hj; subst hj; simp [Addr.add]
  | 2, hj => simp at hj; subst hj; simp [Addr.add]
  | 3, hj => simp at hj; subst hj; simp [Addr.add]
  | j + 4, hj => simp at hj

theorem grown_SK {bs : Nat} {w w' : World} {v : Value} {n : Nat} {xs : List Value} (ho : w.ownsRow bs 334 4 v n xs) (hg : w.grownBy w' v.ownBlock) : SK bs w w' :=
  ⟨hg.os, hg.tape, hg.output, hg.size, fun k hk _ hn => hg.block k hk (fun e => by
    rcases ho.2 with ⟨rfl, _⟩ | ⟨g, cap, cur, rfl, hl, hh, _⟩
    · simp [Value.ownBlock] at e
    · simp [Value.ownBlock] at e; subst e; exact hn.elim (fun q => by omega) (fun q => q _ _ hh))⟩

set_option maxRecDepth 100000 in
set_option maxHeartbeats 1000000 in
theorem add_any {w : World} {bs : Nat} {v : Value} {st st' : Tw.SS} (h : SolAt w bs v st) (of : Int) (l r : Nat) {n : Nat} (hf : Tw.addS of l r st = some (n, st')) :
    Calls Tryz.prog 97 #[.pointer (some ⟨bs, 0, none⟩), .int .i64 of, .int .i64 l, .int .i64 r] w fun e w' => e = .returned (.int .i64 n) ∧ SK bs w w' ∧ ∃ v', SolAt w' bs v' st' := by
  unfold Tw.addS at hf
  split at hf
  rotate_left
  · cases hf
  rename_i hlen
  simp only [Option.some.injEq, Prod.mk.injEq] at hf
  obtain ⟨rfl, rfl⟩ := hf
  obtain ⟨i0, hi, hz0, hz1, hz2⟩ := info_parts Tryz.info334
  obtain ⟨c0, c1, f0, f1⟩ := two_cells h.solver
  have hbs : bs < w.heap.size := (Array.getElem?_eq_some_iff.1 h.solver).1
  have HH : Hid (SolAt w bs v st) := h
  have ho := h.owns
  obtain ⟨⟨a, cap, hv⟩, hlenv⟩ : (∃ a cap, v = .slice a st.shs.length cap) ∧ True := by
    refine ⟨?_, trivial⟩
    rcases ho.2 with ⟨hv, hn⟩ | ⟨g, cap, cur, hv, _⟩
    · exact ⟨none, 0, by rw [hv, hn]⟩
    · exact ⟨_, _, hv⟩
  subst hv
  clear h hlenv
  generalize hN : st.shs.length = N at *
  have HN : Hid (st.shs.length = N) := hN
  clear hN
  go_enter Tryz.func97, Tryz.ntmps97
  go_wp2_with (first
    | (at_builtin; refine wpList_append_own _ rfl _ _ 126 rfl bs 334 i0 (.agg #[.int .i64 0, .int .i64 0, .int .i64 0, .int .i64 0]) 4 32 Tryz.underlying126 hi hz0 hz1 hz2 rfl (by decide) (.slice a N cap) N (shCells st.shs) rfl (ho.alloc _) ⟨w.heap.size, 0, none⟩ 1 1 [.int .i64 of, .int .i64 l, .int .i64 r, .int .i64 N] rfl rfl (cell_four_new _ _ _ _ _ _) (by intro u hu; simp at hu; rcases hu with rfl | rfl | rfl | rfl <;> rfl) (by unfold maxLen; omega) (by omega) (by simp; omega) ?_; intro v3 w3 hown3 hgrow3 hnil3
       obtain ⟨g, cap3, rfl⟩ : ∃ g cap3, v3 = .slice (some ⟨g, 0, none⟩) (N + 1) cap3 := by
         rcases hown3.2 with ⟨_, hn⟩ | ⟨g, cap3, _, hv, _⟩
         · omega
         · exact ⟨g, cap3, hv⟩
       have hne : (Value.slice a N cap).ownBlock ≠ some bs := HH.out.ne
       have S3 : Hid (w3.heap[bs]? = some (.cells #[.slice a N cap, .bool st.clash] 128 (0, 0))) := (hgrow3.block bs (by simp; omega) (fun e => hne e.symm)).trans (alloc_at HH.out.solver _)
       have K3 : Hid (SK bs w w3) := (SK.of_none (World.grownBy_alloc w _ none)).trans (grown_SK (ho.alloc _) hgrow3)
       have gne : g ≠ bs := by
         rcases hown3.2 with ⟨hv, _⟩ | ⟨g', cap', cur', hv, _, hh, _⟩
         · cases hv
         · cases hv
           intro e
           subst e
           rw [S3.out] at hh
           simp at hh
       have O3 : Hid (w3.ownsRow bs 334 4 (.slice (some ⟨g, 0, none⟩) (N + 1) cap3) (N + 1) (shCells st.shs ++ [.int .i64 of, .int .i64 l, .int .i64 r, .int .i64 N])) := hown3
       obtain ⟨k0, k1, e0, e1⟩ := two_cells S3.out
       clear hgrow3 hown3 hnil3))
  go_ret
  go_light
  refine ⟨rfl, K3.out.set 0 _, .slice (some ⟨g, 0, none⟩) (N + 1) cap3, ?_⟩
  have hl : (st.shs ++ [(⟨of, l, r, N⟩ : Tw.Sh)]).length = N + 1 := by simp [HN.out]
  refine ⟨by rw [heap_setCell_same _ _ _ _ _ _ S3.out]; rfl, ?_, by simpa [Value.ownBlock] using gne, by show List.length _ ≤ _; rw [hl]; omega⟩
  show World.ownsRow _ _ _ _ _ (List.length _) (shCells _)
  rw [hl, shCells_append]
  have := O3.out
  refine ⟨this.1, ?_⟩
  rcases this.2 with ⟨hv, _⟩ | ⟨g', cap', cur', hv, hb, hh, rest⟩
  · cases hv
  · cases hv
    exact .inr ⟨g, cap3, cur', rfl, hb, by rw [heap_setCell_other _ _ _ _ (by simpa using gne)]; exact hh, rest⟩

end Go.Proofs.YtckhafpejefbbaaGreatDoor

/- Package types: find, unify. -/
namespace Go.Proofs.YtckhafpejefbbaaGreatDoor
open Go.RowKit

structure RowAt (w : World) (bs g cap : Nat) (cur : Array Value) (st : Tw.SS) : Prop where
  solver : w.heap[bs]? = some (.cells #[.slice (some ⟨g, 0, none⟩) st.shs.length cap, .bool st.clash] 128 (0, 0))
  row : w.heap[g]? = some (.cells cur 334 (0, 0))
  ne : g ≠ bs
  low : bs ≤ g
  len : st.shs.length ≤ cap
  capm : cap ≤ maxLen
  full : cur.size = cap * 4
  cells : cur.toList.take (st.shs.length * 4) = shCells st.shs
  many : st.shs.length ≤ 10000001

theorem SolAt.row {w : World} {bs : Nat} {v : Value} {st : Tw.SS} (h : SolAt w bs v st) (h0 : 0 < st.shs.length) : ∃ g cap cur, v = .slice (some ⟨g, 0, none⟩) st.shs.length cap ∧ RowAt w bs g cap cur st := by
  rcases h.owns.2 with ⟨_, hn⟩ | ⟨g, cap, cur, hv, hlo, hh, hn, hc, hs, ht⟩
  · omega
  · subst hv
    exact ⟨g, cap, cur, rfl, ⟨h.solver, hh, fun e => h.ne (by simp [Value.ownBlock, e]), hlo, hn, hc, hs, ht, h.many⟩⟩

theorem RowAt.sol {w : World} {bs g cap : Nat} {cur : Array Value} {st : Tw.SS} (h : RowAt w bs g cap cur st) : SolAt w bs (.slice (some ⟨g, 0, none⟩) st.shs.length cap) st :=
  ⟨h.solver, ⟨shCells_length _, 
    .inr ⟨g, cap, cur, rfl, h.low, h.row, h.len, h.capm, h.full, h.cells⟩⟩, by simpa [Value.ownBlock] using h.ne, h.many⟩

theorem RowAt.sh {w : World} {bs g cap : Nat} {cur : Array Value} {st : Tw.SS} (h : RowAt w bs g cap cur st) {j : Nat} {x : Tw.Sh} (hj : st.shs[j]? = some x) :
    j < st.shs.length ∧ w.cell? ⟨g, j * 4, none⟩ = some (.int .i64 x.sort) ∧ w.cell? ⟨g, j * 4 + 1, none⟩ = some (.int .i64 x.left) ∧ w.cell? ⟨g, j * 4 + 2, none⟩ = some (.int .i64 x.right) ∧ w.cell? ⟨g, j * 4 + 3, none⟩ = some (.int .i64 x.same) := by
  obtain ⟨a, b, c, d⟩ := shCells_get st.shs j x hj
  have hlt : j < st.shs.length := (List.getElem?_eq_some_iff.1 hj).1
  rw [← h.cells, List.getElem?_take, if_pos (by omega)] at a b c d
  refine ⟨hlt, ?_, ?_, ?_, ?_⟩
  · rw [cell_of_row w g _ cur _ _ h.row]; simpa using a
  · rw [cell_of_row w g _ cur _ _ h.row]; simpa using b
  · rw [cell_of_row w g _ cur _ _ h.row]; simpa using c
  · rw [cell_of_row w g _ cur _ _ h.row]; simpa using d

theorem RowAt.fz {w : World} {bs g cap : Nat} {cur : Array Value} {st : Tw.SS} (h : RowAt w bs g cap cur st) (j : Nat) : w.frozen? ⟨g, j, none⟩ = false := frozen_of_row w g j _ _ h.row

theorem shCells_set (l : List Tw.Sh) (j : Nat) (x : Tw.Sh) (n : Nat) (h : l[j]? = some x) :
    shCells (l.set j { x with same := n }) = (shCells l).set (j * 4 + 3) (.int .i64 n) := by
  induction l generalizing j with
  | nil => simp at h
  | cons a l ih =>
    cases j with
    | zero => simp at h; subst h; simp [shCells, shCell]
    | succ j =>
      have := ih j (by simpa using h)
      simp only [List.set_cons_succ, shCells, this, shCell]
      rw [show (j + 1) * 4 + 3 = j * 4 + 3 + 1 + 1 + 1 + 1 from by omega]
      simp

theorem RowAt.set {w : World} {bs g cap : Nat} {cur : Array Value} {st : Tw.SS} (h : RowAt w bs g cap cur st) {j : Nat} {x : Tw.Sh} (hj : st.shs[j]? = some x) (n : Nat) :
    RowAt (w.setCell ⟨g, j * 4 + 3, none⟩ (.int .i64 n)) bs g cap (cur.setIfInBounds (j * 4 + 3) (.int .i64 n)) (Tw.setSame st j x n) := by
  have hlt : j < st.shs.length := (List.getElem?_eq_some_iff.1 hj).1
  have hl : (Tw.setSame st j x n).shs.length = st.shs.length := by simp [Tw.setSame]
  refine ⟨?_, heap_setCell_same _ _ _ _ _ _ h.row, h.ne, h.low, by rw [hl]; exact h.len, h.capm, by simp [h.full], ?_, by rw [hl]; exact h.many⟩
  · rw [heap_setCell_other _ _ _ _ (by simpa using h.ne.symm), hl]; exact h.solver
  · rw [hl]
    show _ = shCells (st.shs.set j { x with same := n })
    rw [shCells_set st.shs j x n hj, ← h.cells, Array.toList_setIfInBounds, List.take_set]

theorem RowAt.drew {w : World} {bs g cap : Nat} {cur : Array Value} {st : Tw.SS} (h : RowAt w bs g cap cur st) : RowAt w.drew bs g cap cur st := { h with }

theorem RowAt.grown {w w' : World} {bs g cap : Nat} {cur : Array Value} {st : Tw.SS} (h : RowAt w bs g cap cur st) (hg : w.grownBy w' none) : RowAt w' bs g cap cur st :=
  { h with solver := by rw [hg.block bs (Array.getElem?_eq_some_iff.1 h.solver).1 (by simp)]; exact h.solver, row := by rw [hg.block g (Array.getElem?_eq_some_iff.1 h.row).1 (by simp)]; exact h.row }

set_option maxRecDepth 100000 in
set_option maxHeartbeats 1000000 in
theorem find_any {w : World} {bs g cap : Nat} {cur : Array Value} {st st' : Tw.SS} (h : RowAt w bs g cap cur st) {fuel r r' : Nat} (hf : Tw.findS fuel st r = some (r', st')) :
    Calls Tryz.prog 177 #[.pointer (some ⟨bs, 0, none⟩), .int .i64 r] w fun e w' => e = .returned (.int .i64 r') ∧ UK bs g w w' ∧ ∃ cur', RowAt w' bs g cap cur' st' := by
  have HH : Hid (RowAt w bs g cap cur st) := h
  have HF : Hid (Tw.findS fuel st r = some (r', st')) := hf
  have hbs : bs < w.heap.size := (Array.getElem?_eq_some_iff.1 h.solver).1
  have c237 : Tryz.prog.cellsOf 334 = 4 := by kernel_rfl
  have hm := h.many
  clear h hf
  go_enter Tryz.func177, Tryz.ntmps177
  go_wp2_with fail
  go_loopg [1] fuel (fun k rv wr => ∃ (q : Nat) (stk : Tw.SS) (curk : Array Value), rv = .int .i64 q ∧ Hid (RowAt wr bs g cap curk stk) ∧ Hid (UK bs g w wr) ∧ Hid (Tw.findS k stk q = some (r', st')))
  case atStart => exact ⟨r, st, cur, rfl, HH, UK.refl _ _ _, HF⟩
  case round =>
    obtain ⟨q, stk, curk, rfl, PR, KR, HR⟩ := hrel
    cases gk with
    | zero => have := HR.out; simp [Tw.findS] at this
    | succ k =>
    have HR2 := HR.out
    rw [Tw.findS] at HR2
    cases hx : stk.shs[q]? with
    | none => rw [hx] at HR2; simp at HR2
    | some x =>
    rw [hx] at HR2
    simp only at HR2
    obtain ⟨hq, x0, x1, x2, x3⟩ := PR.out.sh hx
    have hmk := PR.out.many
    obtain ⟨s0, s1, _, _⟩ := two_cells PR.out.solver
    have hqi : (q : Int) < (stk.shs.length : Int) := by omega
    have HX : Hid (stk.shs[q]? = some x) := hx
    clear hx HR
    by_cases hs : x.same = q
    · rw [if_pos hs] at HR2
      simp only [Option.some.injEq, Prod.mk.injEq] at HR2
      obtain ⟨rfl, rfl⟩ := HR2
      have bz : ((x.same : Int) != (q : Int)) = false := by simp [hs]
      clear hs
      go_wp2_with fail
      go_ret
      exact ⟨rfl, KR.out, curk, PR.out⟩
    · rw [if_neg hs] at HR2
      cases hy : stk.shs[x.same]? with
      | none => rw [hy] at HR2; simp at HR2
      | some y =>
      rw [hy] at HR2
      simp only at HR2
      obtain ⟨hq2, y0, y1, y2, y3⟩ := PR.out.sh hy
      have hqi2 : (x.same : Int) < (stk.shs.length : Int) := by omega
      have bz : ((x.same : Int) != (q : Int)) = true := by simp; omega
      have fz := PR.out.fz (q * 4 + 3)
      have H5 : Hid (Tw.findS k (Tw.setSame stk q x y.same) x.same = some (r', st')) := HR2
      clear hy HR2 hs x0 x1 x2 y0 y1 y2
      go_wp2_with fail
      go_region
      go_wp2_with fail
      go_roundg k
      case measure => omega
      case rel => exact ⟨x.same, _, _, rfl, RowAt.drew (RowAt.set PR.out HX.out y.same), UK.drew (KR.out.setRow _ _), H5⟩

end Go.Proofs.YtckhafpejefbbaaGreatDoor

/- Package types: unify. -/
namespace Go.Proofs.YtckhafpejefbbaaGreatDoor
open Go.RowKit

def UPost (bs g cap : Nat) (w : World) (st' : Tw.SS) (e : Ending) (w' : World) : Prop := e = .returned (.tuple #[]) ∧ UK bs g w w' ∧ ∃ cur', RowAt w' bs g cap cur' st'

def USaid (n : Nat) : Prop := ∀ {w : World} {bs g cap : Nat} {cur : Array Value} {st st' : Tw.SS} {a b : Nat}, RowAt w bs g cap cur st → Tw.unifyS n st a b = some st' →
    Calls Tryz.prog 176 #[.pointer (some ⟨bs, 0, none⟩), .int .i64 a, .int .i64 b] w (UPost bs g cap w st')

theorem RowAt.clash {w : World} {bs g cap : Nat} {cur : Array Value} {st : Tw.SS} (h : RowAt w bs g cap cur st) : RowAt (w.setCell ⟨bs, 1, none⟩ (.bool true)) bs g cap cur { st with clash := true } :=
  { h with solver := by rw [heap_setCell_same _ _ _ _ _ _ h.solver]; rfl, row := by rw [heap_setCell_other _ _ _ _ (by simpa using h.ne)]; exact h.row }

theorem four_cells {w : World} {b : Nat} {x y z u : Value} {t : TypeId} (h : w.heap[b]? = some (.cells #[x, y, z, u] t (0, 0))) :
    w.cell? ⟨b, 0, none⟩ = some x ∧ w.cell? ⟨b, 1, none⟩ = some y ∧ w.cell? ⟨b, 2, none⟩ = some z ∧ w.cell? ⟨b, 3, none⟩ = some u := by
  refine ⟨?_, ?_, ?_, ?_⟩ <;> (rw [cell_of_row w b _ _ _ _ h]; rfl)

theorem two_new (w : World) (a : Addr) (v : Value) (o1 o2 : Obj) : (((w.setCell a v).alloc o1).alloc o2).drew.heap[w.heap.size]? = some o1 ∧ (((w.setCell a v).alloc o1).alloc o2).drew.heap[w.heap.size + 1]? = some o2 := by
  have e1 : (w.setCell a v).heap.size = w.heap.size := by simp
  have e2 : ((w.setCell a v).alloc o1).heap.size = w.heap.size + 1 := by simp
  refine ⟨?_, ?_⟩
  · have := alloc_at (new_block (w.setCell a v) o1) o2
    rw [e1] at this
    exact this
  · have := new_block ((w.setCell a v).alloc o1) o2
    rw [e2] at this
    exact this

set_option maxRecDepth 100000 in
set_option maxHeartbeats 4000000 in
theorem unify_step {n : Nat} (ih : USaid n) : USaid (n + 1) := by
  intro w bs g cap cur st st' a b h hf
  rw [Tw.unifyS] at hf
  obtain ⟨⟨p, st1⟩, hp, hf1⟩ := Option.bind_eq_some_iff.1 hf
  obtain ⟨⟨q, st2⟩, hq, hf2⟩ := Option.bind_eq_some_iff.1 hf1
  clear hf hf1
  simp only at hq hf2
  cases hx : st2.shs[p]? with
  | none => rw [hx] at hf2; simp at hf2
  | some x =>
  cases hy : st2.shs[q]? with
  | none => rw [hx, hy] at hf2; simp at hf2
  | some y =>
  rw [hx, hy] at hf2
  simp only at hf2
  have HH : Hid (RowAt w bs g cap cur st) := h
  have H1 : Hid (Tw.findS n st a = some (p, st1)) := hp
  have H2 : Hid (Tw.findS n st1 b = some (q, st2)) := hq
  have HX : Hid (st2.shs[p]? = some x) := hx
  have HY : Hid (st2.shs[q]? = some y) := hy
  have HF := hide hf2
  have c237 : Tryz.prog.cellsOf 334 = 4 := by kernel_rfl
  have IH : USaid n := ih
  clear h hp hq hx hy hf2 ih
  go_enter Tryz.func176, Tryz.ntmps176
  go_wp2_with fail
  refine (find_any HH.out H1.out).mono ?_
  rintro e w1 ⟨rfl, hk, cur1, h⟩
  have P1 : Hid (RowAt w1 bs g cap cur1 st1) := h
  have K1 : Hid (UK bs g w w1) := hk
  clear hk h
  go_wp2_with fail
  refine (find_any P1.out H2.out).mono ?_
  rintro e w2 ⟨rfl, hk, cur2, h⟩
  have P2 : Hid (RowAt w2 bs g cap cur2 st2) := h
  have K2 : Hid (UK bs g w w2) := K1.out.trans hk
  obtain ⟨hp, x0, x1, x2, x3⟩ := h.sh HX.out
  obtain ⟨hq, y0, y1, y2, y3⟩ := h.sh HY.out
  obtain ⟨s0, s1, f0, f1⟩ := two_cells h.solver
  have hpi : (p : Int) < (st2.shs.length : Int) := by omega
  have hqi : (q : Int) < (st2.shs.length : Int) := by omega
  have hm := h.many
  have hbs : bs < w2.heap.size := (Array.getElem?_eq_some_iff.1 h.solver).1
  have hgg : g < w2.heap.size := (Array.getElem?_eq_some_iff.1 h.row).1
  have hgb : g ≠ bs := h.ne
  clear hk h
  go_wp2_with fail
  have z0 := P2.out.fz (p * 4 + 3)
  have z1 := P2.out.fz (q * 4 + 3)
  go_region
  all_goals
    by_cases hpq : p = q
    · have e := HF.out
      rw [if_pos hpq] at e
      simp only [Option.some.injEq] at e
      subst e
      have bz : ((p : Int) == (q : Int)) = true := by simp [hpq]
      clear hpq HF
      go_wp2_with fail
      go_end0
      exact ⟨rfl, ((K2.out.alloc _).alloc _).drew, cur2, ((P2.out.grown (World.grownBy_alloc _ _ none)).grown (World.grownBy_alloc _ _ none)).drew⟩
    have HF1 := HF.out
    rw [if_neg hpq] at HF1
    have bz : ((p : Int) == (q : Int)) = false := by simp; omega
    clear HF hpq
    by_cases hx0 : x.sort = 0
    · rw [if_pos hx0] at HF1
      simp only [Option.some.injEq] at HF1
      subst HF1
      have bx : (x.sort == 0) = true := by simp [hx0]
      clear hx0
      go_wp2_with fail
      go_end0
      exact ⟨rfl, (((K2.out.setRow _ _).alloc _).alloc _).drew, _, (((P2.out.set HX.out q).grown (World.grownBy_alloc _ _ none)).grown (World.grownBy_alloc _ _ none)).drew⟩
    rw [if_neg hx0] at HF1
    have bx : (x.sort == 0) = false := by simp [hx0]
    clear hx0
    by_cases hy0 : y.sort = 0
    · rw [if_pos hy0] at HF1
      simp only [Option.some.injEq] at HF1
      subst HF1
      have by0 : (y.sort == 0) = true := by simp [hy0]
      clear hy0
      go_wp2_with fail
      go_end0
      exact ⟨rfl, (((K2.out.setRow _ _).alloc _).alloc _).drew, _, (((P2.out.set HY.out p).grown (World.grownBy_alloc _ _ none)).grown (World.grownBy_alloc _ _ none)).drew⟩
    rw [if_neg hy0] at HF1
    have by0 : (y.sort == 0) = false := by simp [hy0]
    clear hy0
    by_cases hxy : x.sort = y.sort
    · rw [if_pos hxy] at HF1
      obtain ⟨st3, h3, h4⟩ := Option.bind_eq_some_iff.1 HF1
      clear HF1
      have H3 : Hid (Tw.unifyS n (Tw.setSame st2 p x q) x.left y.left = some st3) := h3
      have H4 : Hid (Tw.unifyS n st3 x.right y.right = some st') := h4
      have bxy : (x.sort != y.sort) = false := by simp [hxy]
      clear h3 h4 hxy
      have PS := P2.out.set HX.out q
      go_wp2_with fail
      refine (IH ((PS.grown (World.grownBy_alloc _ _ none)).grown (World.grownBy_alloc _ _ none)).drew H3.out).mono ?_
      rintro e w3 ⟨rfl, hk, cur3, h⟩
      have P3 : Hid (RowAt w3 bs g cap cur3 st3) := h
      have K3 : Hid (UK bs g w w3) := ((((K2.out.setRow _ _).alloc _).alloc _).drew).trans hk
      obtain ⟨m1, m2⟩ := two_new w2 ⟨g, p * 4 + 3, none⟩ (.int .i64 q) _ _
      obtain ⟨i0, i1, i2, i3⟩ := four_cells (hk.at m1 (by omega) (by omega))
      obtain ⟨j0, j1, j2, j3⟩ := four_cells (hk.at m2 (by omega) (by omega))
      clear hk h m1 m2 x0 x1 x2 x3 y0 y1 y2 y3 s0 s1 f0 f1 z0 z1
      go_wp2_with fail
      refine (IH P3.out H4.out).mono ?_
      rintro e w4 ⟨rfl, hk, cur4, h⟩
      have X : Hid (UK bs g w w4 ∧ ∃ cur', RowAt w4 bs g cap cur' st') := ⟨K3.out.trans hk, cur4, h⟩
      clear hk h
      go_wp2_with fail
      go_end0
      exact ⟨rfl, X.out⟩
    · rw [if_neg hxy] at HF1
      simp only [Option.some.injEq] at HF1
      subst HF1
      have bxy : (x.sort != y.sort) = true := by simp [hxy]
      clear hxy
      go_wp2_with fail
      go_end0
      exact ⟨rfl, (((K2.out.set 1 _).alloc _).alloc _).drew, _, ((P2.out.clash.grown (World.grownBy_alloc _ _ none)).grown (World.grownBy_alloc _ _ none)).drew⟩

theorem unify_any : ∀ n, USaid n
  | 0 => fun _ hf => by simp [Tw.unifyS] at hf
  | n + 1 => unify_step (unify_any n)

end Go.Proofs.YtckhafpejefbbaaGreatDoor

/- Package types: names' meanings in memory; With, Find. -/
namespace Go.Proofs.YtckhafpejefbbaaGreatDoor
open Go.RowKit

def Sol (w : World) (bs : Nat) (st : Tw.SS) : Prop := ∃ g cap cur, RowAt w bs g cap cur st

theorem nodeAt.sk {bs : Nat} {w w' : World} {st : Tw.SS} (hS : Sol w bs st) (hk : SK bs w w') {lo hi fr to : Nat} {rest : List Value} {pt ty : TypeId} {v : Value} (h : nodeAt w lo hi fr to rest pt ty v)
    (_h1 : ty ≠ 128) (h2 : ty ≠ 334) : nodeAt w' lo hi fr to rest pt ty v := by
  obtain ⟨b, b1, b2, hv, hb⟩ := h
  obtain ⟨g, cap, cur, hR⟩ := hS
  refine ⟨b, b1, b2, hv, hk.at hb (fun e => ?_) (fun cur m e => ?_)⟩
  · subst e
    rw [hR.solver] at hb
    simp at hb
  · simp at e
    exact h2 e.2.1

theorem Rep.sk {bs : Nat} {w w' : World} {st : Tw.SS} (hS : Sol w bs st) (hk : SK bs w w') {lo hi : Nat} : ∀ {t : Tw.T} {v : Value}, Rep w lo hi t v → Rep w' lo hi t v
  | .name .., _, h => nodeAt.sk hS hk h (by decide) (by decide)
  | .int .., _, h => nodeAt.sk hS hk h (by decide) (by decide)
  | .truth .., _, h => nodeAt.sk hS hk h (by decide) (by decide)
  | .side .., _, h => nodeAt.sk hS hk h (by decide) (by decide)
  | .bracket .., _, ⟨v1, h, r1⟩ => ⟨v1, h.sk hS hk (by decide) (by decide), Rep.sk hS hk r1⟩
  | .pair .., _, ⟨v1, v2, h, r1, r2⟩ => ⟨v1, v2, h.sk hS hk (by decide) (by decide), Rep.sk hS hk r1, Rep.sk hS hk r2⟩
  | .call .., _, ⟨v1, v2, h, r1, r2⟩ => ⟨v1, v2, h.sk hS hk (by decide) (by decide), Rep.sk hS hk r1, Rep.sk hS hk r2⟩
  | .binary .., _, ⟨v1, v2, h, r1, r2⟩ => ⟨v1, v2, h.sk hS hk (by decide) (by decide), Rep.sk hS hk r1, Rep.sk hS hk r2⟩
  | .cond .., _, ⟨v1, v2, v3, h, r1, r2, r3⟩ => ⟨v1, v2, v3, h.sk hS hk (by decide) (by decide), Rep.sk hS hk r1, Rep.sk hS hk r2, Rep.sk hS hk r3⟩
  | .fn .., _, ⟨v1, h, r1⟩ => ⟨v1, h.sk hS hk (by decide) (by decide), Rep.sk hS hk r1⟩
  | .lett .., _, ⟨v1, v2, h, r1, r2⟩ => ⟨v1, v2, h.sk hS hk (by decide) (by decide), Rep.sk hS hk r1, Rep.sk hS hk r2⟩

def EnvAt (w : World) (hi : Nat) : Tw.En → Value → Prop
  | .nil, v => v = .pointer none
  | .fix n r o, v => ∃ b vo, v = .pointer (some ⟨b, 0, none⟩) ∧ w.heap[b]? = some (.cells #[bytesV n, .int .i64 r, .pointer none, .pointer none, vo] 339 (0, 0)) ∧ EnvAt w hi o vo
  | .dfn n t o, v => ∃ b vo bl, v = .pointer (some ⟨b, 0, none⟩) ∧ w.heap[b]? = some (.cells #[bytesV n, .int .i64 0, .pointer (some ⟨bl, 0, none⟩), vo, vo] 339 (0, 0)) ∧ EnvAt w hi o vo ∧ Rep w 0 hi t (.iface 136 (.pointer (some ⟨bl, 0, none⟩)))

theorem sc_sk {bs : Nat} {w w' : World} {st : Tw.SS} (hS : Sol w bs st) (hk : SK bs w w') {b : Nat} {cur : Array Value} (hb : w.heap[b]? = some (.cells cur 339 (0, 0))) : w'.heap[b]? = some (.cells cur 339 (0, 0)) := by
  obtain ⟨g, cap, cur0, hR⟩ := hS
  refine hk.at hb (fun e => ?_) (fun cur m e => ?_)
  · subst e
    rw [hR.solver] at hb
    simp at hb
  · simp at e

theorem EnvAt.sk {bs : Nat} {w w' : World} {st : Tw.SS} (hS : Sol w bs st) (hk : SK bs w w') {hi : Nat} : ∀ {e : Tw.En} {v : Value}, EnvAt w hi e v → EnvAt w' hi e v
  | .nil, _, h => h
  | .fix .., _, ⟨b, vo, hv, hb, ho⟩ => ⟨b, vo, hv, sc_sk hS hk hb, EnvAt.sk hS hk ho⟩
  | .dfn .., _, ⟨b, vo, bl, hv, hb, ho, hr⟩ => ⟨b, vo, bl, hv, sc_sk hS hk hb, EnvAt.sk hS hk ho, Rep.sk hS hk hr⟩

theorem EnvAt.grown {w w' : World} (hk : w.grownBy w' none) {hi : Nat} : ∀ {e : Tw.En} {v : Value}, EnvAt w hi e v → EnvAt w' hi e v
  | .nil, _, h => h
  | .fix .., _, ⟨b, vo, hv, hb, ho⟩ => ⟨b, vo, hv, (hk.block b (Array.getElem?_eq_some_iff.1 hb).1 (by simp)).trans hb, EnvAt.grown hk ho⟩
  | .dfn .., _, ⟨b, vo, bl, hv, hb, ho, hr⟩ => ⟨b, vo, bl, hv, (hk.block b (Array.getElem?_eq_some_iff.1 hb).1 (by simp)).trans hb, EnvAt.grown hk ho, hr.grown hk (Nat.le_refl _) (Nat.le_refl _)⟩

theorem Sol.grown {w w' : World} {bs : Nat} {st : Tw.SS} (h : Sol w bs st) (hg : w.grownBy w' none) : Sol w' bs st := by
  obtain ⟨g, cap, cur, hR⟩ := h
  exact ⟨g, cap, cur, hR.grown hg⟩

theorem EnvAt.ptr {w : World} {hi : Nat} {e : Tw.En} {v : Value} (h : EnvAt w hi e v) : ∃ a, v = .pointer a := by
  cases e with
  | nil => exact ⟨none, h⟩
  | fix => obtain ⟨b, _, hv, _⟩ := h; exact ⟨_, hv⟩
  | dfn => obtain ⟨b, _, _, hv, _⟩ := h; exact ⟨_, hv⟩

theorem add_sol {w : World} {bs : Nat} {st st' : Tw.SS} (h : Sol w bs st) (of : Int) (l r : Nat) {n : Nat} (hf : Tw.addS of l r st = some (n, st')) :
    Calls Tryz.prog 97 #[.pointer (some ⟨bs, 0, none⟩), .int .i64 of, .int .i64 l, .int .i64 r] w fun e w' => e = .returned (.int .i64 n) ∧ SK bs w w' ∧ Sol w' bs st' := by
  obtain ⟨g, cap, cur, hR⟩ := h
  refine (add_any hR.sol of l r hf).mono ?_
  rintro e w' ⟨rfl, hk, v', hv⟩
  refine ⟨rfl, hk, ?_⟩
  have hp : 0 < st'.shs.length := by
    unfold Tw.addS at hf
    split at hf
    · simp only [Option.some.injEq, Prod.mk.injEq] at hf
      obtain ⟨_, rfl⟩ := hf
      simp
    · cases hf
  obtain ⟨g', cap', cur', _, hR'⟩ := hv.row hp
  exact ⟨g', cap', cur', hR'⟩

theorem fresh_sol {w : World} {bs : Nat} {st st' : Tw.SS} (h : Sol w bs st) {n : Nat} (hf : Tw.addS 0 0 0 st = some (n, st')) :
    Calls Tryz.prog 103 #[.pointer (some ⟨bs, 0, none⟩)] w fun e w' => e = .returned (.int .i64 n) ∧ SK bs w w' ∧ Sol w' bs st' := by
  have HH : Hid (Sol w bs st) := h
  have H1 : Hid (Tw.addS 0 0 0 st = some (n, st')) := hf
  clear h hf
  go_enter Tryz.func103, Tryz.ntmps103
  go_wp2_with fail
  refine (add_sol HH.out 0 0 0 H1.out).mono ?_
  rintro e w1 ⟨rfl, hX⟩
  have X : Hid (SK bs w w1 ∧ Sol w1 bs st') := hX
  clear hX
  go_wp2_with fail
  go_ret
  exact ⟨rfl, X.out⟩

theorem unify_sol {w : World} {bs : Nat} {st st' : Tw.SS} (h : Sol w bs st) {n a b : Nat} (hf : Tw.unifyS n st a b = some st') :
    Calls Tryz.prog 176 #[.pointer (some ⟨bs, 0, none⟩), .int .i64 a, .int .i64 b] w fun e w' => e = .returned (.tuple #[]) ∧ SK bs w w' ∧ Sol w' bs st' := by
  obtain ⟨g, cap, cur, hR⟩ := h
  refine (unify_any n hR hf).mono ?_
  rintro e w' ⟨rfl, hk, cur', hR'⟩
  exact ⟨rfl, hk.sk hR.row hR.low, g, cap, cur', hR'⟩

set_option maxRecDepth 100000 in
set_option maxHeartbeats 1000000 in
theorem with_any {w : World} {hi : Nat} (e : Tw.En) (v : Value) (he : EnvAt w hi e v) (n : List UInt8) (r : Nat) (pl po : Option Addr) :
    Calls Tryz.prog 104 #[v, bytesV n, .agg #[.int .i64 r, .pointer pl, .pointer po]] w fun e w' => ∃ b, e = .returned (.pointer (some ⟨b, 0, none⟩)) ∧ w.grownBy w' none ∧ w'.heap[b]? = some (.cells #[bytesV n, .int .i64 r, .pointer pl, .pointer po, v] 339 (0, 0)) := by
  obtain ⟨a, rfl⟩ := he.ptr
  clear he
  go_enter Tryz.func104, Tryz.ntmps104
  go_wp2_with fail
  go_ret
  go_light
  have NW := new_block (w.alloc (.cells #[.int .i64 r, .pointer pl, .pointer po] 238)) (.cells #[bytesV n, .int .i64 r, .pointer pl, .pointer po, .pointer a] 339)
  rw [show (w.alloc (.cells #[.int .i64 r, .pointer pl, .pointer po] 238)).heap.size = w.heap.size + 1 from by simp] at NW
  exact ⟨_, rfl, grown_alloc (World.grownBy_alloc _ _ none) _, NW⟩

end Go.Proofs.YtckhafpejefbbaaGreatDoor

/- Package types: Find. -/
namespace Go.Proofs.YtckhafpejefbbaaGreatDoor
open Go.RowKit

def FindPost (w : World) (hi : Nat) (m : Nat ⊕ (Tw.T × Tw.En)) (e : Ending) (w' : World) : Prop :=
  w.grownBy w' none ∧ match m with
  | .inl r => ∃ po, e = .returned (.tuple #[.agg #[.int .i64 r, .pointer none, .pointer po], .bool true])
  | .inr (t, o) => ∃ bl po, e = .returned (.tuple #[.agg #[.int .i64 0, .pointer (some ⟨bl, 0, none⟩), .pointer po], .bool true]) ∧ EnvAt w hi o (.pointer po) ∧ Rep w 0 hi t (.iface 136 (.pointer (some ⟨bl, 0, none⟩)))

def Tw.En.size : Tw.En → Nat
  | .nil => 0
  | .fix _ _ o => o.size + 1
  | .dfn _ _ o => o.size + 1

set_option maxRecDepth 100000 in
set_option maxHeartbeats 2000000 in
theorem find_env {w : World} {hi : Nat} {e : Tw.En} {v : Value} (he : EnvAt w hi e v) (x : List UInt8) {m : Nat ⊕ (Tw.T × Tw.En)} (hm : e.look x = some m) :
    Calls Tryz.prog 175 #[v, bytesV x] w (FindPost w hi m) := by
  have HE : Hid (EnvAt w hi e v) := he
  have HM : Hid (e.look x = some m) := hm
  clear he hm
  go_enter Tryz.func175, Tryz.ntmps175
  go_wp2_with fail
  go_loopg [0] e.size (fun k pv wr => wr = w.alloc (.cells #[.int .i64 0, .pointer none, .pointer none] 238) ∧ ∃ ek : Tw.En, k = ek.size ∧ Hid (EnvAt w hi ek pv) ∧ Hid (ek.look x = some m))
  case atStart => exact ⟨rfl, e, rfl, HE, HM⟩
  case round =>
    obtain ⟨hw, ek, hks, HK, HL⟩ := hrel
    subst hw
    cases ek with
    | nil => have := HL.out; simp [Tw.En.look] at this
    | fix n r o =>
      obtain ⟨b, vo, hv, hb, ho⟩ := HK.out
      obtain ⟨a, rfl⟩ := ho.ptr
      subst hv
      obtain ⟨c0, c1, c2, c3, c4⟩ := five_cells hb
      have hbl : b < w.heap.size := (Array.getElem?_eq_some_iff.1 hb).1
      have HO : Hid (EnvAt w hi o (.pointer a)) := ho
      have hl := HL.out
      simp only [Tw.En.look] at hl
      clear HK HL hb ho HE HM
      by_cases hn : n = x
      · rw [if_pos hn] at hl
        simp only [Option.some.injEq] at hl
        subst hl
        have be : (n == x) = true := by simp [hn]
        have HX : Hid (n = x) := hn
        clear hn
        go_wp2_with fail
        exact bodyPost_ret (v := .tuple #[.agg #[.int .i64 r, .pointer none, .pointer none], .bool true]) (by simp [results, Tryz.results175, go_sem]) rfl ⟨World.grownBy_alloc _ _ none, none, rfl⟩
      · rw [if_neg hn] at hl
        have be : (n == x) = false := by simp [hn]
        have HL : Hid (o.look x = some m) := hl
        clear hn hl
        go_wp2_with fail
        go_roundg o.size
        case measure => simp [Tw.En.size] at hks; omega
        case rel => exact ⟨rfl, o, rfl, HO, HL⟩
    | dfn n t o =>
      obtain ⟨b, vo, bl, hv, hb, ho, hr⟩ := HK.out
      obtain ⟨a, rfl⟩ := ho.ptr
      subst hv
      obtain ⟨c0, c1, c2, c3, c4⟩ := five_cells hb
      have hbl : b < w.heap.size := (Array.getElem?_eq_some_iff.1 hb).1
      have HO : Hid (EnvAt w hi o (.pointer a)) := ho
      have HR : Hid (Rep w 0 hi t (.iface 136 (.pointer (some ⟨bl, 0, none⟩)))) := hr
      have hl := HL.out
      simp only [Tw.En.look] at hl
      clear HK HL hb ho HE HM hr
      by_cases hn : n = x
      · rw [if_pos hn] at hl
        simp only [Option.some.injEq] at hl
        subst hl
        have be : (n == x) = true := by simp [hn]
        have HX : Hid (n = x) := hn
        clear hn
        go_wp2_with fail
        exact bodyPost_ret (v := .tuple #[.agg #[.int .i64 0, .pointer (some ⟨bl, 0, none⟩), .pointer a], .bool true]) (by simp [results, Tryz.results175, go_sem]) rfl ⟨World.grownBy_alloc _ _ none, bl, a, rfl, HO.out, HR.out⟩
      · rw [if_neg hn] at hl
        have be : (n == x) = false := by simp [hn]
        have HL : Hid (o.look x = some m) := hl
        clear hn hl
        go_wp2_with fail
        go_roundg o.size
        case measure => simp [Tw.En.size] at hks; omega
        case rel => exact ⟨rfl, o, rfl, HO, HL⟩

end Go.Proofs.YtckhafpejefbbaaGreatDoor

/- Type assertions on the nodes. -/
namespace Go.Proofs.YtckhafpejefbbaaGreatDoor
open Go.RowKit
theorem ta_Name_Name (a : Option Addr) (w : World) : Sem.run Tryz.prog (Instr.typeAssert (.iface 83 (.pointer a)) 68 83 true) w = .ok (.tuple #[.pointer a, .bool true]) w := by kernel_rfl
theorem ta_Name_Int (a : Option Addr) (w : World) : Sem.run Tryz.prog (Instr.typeAssert (.iface 83 (.pointer a)) 68 191 true) w = .ok (.tuple #[.pointer none, .bool false]) w := by kernel_rfl
theorem ta_Name_Truth (a : Option Addr) (w : World) : Sem.run Tryz.prog (Instr.typeAssert (.iface 83 (.pointer a)) 68 195 true) w = .ok (.tuple #[.pointer none, .bool false]) w := by kernel_rfl
theorem ta_Name_Side (a : Option Addr) (w : World) : Sem.run Tryz.prog (Instr.typeAssert (.iface 83 (.pointer a)) 68 199 true) w = .ok (.tuple #[.pointer none, .bool false]) w := by kernel_rfl
theorem ta_Name_Bracket (a : Option Addr) (w : World) : Sem.run Tryz.prog (Instr.typeAssert (.iface 83 (.pointer a)) 68 204 true) w = .ok (.tuple #[.pointer none, .bool false]) w := by kernel_rfl
theorem ta_Name_Pair (a : Option Addr) (w : World) : Sem.run Tryz.prog (Instr.typeAssert (.iface 83 (.pointer a)) 68 207 true) w = .ok (.tuple #[.pointer none, .bool false]) w := by kernel_rfl
theorem ta_Name_Call (a : Option Addr) (w : World) : Sem.run Tryz.prog (Instr.typeAssert (.iface 83 (.pointer a)) 68 209 true) w = .ok (.tuple #[.pointer none, .bool false]) w := by kernel_rfl
theorem ta_Name_Binary (a : Option Addr) (w : World) : Sem.run Tryz.prog (Instr.typeAssert (.iface 83 (.pointer a)) 68 211 true) w = .ok (.tuple #[.pointer none, .bool false]) w := by kernel_rfl
theorem ta_Name_If (a : Option Addr) (w : World) : Sem.run Tryz.prog (Instr.typeAssert (.iface 83 (.pointer a)) 68 213 true) w = .ok (.tuple #[.pointer none, .bool false]) w := by kernel_rfl
theorem ta_Name_Fun (a : Option Addr) (w : World) : Sem.run Tryz.prog (Instr.typeAssert (.iface 83 (.pointer a)) 68 215 true) w = .ok (.tuple #[.pointer none, .bool false]) w := by kernel_rfl
theorem ta_Name_Let (a : Option Addr) (w : World) : Sem.run Tryz.prog (Instr.typeAssert (.iface 83 (.pointer a)) 68 136 true) w = .ok (.tuple #[.pointer none, .bool false]) w := by kernel_rfl
theorem ta_Int_Name (a : Option Addr) (w : World) : Sem.run Tryz.prog (Instr.typeAssert (.iface 191 (.pointer a)) 68 83 true) w = .ok (.tuple #[.pointer none, .bool false]) w := by kernel_rfl
theorem ta_Int_Int (a : Option Addr) (w : World) : Sem.run Tryz.prog (Instr.typeAssert (.iface 191 (.pointer a)) 68 191 true) w = .ok (.tuple #[.pointer a, .bool true]) w := by kernel_rfl
theorem ta_Int_Truth (a : Option Addr) (w : World) : Sem.run Tryz.prog (Instr.typeAssert (.iface 191 (.pointer a)) 68 195 true) w = .ok (.tuple #[.pointer none, .bool false]) w := by kernel_rfl
theorem ta_Int_Side (a : Option Addr) (w : World) : Sem.run Tryz.prog (Instr.typeAssert (.iface 191 (.pointer a)) 68 199 true) w = .ok (.tuple #[.pointer none, .bool false]) w := by kernel_rfl
theorem ta_Int_Bracket (a : Option Addr) (w : World) : Sem.run Tryz.prog (Instr.typeAssert (.iface 191 (.pointer a)) 68 204 true) w = .ok (.tuple #[.pointer none, .bool false]) w := by kernel_rfl
theorem ta_Int_Pair (a : Option Addr) (w : World) : Sem.run Tryz.prog (Instr.typeAssert (.iface 191 (.pointer a)) 68 207 true) w = .ok (.tuple #[.pointer none, .bool false]) w := by kernel_rfl
theorem ta_Int_Call (a : Option Addr) (w : World) : Sem.run Tryz.prog (Instr.typeAssert (.iface 191 (.pointer a)) 68 209 true) w = .ok (.tuple #[.pointer none, .bool false]) w := by kernel_rfl
theorem ta_Int_Binary (a : Option Addr) (w : World) : Sem.run Tryz.prog (Instr.typeAssert (.iface 191 (.pointer a)) 68 211 true) w = .ok (.tuple #[.pointer none, .bool false]) w := by kernel_rfl
theorem ta_Int_If (a : Option Addr) (w : World) : Sem.run Tryz.prog (Instr.typeAssert (.iface 191 (.pointer a)) 68 213 true) w = .ok (.tuple #[.pointer none, .bool false]) w := by kernel_rfl
theorem ta_Int_Fun (a : Option Addr) (w : World) : Sem.run Tryz.prog (Instr.typeAssert (.iface 191 (.pointer a)) 68 215 true) w = .ok (.tuple #[.pointer none, .bool false]) w := by kernel_rfl
theorem ta_Int_Let (a : Option Addr) (w : World) : Sem.run Tryz.prog (Instr.typeAssert (.iface 191 (.pointer a)) 68 136 true) w = .ok (.tuple #[.pointer none, .bool false]) w := by kernel_rfl
theorem ta_Truth_Name (a : Option Addr) (w : World) : Sem.run Tryz.prog (Instr.typeAssert (.iface 195 (.pointer a)) 68 83 true) w = .ok (.tuple #[.pointer none, .bool false]) w := by kernel_rfl
theorem ta_Truth_Int (a : Option Addr) (w : World) : Sem.run Tryz.prog (Instr.typeAssert (.iface 195 (.pointer a)) 68 191 true) w = .ok (.tuple #[.pointer none, .bool false]) w := by kernel_rfl
theorem ta_Truth_Truth (a : Option Addr) (w : World) : Sem.run Tryz.prog (Instr.typeAssert (.iface 195 (.pointer a)) 68 195 true) w = .ok (.tuple #[.pointer a, .bool true]) w := by kernel_rfl
theorem ta_Truth_Side (a : Option Addr) (w : World) : Sem.run Tryz.prog (Instr.typeAssert (.iface 195 (.pointer a)) 68 199 true) w = .ok (.tuple #[.pointer none, .bool false]) w := by kernel_rfl
theorem ta_Truth_Bracket (a : Option Addr) (w : World) : Sem.run Tryz.prog (Instr.typeAssert (.iface 195 (.pointer a)) 68 204 true) w = .ok (.tuple #[.pointer none, .bool false]) w := by kernel_rfl
theorem ta_Truth_Pair (a : Option Addr) (w : World) : Sem.run Tryz.prog (Instr.typeAssert (.iface 195 (.pointer a)) 68 207 true) w = .ok (.tuple #[.pointer none, .bool false]) w := by kernel_rfl
theorem ta_Truth_Call (a : Option Addr) (w : World) : Sem.run Tryz.prog (Instr.typeAssert (.iface 195 (.pointer a)) 68 209 true) w = .ok (.tuple #[.pointer none, .bool false]) w := by kernel_rfl
theorem ta_Truth_Binary (a : Option Addr) (w : World) : Sem.run Tryz.prog (Instr.typeAssert (.iface 195 (.pointer a)) 68 211 true) w = .ok (.tuple #[.pointer none, .bool false]) w := by kernel_rfl
theorem ta_Truth_If (a : Option Addr) (w : World) : Sem.run Tryz.prog (Instr.typeAssert (.iface 195 (.pointer a)) 68 213 true) w = .ok (.tuple #[.pointer none, .bool false]) w := by kernel_rfl
theorem ta_Truth_Fun (a : Option Addr) (w : World) : Sem.run Tryz.prog (Instr.typeAssert (.iface 195 (.pointer a)) 68 215 true) w = .ok (.tuple #[.pointer none, .bool false]) w := by kernel_rfl
theorem ta_Truth_Let (a : Option Addr) (w : World) : Sem.run Tryz.prog (Instr.typeAssert (.iface 195 (.pointer a)) 68 136 true) w = .ok (.tuple #[.pointer none, .bool false]) w := by kernel_rfl
theorem ta_Side_Name (a : Option Addr) (w : World) : Sem.run Tryz.prog (Instr.typeAssert (.iface 199 (.pointer a)) 68 83 true) w = .ok (.tuple #[.pointer none, .bool false]) w := by kernel_rfl
theorem ta_Side_Int (a : Option Addr) (w : World) : Sem.run Tryz.prog (Instr.typeAssert (.iface 199 (.pointer a)) 68 191 true) w = .ok (.tuple #[.pointer none, .bool false]) w := by kernel_rfl
theorem ta_Side_Truth (a : Option Addr) (w : World) : Sem.run Tryz.prog (Instr.typeAssert (.iface 199 (.pointer a)) 68 195 true) w = .ok (.tuple #[.pointer none, .bool false]) w := by kernel_rfl
theorem ta_Side_Side (a : Option Addr) (w : World) : Sem.run Tryz.prog (Instr.typeAssert (.iface 199 (.pointer a)) 68 199 true) w = .ok (.tuple #[.pointer a, .bool true]) w := by kernel_rfl
theorem ta_Side_Bracket (a : Option Addr) (w : World) : Sem.run Tryz.prog (Instr.typeAssert (.iface 199 (.pointer a)) 68 204 true) w = .ok (.tuple #[.pointer none, .bool false]) w := by kernel_rfl
theorem ta_Side_Pair (a : Option Addr) (w : World) : Sem.run Tryz.prog (Instr.typeAssert (.iface 199 (.pointer a)) 68 207 true) w = .ok (.tuple #[.pointer none, .bool false]) w := by kernel_rfl
theorem ta_Side_Call (a : Option Addr) (w : World) : Sem.run Tryz.prog (Instr.typeAssert (.iface 199 (.pointer a)) 68 209 true) w = .ok (.tuple #[.pointer none, .bool false]) w := by kernel_rfl
theorem ta_Side_Binary (a : Option Addr) (w : World) : Sem.run Tryz.prog (Instr.typeAssert (.iface 199 (.pointer a)) 68 211 true) w = .ok (.tuple #[.pointer none, .bool false]) w := by kernel_rfl
theorem ta_Side_If (a : Option Addr) (w : World) : Sem.run Tryz.prog (Instr.typeAssert (.iface 199 (.pointer a)) 68 213 true) w = .ok (.tuple #[.pointer none, .bool false]) w := by kernel_rfl
theorem ta_Side_Fun (a : Option Addr) (w : World) : Sem.run Tryz.prog (Instr.typeAssert (.iface 199 (.pointer a)) 68 215 true) w = .ok (.tuple #[.pointer none, .bool false]) w := by kernel_rfl
theorem ta_Side_Let (a : Option Addr) (w : World) : Sem.run Tryz.prog (Instr.typeAssert (.iface 199 (.pointer a)) 68 136 true) w = .ok (.tuple #[.pointer none, .bool false]) w := by kernel_rfl
theorem ta_Bracket_Name (a : Option Addr) (w : World) : Sem.run Tryz.prog (Instr.typeAssert (.iface 204 (.pointer a)) 68 83 true) w = .ok (.tuple #[.pointer none, .bool false]) w := by kernel_rfl
theorem ta_Bracket_Int (a : Option Addr) (w : World) : Sem.run Tryz.prog (Instr.typeAssert (.iface 204 (.pointer a)) 68 191 true) w = .ok (.tuple #[.pointer none, .bool false]) w := by kernel_rfl
theorem ta_Bracket_Truth (a : Option Addr) (w : World) : Sem.run Tryz.prog (Instr.typeAssert (.iface 204 (.pointer a)) 68 195 true) w = .ok (.tuple #[.pointer none, .bool false]) w := by kernel_rfl
theorem ta_Bracket_Side (a : Option Addr) (w : World) : Sem.run Tryz.prog (Instr.typeAssert (.iface 204 (.pointer a)) 68 199 true) w = .ok (.tuple #[.pointer none, .bool false]) w := by kernel_rfl
theorem ta_Bracket_Bracket (a : Option Addr) (w : World) : Sem.run Tryz.prog (Instr.typeAssert (.iface 204 (.pointer a)) 68 204 true) w = .ok (.tuple #[.pointer a, .bool true]) w := by kernel_rfl
theorem ta_Bracket_Pair (a : Option Addr) (w : World) : Sem.run Tryz.prog (Instr.typeAssert (.iface 204 (.pointer a)) 68 207 true) w = .ok (.tuple #[.pointer none, .bool false]) w := by kernel_rfl
theorem ta_Bracket_Call (a : Option Addr) (w : World) : Sem.run Tryz.prog (Instr.typeAssert (.iface 204 (.pointer a)) 68 209 true) w = .ok (.tuple #[.pointer none, .bool false]) w := by kernel_rfl
theorem ta_Bracket_Binary (a : Option Addr) (w : World) : Sem.run Tryz.prog (Instr.typeAssert (.iface 204 (.pointer a)) 68 211 true) w = .ok (.tuple #[.pointer none, .bool false]) w := by kernel_rfl
theorem ta_Bracket_If (a : Option Addr) (w : World) : Sem.run Tryz.prog (Instr.typeAssert (.iface 204 (.pointer a)) 68 213 true) w = .ok (.tuple #[.pointer none, .bool false]) w := by kernel_rfl
theorem ta_Bracket_Fun (a : Option Addr) (w : World) : Sem.run Tryz.prog (Instr.typeAssert (.iface 204 (.pointer a)) 68 215 true) w = .ok (.tuple #[.pointer none, .bool false]) w := by kernel_rfl
theorem ta_Bracket_Let (a : Option Addr) (w : World) : Sem.run Tryz.prog (Instr.typeAssert (.iface 204 (.pointer a)) 68 136 true) w = .ok (.tuple #[.pointer none, .bool false]) w := by kernel_rfl
theorem ta_Pair_Name (a : Option Addr) (w : World) : Sem.run Tryz.prog (Instr.typeAssert (.iface 207 (.pointer a)) 68 83 true) w = .ok (.tuple #[.pointer none, .bool false]) w := by kernel_rfl
theorem ta_Pair_Int (a : Option Addr) (w : World) : Sem.run Tryz.prog (Instr.typeAssert (.iface 207 (.pointer a)) 68 191 true) w = .ok (.tuple #[.pointer none, .bool false]) w := by kernel_rfl
theorem ta_Pair_Truth (a : Option Addr) (w : World) : Sem.run Tryz.prog (Instr.typeAssert (.iface 207 (.pointer a)) 68 195 true) w = .ok (.tuple #[.pointer none, .bool false]) w := by kernel_rfl
theorem ta_Pair_Side (a : Option Addr) (w : World) : Sem.run Tryz.prog (Instr.typeAssert (.iface 207 (.pointer a)) 68 199 true) w = .ok (.tuple #[.pointer none, .bool false]) w := by kernel_rfl
theorem ta_Pair_Bracket (a : Option Addr) (w : World) : Sem.run Tryz.prog (Instr.typeAssert (.iface 207 (.pointer a)) 68 204 true) w = .ok (.tuple #[.pointer none, .bool false]) w := by kernel_rfl
theorem ta_Pair_Pair (a : Option Addr) (w : World) : Sem.run Tryz.prog (Instr.typeAssert (.iface 207 (.pointer a)) 68 207 true) w = .ok (.tuple #[.pointer a, .bool true]) w := by kernel_rfl
theorem ta_Pair_Call (a : Option Addr) (w : World) : Sem.run Tryz.prog (Instr.typeAssert (.iface 207 (.pointer a)) 68 209 true) w = .ok (.tuple #[.pointer none, .bool false]) w := by kernel_rfl
theorem ta_Pair_Binary (a : Option Addr) (w : World) : Sem.run Tryz.prog (Instr.typeAssert (.iface 207 (.pointer a)) 68 211 true) w = .ok (.tuple #[.pointer none, .bool false]) w := by kernel_rfl
theorem ta_Pair_If (a : Option Addr) (w : World) : Sem.run Tryz.prog (Instr.typeAssert (.iface 207 (.pointer a)) 68 213 true) w = .ok (.tuple #[.pointer none, .bool false]) w := by kernel_rfl
theorem ta_Pair_Fun (a : Option Addr) (w : World) : Sem.run Tryz.prog (Instr.typeAssert (.iface 207 (.pointer a)) 68 215 true) w = .ok (.tuple #[.pointer none, .bool false]) w := by kernel_rfl
theorem ta_Pair_Let (a : Option Addr) (w : World) : Sem.run Tryz.prog (Instr.typeAssert (.iface 207 (.pointer a)) 68 136 true) w = .ok (.tuple #[.pointer none, .bool false]) w := by kernel_rfl
theorem ta_Call_Name (a : Option Addr) (w : World) : Sem.run Tryz.prog (Instr.typeAssert (.iface 209 (.pointer a)) 68 83 true) w = .ok (.tuple #[.pointer none, .bool false]) w := by kernel_rfl
theorem ta_Call_Int (a : Option Addr) (w : World) : Sem.run Tryz.prog (Instr.typeAssert (.iface 209 (.pointer a)) 68 191 true) w = .ok (.tuple #[.pointer none, .bool false]) w := by kernel_rfl
theorem ta_Call_Truth (a : Option Addr) (w : World) : Sem.run Tryz.prog (Instr.typeAssert (.iface 209 (.pointer a)) 68 195 true) w = .ok (.tuple #[.pointer none, .bool false]) w := by kernel_rfl
theorem ta_Call_Side (a : Option Addr) (w : World) : Sem.run Tryz.prog (Instr.typeAssert (.iface 209 (.pointer a)) 68 199 true) w = .ok (.tuple #[.pointer none, .bool false]) w := by kernel_rfl
theorem ta_Call_Bracket (a : Option Addr) (w : World) : Sem.run Tryz.prog (Instr.typeAssert (.iface 209 (.pointer a)) 68 204 true) w = .ok (.tuple #[.pointer none, .bool false]) w := by kernel_rfl
theorem ta_Call_Pair (a : Option Addr) (w : World) : Sem.run Tryz.prog (Instr.typeAssert (.iface 209 (.pointer a)) 68 207 true) w = .ok (.tuple #[.pointer none, .bool false]) w := by kernel_rfl
theorem ta_Call_Call (a : Option Addr) (w : World) : Sem.run Tryz.prog (Instr.typeAssert (.iface 209 (.pointer a)) 68 209 true) w = .ok (.tuple #[.pointer a, .bool true]) w := by kernel_rfl
theorem ta_Call_Binary (a : Option Addr) (w : World) : Sem.run Tryz.prog (Instr.typeAssert (.iface 209 (.pointer a)) 68 211 true) w = .ok (.tuple #[.pointer none, .bool false]) w := by kernel_rfl
theorem ta_Call_If (a : Option Addr) (w : World) : Sem.run Tryz.prog (Instr.typeAssert (.iface 209 (.pointer a)) 68 213 true) w = .ok (.tuple #[.pointer none, .bool false]) w := by kernel_rfl
theorem ta_Call_Fun (a : Option Addr) (w : World) : Sem.run Tryz.prog (Instr.typeAssert (.iface 209 (.pointer a)) 68 215 true) w = .ok (.tuple #[.pointer none, .bool false]) w := by kernel_rfl
theorem ta_Call_Let (a : Option Addr) (w : World) : Sem.run Tryz.prog (Instr.typeAssert (.iface 209 (.pointer a)) 68 136 true) w = .ok (.tuple #[.pointer none, .bool false]) w := by kernel_rfl
theorem ta_Binary_Name (a : Option Addr) (w : World) : Sem.run Tryz.prog (Instr.typeAssert (.iface 211 (.pointer a)) 68 83 true) w = .ok (.tuple #[.pointer none, .bool false]) w := by kernel_rfl
theorem ta_Binary_Int (a : Option Addr) (w : World) : Sem.run Tryz.prog (Instr.typeAssert (.iface 211 (.pointer a)) 68 191 true) w = .ok (.tuple #[.pointer none, .bool false]) w := by kernel_rfl
theorem ta_Binary_Truth (a : Option Addr) (w : World) : Sem.run Tryz.prog (Instr.typeAssert (.iface 211 (.pointer a)) 68 195 true) w = .ok (.tuple #[.pointer none, .bool false]) w := by kernel_rfl
theorem ta_Binary_Side (a : Option Addr) (w : World) : Sem.run Tryz.prog (Instr.typeAssert (.iface 211 (.pointer a)) 68 199 true) w = .ok (.tuple #[.pointer none, .bool false]) w := by kernel_rfl
theorem ta_Binary_Bracket (a : Option Addr) (w : World) : Sem.run Tryz.prog (Instr.typeAssert (.iface 211 (.pointer a)) 68 204 true) w = .ok (.tuple #[.pointer none, .bool false]) w := by kernel_rfl
theorem ta_Binary_Pair (a : Option Addr) (w : World) : Sem.run Tryz.prog (Instr.typeAssert (.iface 211 (.pointer a)) 68 207 true) w = .ok (.tuple #[.pointer none, .bool false]) w := by kernel_rfl
theorem ta_Binary_Call (a : Option Addr) (w : World) : Sem.run Tryz.prog (Instr.typeAssert (.iface 211 (.pointer a)) 68 209 true) w = .ok (.tuple #[.pointer none, .bool false]) w := by kernel_rfl
theorem ta_Binary_Binary (a : Option Addr) (w : World) : Sem.run Tryz.prog (Instr.typeAssert (.iface 211 (.pointer a)) 68 211 true) w = .ok (.tuple #[.pointer a, .bool true]) w := by kernel_rfl
theorem ta_Binary_If (a : Option Addr) (w : World) : Sem.run Tryz.prog (Instr.typeAssert (.iface 211 (.pointer a)) 68 213 true) w = .ok (.tuple #[.pointer none, .bool false]) w := by kernel_rfl
theorem ta_Binary_Fun (a : Option Addr) (w : World) : Sem.run Tryz.prog (Instr.typeAssert (.iface 211 (.pointer a)) 68 215 true) w = .ok (.tuple #[.pointer none, .bool false]) w := by kernel_rfl
theorem ta_Binary_Let (a : Option Addr) (w : World) : Sem.run Tryz.prog (Instr.typeAssert (.iface 211 (.pointer a)) 68 136 true) w = .ok (.tuple #[.pointer none, .bool false]) w := by kernel_rfl
theorem ta_If_Name (a : Option Addr) (w : World) : Sem.run Tryz.prog (Instr.typeAssert (.iface 213 (.pointer a)) 68 83 true) w = .ok (.tuple #[.pointer none, .bool false]) w := by kernel_rfl
theorem ta_If_Int (a : Option Addr) (w : World) : Sem.run Tryz.prog (Instr.typeAssert (.iface 213 (.pointer a)) 68 191 true) w = .ok (.tuple #[.pointer none, .bool false]) w := by kernel_rfl
theorem ta_If_Truth (a : Option Addr) (w : World) : Sem.run Tryz.prog (Instr.typeAssert (.iface 213 (.pointer a)) 68 195 true) w = .ok (.tuple #[.pointer none, .bool false]) w := by kernel_rfl
theorem ta_If_Side (a : Option Addr) (w : World) : Sem.run Tryz.prog (Instr.typeAssert (.iface 213 (.pointer a)) 68 199 true) w = .ok (.tuple #[.pointer none, .bool false]) w := by kernel_rfl
theorem ta_If_Bracket (a : Option Addr) (w : World) : Sem.run Tryz.prog (Instr.typeAssert (.iface 213 (.pointer a)) 68 204 true) w = .ok (.tuple #[.pointer none, .bool false]) w := by kernel_rfl
theorem ta_If_Pair (a : Option Addr) (w : World) : Sem.run Tryz.prog (Instr.typeAssert (.iface 213 (.pointer a)) 68 207 true) w = .ok (.tuple #[.pointer none, .bool false]) w := by kernel_rfl
theorem ta_If_Call (a : Option Addr) (w : World) : Sem.run Tryz.prog (Instr.typeAssert (.iface 213 (.pointer a)) 68 209 true) w = .ok (.tuple #[.pointer none, .bool false]) w := by kernel_rfl
theorem ta_If_Binary (a : Option Addr) (w : World) : Sem.run Tryz.prog (Instr.typeAssert (.iface 213 (.pointer a)) 68 211 true) w = .ok (.tuple #[.pointer none, .bool false]) w := by kernel_rfl
theorem ta_If_If (a : Option Addr) (w : World) : Sem.run Tryz.prog (Instr.typeAssert (.iface 213 (.pointer a)) 68 213 true) w = .ok (.tuple #[.pointer a, .bool true]) w := by kernel_rfl
theorem ta_If_Fun (a : Option Addr) (w : World) : Sem.run Tryz.prog (Instr.typeAssert (.iface 213 (.pointer a)) 68 215 true) w = .ok (.tuple #[.pointer none, .bool false]) w := by kernel_rfl
theorem ta_If_Let (a : Option Addr) (w : World) : Sem.run Tryz.prog (Instr.typeAssert (.iface 213 (.pointer a)) 68 136 true) w = .ok (.tuple #[.pointer none, .bool false]) w := by kernel_rfl
theorem ta_Fun_Name (a : Option Addr) (w : World) : Sem.run Tryz.prog (Instr.typeAssert (.iface 215 (.pointer a)) 68 83 true) w = .ok (.tuple #[.pointer none, .bool false]) w := by kernel_rfl
theorem ta_Fun_Int (a : Option Addr) (w : World) : Sem.run Tryz.prog (Instr.typeAssert (.iface 215 (.pointer a)) 68 191 true) w = .ok (.tuple #[.pointer none, .bool false]) w := by kernel_rfl
theorem ta_Fun_Truth (a : Option Addr) (w : World) : Sem.run Tryz.prog (Instr.typeAssert (.iface 215 (.pointer a)) 68 195 true) w = .ok (.tuple #[.pointer none, .bool false]) w := by kernel_rfl
theorem ta_Fun_Side (a : Option Addr) (w : World) : Sem.run Tryz.prog (Instr.typeAssert (.iface 215 (.pointer a)) 68 199 true) w = .ok (.tuple #[.pointer none, .bool false]) w := by kernel_rfl
theorem ta_Fun_Bracket (a : Option Addr) (w : World) : Sem.run Tryz.prog (Instr.typeAssert (.iface 215 (.pointer a)) 68 204 true) w = .ok (.tuple #[.pointer none, .bool false]) w := by kernel_rfl
theorem ta_Fun_Pair (a : Option Addr) (w : World) : Sem.run Tryz.prog (Instr.typeAssert (.iface 215 (.pointer a)) 68 207 true) w = .ok (.tuple #[.pointer none, .bool false]) w := by kernel_rfl
theorem ta_Fun_Call (a : Option Addr) (w : World) : Sem.run Tryz.prog (Instr.typeAssert (.iface 215 (.pointer a)) 68 209 true) w = .ok (.tuple #[.pointer none, .bool false]) w := by kernel_rfl
theorem ta_Fun_Binary (a : Option Addr) (w : World) : Sem.run Tryz.prog (Instr.typeAssert (.iface 215 (.pointer a)) 68 211 true) w = .ok (.tuple #[.pointer none, .bool false]) w := by kernel_rfl
theorem ta_Fun_If (a : Option Addr) (w : World) : Sem.run Tryz.prog (Instr.typeAssert (.iface 215 (.pointer a)) 68 213 true) w = .ok (.tuple #[.pointer none, .bool false]) w := by kernel_rfl
theorem ta_Fun_Fun (a : Option Addr) (w : World) : Sem.run Tryz.prog (Instr.typeAssert (.iface 215 (.pointer a)) 68 215 true) w = .ok (.tuple #[.pointer a, .bool true]) w := by kernel_rfl
theorem ta_Fun_Let (a : Option Addr) (w : World) : Sem.run Tryz.prog (Instr.typeAssert (.iface 215 (.pointer a)) 68 136 true) w = .ok (.tuple #[.pointer none, .bool false]) w := by kernel_rfl
theorem ta_Let_Name (a : Option Addr) (w : World) : Sem.run Tryz.prog (Instr.typeAssert (.iface 136 (.pointer a)) 68 83 true) w = .ok (.tuple #[.pointer none, .bool false]) w := by kernel_rfl
theorem ta_Let_Int (a : Option Addr) (w : World) : Sem.run Tryz.prog (Instr.typeAssert (.iface 136 (.pointer a)) 68 191 true) w = .ok (.tuple #[.pointer none, .bool false]) w := by kernel_rfl
theorem ta_Let_Truth (a : Option Addr) (w : World) : Sem.run Tryz.prog (Instr.typeAssert (.iface 136 (.pointer a)) 68 195 true) w = .ok (.tuple #[.pointer none, .bool false]) w := by kernel_rfl
theorem ta_Let_Side (a : Option Addr) (w : World) : Sem.run Tryz.prog (Instr.typeAssert (.iface 136 (.pointer a)) 68 199 true) w = .ok (.tuple #[.pointer none, .bool false]) w := by kernel_rfl
theorem ta_Let_Bracket (a : Option Addr) (w : World) : Sem.run Tryz.prog (Instr.typeAssert (.iface 136 (.pointer a)) 68 204 true) w = .ok (.tuple #[.pointer none, .bool false]) w := by kernel_rfl
theorem ta_Let_Pair (a : Option Addr) (w : World) : Sem.run Tryz.prog (Instr.typeAssert (.iface 136 (.pointer a)) 68 207 true) w = .ok (.tuple #[.pointer none, .bool false]) w := by kernel_rfl
theorem ta_Let_Call (a : Option Addr) (w : World) : Sem.run Tryz.prog (Instr.typeAssert (.iface 136 (.pointer a)) 68 209 true) w = .ok (.tuple #[.pointer none, .bool false]) w := by kernel_rfl
theorem ta_Let_Binary (a : Option Addr) (w : World) : Sem.run Tryz.prog (Instr.typeAssert (.iface 136 (.pointer a)) 68 211 true) w = .ok (.tuple #[.pointer none, .bool false]) w := by kernel_rfl
theorem ta_Let_If (a : Option Addr) (w : World) : Sem.run Tryz.prog (Instr.typeAssert (.iface 136 (.pointer a)) 68 213 true) w = .ok (.tuple #[.pointer none, .bool false]) w := by kernel_rfl
theorem ta_Let_Fun (a : Option Addr) (w : World) : Sem.run Tryz.prog (Instr.typeAssert (.iface 136 (.pointer a)) 68 215 true) w = .ok (.tuple #[.pointer none, .bool false]) w := by kernel_rfl
theorem ta_Let_Let (a : Option Addr) (w : World) : Sem.run Tryz.prog (Instr.typeAssert (.iface 136 (.pointer a)) 68 136 true) w = .ok (.tuple #[.pointer a, .bool true]) w := by kernel_rfl

end Go.Proofs.YtckhafpejefbbaaGreatDoor

/- Package types: infer, case by case. -/
namespace Go.Proofs.YtckhafpejefbbaaGreatDoor
open Go.RowKit

def IPost (bs : Nat) (w : World) (r : Nat) (st' : Tw.SS) (e : Ending) (w' : World) : Prop := e = .returned (.int .i64 r) ∧ SK bs w w' ∧ Sol w' bs st'

def InferSaid (n : Nat) : Prop := ∀ {w : World} {bs hi : Nat} {st st' : Tw.SS} {t : Tw.T} {e : Tw.En} {tv ev : Value} {r : Nat}, Sol w bs st → Rep w 0 hi t tv → EnvAt w hi e ev → Tw.inferS n t e st = some (r, st') →
    Calls Tryz.prog 53 #[.pointer (some ⟨bs, 0, none⟩), tv, ev] w (IPost bs w r st')

def DefSaid (n : Nat) : Prop := ∀ {w : World} {bs hi bl : Nat} {st st' : Tw.SS} {t : Tw.T} {e : Tw.En} {ev : Value} {r : Nat}, Sol w bs st → Rep w 0 hi t (.iface 136 (.pointer (some ⟨bl, 0, none⟩))) → EnvAt w hi e ev → Tw.defS n t e st = some (r, st') →
    Calls Tryz.prog 105 #[.pointer (some ⟨bs, 0, none⟩), .pointer (some ⟨bl, 0, none⟩), ev] w (IPost bs w r st')

set_option maxRecDepth 100000 in
set_option maxHeartbeats 2000000 in
theorem infer_Int {w : World} {bs b : Nat} {st : Tw.SS} (h : Sol w bs st) {hi : Nat} {e : Tw.En} {ev : Value} (he : EnvAt w hi e ev) :
    Calls Tryz.prog 53 #[.pointer (some ⟨bs, 0, none⟩), .iface 191 (.pointer (some ⟨b, 0, none⟩)), ev] w (IPost bs w 0 st) := by
  have HH : Hid (Sol w bs st) := h
  obtain ⟨a, rfl⟩ := he.ptr
  have q0 := ta_Int_Name
  have q1 := ta_Int_Truth
  have q2 := ta_Int_Side
  have q3 := ta_Int_Bracket
  have q4 := ta_Int_Pair
  have q5 := ta_Int_Call
  have q6 := ta_Int_Binary
  have q7 := ta_Int_If
  have q8 := ta_Int_Fun
  have q9 := ta_Int_Let
  clear h he
  go_enter Tryz.func53, Tryz.ntmps53
  go_wp2_with fail
  go_ret
  exact ⟨rfl, SK.refl _ _, HH.out⟩

set_option maxRecDepth 100000 in
set_option maxHeartbeats 2000000 in
theorem infer_Truth {w : World} {bs b : Nat} {st : Tw.SS} (h : Sol w bs st) {hi : Nat} {e : Tw.En} {ev : Value} (he : EnvAt w hi e ev) :
    Calls Tryz.prog 53 #[.pointer (some ⟨bs, 0, none⟩), .iface 195 (.pointer (some ⟨b, 0, none⟩)), ev] w (IPost bs w 1 st) := by
  have HH : Hid (Sol w bs st) := h
  obtain ⟨a, rfl⟩ := he.ptr
  have q0 := ta_Truth_Name
  have q1 := ta_Truth_Truth
  have q2 := ta_Truth_Side
  have q3 := ta_Truth_Bracket
  have q4 := ta_Truth_Pair
  have q5 := ta_Truth_Call
  have q6 := ta_Truth_Binary
  have q7 := ta_Truth_If
  have q8 := ta_Truth_Fun
  have q9 := ta_Truth_Let
  clear h he
  go_enter Tryz.func53, Tryz.ntmps53
  go_wp2_with fail
  go_ret
  exact ⟨rfl, SK.refl _ _, HH.out⟩

set_option maxRecDepth 100000 in
set_option maxHeartbeats 1000000 in
theorem name_any {n : Nat} (hD : DefSaid n) {w : World} {bs hi b : Nat} {st st' : Tw.SS} {e : Tw.En} {ev : Value} {x : List UInt8} {fr to r : Nat} (h : Sol w bs st)
    (hb : w.heap[b]? = some (.cells #[.int .i64 fr, .int .i64 to, bytesV x] 87 (0, 0))) (he : EnvAt w hi e ev) (hf : Tw.inferS (n + 1) (.name fr to x) e st = some (r, st')) :
    Calls Tryz.prog 98 #[.pointer (some ⟨bs, 0, none⟩), .pointer (some ⟨b, 0, none⟩), ev] w (IPost bs w r st') := by
  have HH : Hid (Sol w bs st) := h
  have HE : Hid (EnvAt w hi e ev) := he
  obtain ⟨c0, c1, c2, _⟩ := three_cells hb
  rw [Tw.inferS] at hf
  obtain ⟨a, rfl⟩ := he.ptr
  clear h he hb c0 c1
  cases hl : e.look x with
  | none => rw [hl] at hf; simp at hf
  | some m =>
  rw [hl] at hf
  have HL : Hid (e.look x = some m) := hl
  clear hl
  rcases m with r0 | ⟨t, o⟩
  · simp only [Option.some.injEq, Prod.mk.injEq] at hf
    obtain ⟨rfl, rfl⟩ := hf
    go_enter Tryz.func98, Tryz.ntmps98
    go_wp2_with fail
    refine (find_env HE.out x HL.out).mono ?_
    rintro e1 w1 ⟨hg, po, rfl⟩
    have G1 : Hid (w.grownBy w1 none) := hg
    clear hg
    go_wp2_with fail
    go_ret
    exact ⟨rfl, SK.of_none (grown_alloc G1.out _), HH.out.grown (grown_alloc G1.out _)⟩
  · have HF : Hid (Tw.defS n t o st = some (r, st')) := hf
    clear hf
    go_enter Tryz.func98, Tryz.ntmps98
    go_wp2_with fail
    refine (find_env HE.out x HL.out).mono ?_
    rintro e1 w1 ⟨hg, bl, po, rfl, ho, hr⟩
    have G1 : Hid (w.grownBy w1 none) := hg
    have HO : Hid (EnvAt w hi o (.pointer po)) := ho
    have HR : Hid (Rep w 0 hi t (.iface 136 (.pointer (some ⟨bl, 0, none⟩)))) := hr
    clear hg ho hr
    go_wp2_with fail
    refine (hD (HH.out.grown (grown_alloc G1.out _)) (HR.out.grown (grown_alloc G1.out _) (Nat.le_refl _) (Nat.le_refl _)) (HO.out.grown (grown_alloc G1.out _)) HF.out).mono ?_
    rintro e2 w2 ⟨rfl, hk, hs⟩
    have X : Hid (SK bs w w2 ∧ Sol w2 bs st') := ⟨(SK.of_none (grown_alloc G1.out _)).trans hk, hs⟩
    clear hk hs
    go_wp2_with fail
    go_ret
    exact ⟨rfl, X.out⟩

set_option maxRecDepth 100000 in
set_option maxHeartbeats 2000000 in
theorem infer_Name {w : World} {bs b : Nat} {st' : Tw.SS} {r : Nat} {hi : Nat} {e : Tw.En} {ev : Value} (he : EnvAt w hi e ev) (hX : Calls Tryz.prog 98 #[.pointer (some ⟨bs, 0, none⟩), .pointer (some ⟨b, 0, none⟩), ev] w (IPost bs w r st')) :
    Calls Tryz.prog 53 #[.pointer (some ⟨bs, 0, none⟩), .iface 83 (.pointer (some ⟨b, 0, none⟩)), ev] w (IPost bs w r st') := by
  obtain ⟨a, rfl⟩ := he.ptr
  have HX := hide hX
  have q0 := ta_Name_Name
  have q1 := ta_Name_Truth
  have q2 := ta_Name_Side
  have q3 := ta_Name_Bracket
  have q4 := ta_Name_Pair
  have q5 := ta_Name_Call
  have q6 := ta_Name_Binary
  have q7 := ta_Name_If
  have q8 := ta_Name_Fun
  have q9 := ta_Name_Let
  clear he hX
  go_enter Tryz.func53, Tryz.ntmps53
  go_wp2_with fail
  refine (unhide HX).mono ?_
  rintro e1 w1 ⟨rfl, hk, hs⟩
  have X : Hid (SK bs w w1 ∧ Sol w1 bs st') := ⟨hk, hs⟩
  clear hk hs
  go_wp2_with fail
  go_ret
  exact ⟨rfl, X.out⟩

set_option maxRecDepth 100000 in
set_option maxHeartbeats 2000000 in
theorem infer_Call {w : World} {bs b : Nat} {st' : Tw.SS} {r : Nat} {hi : Nat} {e : Tw.En} {ev : Value} (he : EnvAt w hi e ev) (hX : Calls Tryz.prog 100 #[.pointer (some ⟨bs, 0, none⟩), .pointer (some ⟨b, 0, none⟩), ev] w (IPost bs w r st')) :
    Calls Tryz.prog 53 #[.pointer (some ⟨bs, 0, none⟩), .iface 209 (.pointer (some ⟨b, 0, none⟩)), ev] w (IPost bs w r st') := by
  obtain ⟨a, rfl⟩ := he.ptr
  have HX := hide hX
  have q0 := ta_Call_Name
  have q1 := ta_Call_Truth
  have q2 := ta_Call_Side
  have q3 := ta_Call_Bracket
  have q4 := ta_Call_Pair
  have q5 := ta_Call_Call
  have q6 := ta_Call_Binary
  have q7 := ta_Call_If
  have q8 := ta_Call_Fun
  have q9 := ta_Call_Let
  clear he hX
  go_enter Tryz.func53, Tryz.ntmps53
  go_wp2_with fail
  refine (unhide HX).mono ?_
  rintro e1 w1 ⟨rfl, hk, hs⟩
  have X : Hid (SK bs w w1 ∧ Sol w1 bs st') := ⟨hk, hs⟩
  clear hk hs
  go_wp2_with fail
  go_ret
  exact ⟨rfl, X.out⟩

set_option maxRecDepth 100000 in
set_option maxHeartbeats 2000000 in
theorem infer_Binary {w : World} {bs b : Nat} {st' : Tw.SS} {r : Nat} {hi : Nat} {e : Tw.En} {ev : Value} (he : EnvAt w hi e ev) (hX : Calls Tryz.prog 101 #[.pointer (some ⟨bs, 0, none⟩), .pointer (some ⟨b, 0, none⟩), ev] w (IPost bs w r st')) :
    Calls Tryz.prog 53 #[.pointer (some ⟨bs, 0, none⟩), .iface 211 (.pointer (some ⟨b, 0, none⟩)), ev] w (IPost bs w r st') := by
  obtain ⟨a, rfl⟩ := he.ptr
  have HX := hide hX
  have q0 := ta_Binary_Name
  have q1 := ta_Binary_Truth
  have q2 := ta_Binary_Side
  have q3 := ta_Binary_Bracket
  have q4 := ta_Binary_Pair
  have q5 := ta_Binary_Call
  have q6 := ta_Binary_Binary
  have q7 := ta_Binary_If
  have q8 := ta_Binary_Fun
  have q9 := ta_Binary_Let
  clear he hX
  go_enter Tryz.func53, Tryz.ntmps53
  go_wp2_with fail
  refine (unhide HX).mono ?_
  rintro e1 w1 ⟨rfl, hk, hs⟩
  have X : Hid (SK bs w w1 ∧ Sol w1 bs st') := ⟨hk, hs⟩
  clear hk hs
  go_wp2_with fail
  go_ret
  exact ⟨rfl, X.out⟩

set_option maxRecDepth 100000 in
set_option maxHeartbeats 2000000 in
theorem infer_If {w : World} {bs b : Nat} {st' : Tw.SS} {r : Nat} {hi : Nat} {e : Tw.En} {ev : Value} (he : EnvAt w hi e ev) (hX : Calls Tryz.prog 102 #[.pointer (some ⟨bs, 0, none⟩), .pointer (some ⟨b, 0, none⟩), ev] w (IPost bs w r st')) :
    Calls Tryz.prog 53 #[.pointer (some ⟨bs, 0, none⟩), .iface 213 (.pointer (some ⟨b, 0, none⟩)), ev] w (IPost bs w r st') := by
  obtain ⟨a, rfl⟩ := he.ptr
  have HX := hide hX
  have q0 := ta_If_Name
  have q1 := ta_If_Truth
  have q2 := ta_If_Side
  have q3 := ta_If_Bracket
  have q4 := ta_If_Pair
  have q5 := ta_If_Call
  have q6 := ta_If_Binary
  have q7 := ta_If_If
  have q8 := ta_If_Fun
  have q9 := ta_If_Let
  clear he hX
  go_enter Tryz.func53, Tryz.ntmps53
  go_wp2_with fail
  refine (unhide HX).mono ?_
  rintro e1 w1 ⟨rfl, hk, hs⟩
  have X : Hid (SK bs w w1 ∧ Sol w1 bs st') := ⟨hk, hs⟩
  clear hk hs
  go_wp2_with fail
  go_ret
  exact ⟨rfl, X.out⟩

set_option maxRecDepth 100000 in
set_option maxHeartbeats 2000000 in
theorem infer_Side {w : World} {bs b : Nat} {st' : Tw.SS} {r : Nat} {hi : Nat} {e : Tw.En} {ev : Value} (he : EnvAt w hi e ev) (hX : Calls Tryz.prog 99 #[.pointer (some ⟨bs, 0, none⟩), .pointer (some ⟨b, 0, none⟩)] w (IPost bs w r st')) :
    Calls Tryz.prog 53 #[.pointer (some ⟨bs, 0, none⟩), .iface 199 (.pointer (some ⟨b, 0, none⟩)), ev] w (IPost bs w r st') := by
  obtain ⟨a, rfl⟩ := he.ptr
  have HX := hide hX
  have q0 := ta_Side_Name
  have q1 := ta_Side_Truth
  have q2 := ta_Side_Side
  have q3 := ta_Side_Bracket
  have q4 := ta_Side_Pair
  have q5 := ta_Side_Call
  have q6 := ta_Side_Binary
  have q7 := ta_Side_If
  have q8 := ta_Side_Fun
  have q9 := ta_Side_Let
  clear he hX
  go_enter Tryz.func53, Tryz.ntmps53
  go_wp2_with fail
  refine (unhide HX).mono ?_
  rintro e1 w1 ⟨rfl, hk, hs⟩
  have X : Hid (SK bs w w1 ∧ Sol w1 bs st') := ⟨hk, hs⟩
  clear hk hs
  go_wp2_with fail
  go_ret
  exact ⟨rfl, X.out⟩

end Go.Proofs.YtckhafpejefbbaaGreatDoor

/- Package types: side, call, binary, choice. -/
namespace Go.Proofs.YtckhafpejefbbaaGreatDoor
open Go.RowKit

set_option maxRecDepth 100000 in
set_option maxHeartbeats 2000000 in
theorem side_any {w : World} {bs b : Nat} {st st' : Tw.SS} {sec : Bool} {fr to n r : Nat} {e : Tw.En} (h : Sol w bs st)
    (hb : w.heap[b]? = some (.cells #[.int .i64 fr, .int .i64 to, .bool sec] 201 (0, 0))) (hf : Tw.inferS (n + 1) (.side fr to sec) e st = some (r, st')) :
    Calls Tryz.prog 99 #[.pointer (some ⟨bs, 0, none⟩), .pointer (some ⟨b, 0, none⟩)] w (IPost bs w r st') := by
  rw [Tw.inferS] at hf
  obtain ⟨⟨a, st1⟩, h1, hf1⟩ := Option.bind_eq_some_iff.1 hf
  obtain ⟨⟨c, st2⟩, h2, hf2⟩ := Option.bind_eq_some_iff.1 hf1
  obtain ⟨⟨p, st3⟩, h3, h4⟩ := Option.bind_eq_some_iff.1 hf2
  simp only at h2 h3 h4
  have HH : Hid (Sol w bs st) := h
  have H1 : Hid (Tw.addS 0 0 0 st = some (a, st1)) := h1
  have H2 : Hid (Tw.addS 0 0 0 st1 = some (c, st2)) := h2
  have H3 : Hid (Tw.addS 4 a c st2 = some (p, st3)) := h3
  have HB : Hid (w.heap[b]? = some (.cells #[.int .i64 fr, .int .i64 to, .bool sec] 201 (0, 0))) := hb
  have H4 := hide h4
  clear hf hf1 hf2 h1 h2 h3 h4 h hb
  have keep : ∀ (w w' : World) (st : Tw.SS), Sol w bs st → SK bs w w' → w.heap[b]? = some (.cells #[.int .i64 fr, .int .i64 to, .bool sec] 201 (0, 0)) → w'.heap[b]? = some (.cells #[.int .i64 fr, .int .i64 to, .bool sec] 201 (0, 0)) := by
    rintro w w' st ⟨g, cap, cur, hR⟩ hk hb
    refine hk.at hb (fun e => ?_) (fun cur m e => ?_)
    · subst e; rw [hR.solver] at hb; simp at hb
    · simp at e
  have KE := hide keep
  clear keep
  cases sec
  all_goals
    simp only [Bool.false_eq_true, if_false, if_true] at H4
    go_enter Tryz.func99, Tryz.ntmps99
    go_wp2_with fail
    refine (fresh_sol HH.out H1.out).mono ?_
    rintro e1 w1 ⟨rfl, hk, hs⟩
    have S1 : Hid (Sol w1 bs st1) := hs
    have K1 : Hid (SK bs w w1) := hk
    have B1 : Hid (w1.heap[b]? = _) := unhide KE _ _ _ HH.out hk HB.out
    clear hk hs
    go_wp2_with fail
    refine (fresh_sol S1.out H2.out).mono ?_
    rintro e1 w2 ⟨rfl, hk, hs⟩
    have S2 : Hid (Sol w2 bs st2) := hs
    have K2 : Hid (SK bs w w2) := K1.out.trans hk
    have B2 : Hid (w2.heap[b]? = _) := unhide KE _ _ _ S1.out hk B1.out
    obtain ⟨_, _, d2, _⟩ := three_cells B2.out
    clear hk hs
    go_wp2_with fail
    refine (add_sol S2.out 4 a c H3.out).mono ?_
    rintro e1 w3 ⟨rfl, hk, hs⟩
    have S3 : Hid (Sol w3 bs st3) := hs
    have K3 : Hid (SK bs w w3) := K2.out.trans hk
    clear hk hs
    go_wp2_with fail
    refine (add_sol S3.out 3 p _ (unhide H4)).mono ?_
    rintro e1 w4 ⟨rfl, hk, hs⟩
    have X : Hid (SK bs w w4 ∧ Sol w4 bs st') := ⟨K3.out.trans hk, hs⟩
    clear hk hs
    go_wp2_with fail
    go_ret
    exact ⟨rfl, X.out⟩

end Go.Proofs.YtckhafpejefbbaaGreatDoor

/- Package types: call, binary, choice. -/
namespace Go.Proofs.YtckhafpejefbbaaGreatDoor
open Go.RowKit

theorem blk_sk {bs b : Nat} {w w' : World} {st : Tw.SS} {cur : Array Value} {ty : TypeId} {x : Int} (hS : Sol w bs st) (hk : SK bs w w') (hb : w.heap[b]? = some (.cells cur ty (0, 0))) (h1 : cur[0]? = some (.int .i64 x)) (h2 : ty ≠ 334) : w'.heap[b]? = some (.cells cur ty (0, 0)) := by
  obtain ⟨g, cap, cur0, hR⟩ := hS
  refine hk.at hb (fun e => ?_) (fun cur m e => ?_)
  · subst e
    rw [hR.solver] at hb
    simp at hb
    rw [← hb.1] at h1
    simp at h1
  · simp at e
    exact h2 e.2.1

set_option maxRecDepth 100000 in
set_option maxHeartbeats 2000000 in
theorem call_any {n : Nat} (hI : InferSaid n) {w : World} {bs hi b : Nat} {st st' : Tw.SS} {e : Tw.En} {ev : Value} {f : Tw.T} {a : Tw.T} {v1 : Value} {v2 : Value} {fr to r : Nat} (h : Sol w bs st)
    (hb : w.heap[b]? = some (.cells #[.int .i64 fr, .int .i64 to, v1, v2] 319 (0, 0))) (r0 : Rep w 0 hi f v1) (r1 : Rep w 0 hi a v2) (he : EnvAt w hi e ev) (hf : Tw.inferS (n + 1) (.call fr to f a) e st = some (r, st')) :
    Calls Tryz.prog 100 #[.pointer (some ⟨bs, 0, none⟩), .pointer (some ⟨b, 0, none⟩), ev] w (IPost bs w r st') := by
  rw [Tw.inferS] at hf
  obtain ⟨⟨x1, st1⟩, h1, hf1⟩ := Option.bind_eq_some_iff.1 hf
  obtain ⟨⟨x2, st2⟩, h2, hf2⟩ := Option.bind_eq_some_iff.1 hf1
  obtain ⟨⟨x3, st3⟩, h3, hf3⟩ := Option.bind_eq_some_iff.1 hf2
  obtain ⟨⟨x4, st4⟩, h4, hf4⟩ := Option.bind_eq_some_iff.1 hf3
  obtain ⟨st5, h5, hf5⟩ := Option.bind_eq_some_iff.1 hf4
  simp only at h2 h3 h4 h5
  simp only [Option.some.injEq, Prod.mk.injEq] at hf5
  obtain ⟨rfl, rfl⟩ := hf5
  have S0 : Hid (Sol w bs st) := h
  have E0 : Hid (EnvAt w hi e ev) := he
  have B0 : Hid (w.heap[b]? = some (.cells #[.int .i64 fr, .int .i64 to, v1, v2] 319 (0, 0))) := hb
  have R0f : Hid (Rep w 0 hi f v1) := r0
  have R0a : Hid (Rep w 0 hi a v2) := r1
  have H1 := hide h1
  have H2 := hide h2
  have H3 := hide h3
  have H4 := hide h4
  have H5 := hide h5
  obtain ⟨T0, n0, rfl⟩ := r0.iface
  obtain ⟨T1, n1, rfl⟩ := r1.iface
  obtain ⟨ea, rfl⟩ := he.ptr
  have K0 : Hid (SK bs w w) := SK.refl _ _
  have c0 : w.cell? ⟨b, 2, none⟩ = some (.iface T0 (.pointer (some ⟨n0, 0, none⟩))) := by rw [cell_of_row _ _ _ _ _ _ B0.out]; rfl
  have c1 : w.cell? ⟨b, 3, none⟩ = some (.iface T1 (.pointer (some ⟨n1, 0, none⟩))) := by rw [cell_of_row _ _ _ _ _ _ B0.out]; rfl
  clear h he hb r0 r1 hf h1 h2 h3 h4 h5 hf1 hf2 hf3 hf4
  go_enter Tryz.func100, Tryz.ntmps100
  go_wp2_with fail
  refine (hI S0.out R0f.out E0.out (unhide H1)).mono ?_
  rintro e1 w1 ⟨rfl, hk, hs⟩
  have S1 : Hid (Sol w1 bs st1) := hs
  have K1 : Hid (SK bs w w1) := K0.out.trans hk
  have E1 : Hid (EnvAt w1 hi e (.pointer ea)) := EnvAt.sk S0.out hk E0.out
  have B1 := hide (blk_sk S0.out hk B0.out rfl (by decide))
  have R1f := hide (Rep.sk S0.out hk R0f.out)
  have R1a := hide (Rep.sk S0.out hk R0a.out)
  clear c0 c1
  have c0 : w1.cell? ⟨b, 2, none⟩ = some (.iface T0 (.pointer (some ⟨n0, 0, none⟩))) := by rw [cell_of_row _ _ _ _ _ _ B1.out]; rfl
  have c1 : w1.cell? ⟨b, 3, none⟩ = some (.iface T1 (.pointer (some ⟨n1, 0, none⟩))) := by rw [cell_of_row _ _ _ _ _ _ B1.out]; rfl
  clear hk hs
  go_wp2_with fail
  refine (hI S1.out R1a.out E1.out (unhide H2)).mono ?_
  rintro e1 w2 ⟨rfl, hk, hs⟩
  have S2 : Hid (Sol w2 bs st2) := hs
  have K2 : Hid (SK bs w w2) := K1.out.trans hk
  have E2 : Hid (EnvAt w2 hi e (.pointer ea)) := EnvAt.sk S1.out hk E1.out
  have B2 := hide (blk_sk S1.out hk B1.out rfl (by decide))
  have R2f := hide (Rep.sk S1.out hk R1f.out)
  have R2a := hide (Rep.sk S1.out hk R1a.out)
  clear c0 c1
  have c0 : w2.cell? ⟨b, 2, none⟩ = some (.iface T0 (.pointer (some ⟨n0, 0, none⟩))) := by rw [cell_of_row _ _ _ _ _ _ B2.out]; rfl
  have c1 : w2.cell? ⟨b, 3, none⟩ = some (.iface T1 (.pointer (some ⟨n1, 0, none⟩))) := by rw [cell_of_row _ _ _ _ _ _ B2.out]; rfl
  clear hk hs
  go_wp2_with fail
  refine (fresh_sol S2.out (unhide H3)).mono ?_
  rintro e1 w3 ⟨rfl, hk, hs⟩
  have S3 : Hid (Sol w3 bs st3) := hs
  have K3 : Hid (SK bs w w3) := K2.out.trans hk
  have E3 : Hid (EnvAt w3 hi e (.pointer ea)) := EnvAt.sk S2.out hk E2.out
  have B3 := hide (blk_sk S2.out hk B2.out rfl (by decide))
  have R3f := hide (Rep.sk S2.out hk R2f.out)
  have R3a := hide (Rep.sk S2.out hk R2a.out)
  clear c0 c1
  have c0 : w3.cell? ⟨b, 2, none⟩ = some (.iface T0 (.pointer (some ⟨n0, 0, none⟩))) := by rw [cell_of_row _ _ _ _ _ _ B3.out]; rfl
  have c1 : w3.cell? ⟨b, 3, none⟩ = some (.iface T1 (.pointer (some ⟨n1, 0, none⟩))) := by rw [cell_of_row _ _ _ _ _ _ B3.out]; rfl
  clear hk hs
  go_wp2_with fail
  refine (add_sol S3.out 3 x2 x3 (unhide H4)).mono ?_
  rintro e1 w4 ⟨rfl, hk, hs⟩
  have S4 : Hid (Sol w4 bs st4) := hs
  have K4 : Hid (SK bs w w4) := K3.out.trans hk
  have E4 : Hid (EnvAt w4 hi e (.pointer ea)) := EnvAt.sk S3.out hk E3.out
  have B4 := hide (blk_sk S3.out hk B3.out rfl (by decide))
  have R4f := hide (Rep.sk S3.out hk R3f.out)
  have R4a := hide (Rep.sk S3.out hk R3a.out)
  clear c0 c1
  have c0 : w4.cell? ⟨b, 2, none⟩ = some (.iface T0 (.pointer (some ⟨n0, 0, none⟩))) := by rw [cell_of_row _ _ _ _ _ _ B4.out]; rfl
  have c1 : w4.cell? ⟨b, 3, none⟩ = some (.iface T1 (.pointer (some ⟨n1, 0, none⟩))) := by rw [cell_of_row _ _ _ _ _ _ B4.out]; rfl
  clear hk hs
  go_wp2_with fail
  refine (unify_sol S4.out (unhide H5)).mono ?_
  rintro e1 w5 ⟨rfl, hk, hs⟩
  have S5 : Hid (Sol w5 bs st5) := hs
  have K5 : Hid (SK bs w w5) := K4.out.trans hk
  have E5 : Hid (EnvAt w5 hi e (.pointer ea)) := EnvAt.sk S4.out hk E4.out
  have B5 := hide (blk_sk S4.out hk B4.out rfl (by decide))
  have R5f := hide (Rep.sk S4.out hk R4f.out)
  have R5a := hide (Rep.sk S4.out hk R4a.out)
  clear c0 c1
  have c0 : w5.cell? ⟨b, 2, none⟩ = some (.iface T0 (.pointer (some ⟨n0, 0, none⟩))) := by rw [cell_of_row _ _ _ _ _ _ B5.out]; rfl
  have c1 : w5.cell? ⟨b, 3, none⟩ = some (.iface T1 (.pointer (some ⟨n1, 0, none⟩))) := by rw [cell_of_row _ _ _ _ _ _ B5.out]; rfl
  clear hk hs
  go_wp2_with fail
  go_ret
  exact ⟨rfl, K5.out, S5.out⟩

set_option maxRecDepth 100000 in
set_option maxHeartbeats 2000000 in
theorem choice_any {n : Nat} (hI : InferSaid n) {w : World} {bs hi b : Nat} {st st' : Tw.SS} {e : Tw.En} {ev : Value} {c : Tw.T} {t : Tw.T} {f : Tw.T} {v1 : Value} {v2 : Value} {v3 : Value} {fr to r : Nat} (h : Sol w bs st)
    (hb : w.heap[b]? = some (.cells #[.int .i64 fr, .int .i64 to, v1, v2, v3] 326 (0, 0))) (r0 : Rep w 0 hi c v1) (r1 : Rep w 0 hi t v2) (r2 : Rep w 0 hi f v3) (he : EnvAt w hi e ev) (hf : Tw.inferS (n + 1) (.cond fr to c t f) e st = some (r, st')) :
    Calls Tryz.prog 102 #[.pointer (some ⟨bs, 0, none⟩), .pointer (some ⟨b, 0, none⟩), ev] w (IPost bs w r st') := by
  rw [Tw.inferS] at hf
  obtain ⟨⟨x1, st1⟩, h1, hf1⟩ := Option.bind_eq_some_iff.1 hf
  obtain ⟨st2, h2, hf2⟩ := Option.bind_eq_some_iff.1 hf1
  obtain ⟨⟨x3, st3⟩, h3, hf3⟩ := Option.bind_eq_some_iff.1 hf2
  obtain ⟨⟨x4, st4⟩, h4, hf4⟩ := Option.bind_eq_some_iff.1 hf3
  obtain ⟨st5, h5, hf5⟩ := Option.bind_eq_some_iff.1 hf4
  simp only at h2 h3 h4 h5
  simp only [Option.some.injEq, Prod.mk.injEq] at hf5
  obtain ⟨rfl, rfl⟩ := hf5
  have S0 : Hid (Sol w bs st) := h
  have E0 : Hid (EnvAt w hi e ev) := he
  have B0 : Hid (w.heap[b]? = some (.cells #[.int .i64 fr, .int .i64 to, v1, v2, v3] 326 (0, 0))) := hb
  have R0c : Hid (Rep w 0 hi c v1) := r0
  have R0t : Hid (Rep w 0 hi t v2) := r1
  have R0f : Hid (Rep w 0 hi f v3) := r2
  have H1 := hide h1
  have H2 := hide h2
  have H3 := hide h3
  have H4 := hide h4
  have H5 := hide h5
  obtain ⟨T0, n0, rfl⟩ := r0.iface
  obtain ⟨T1, n1, rfl⟩ := r1.iface
  obtain ⟨T2, n2, rfl⟩ := r2.iface
  obtain ⟨ea, rfl⟩ := he.ptr
  have K0 : Hid (SK bs w w) := SK.refl _ _
  have c0 : w.cell? ⟨b, 2, none⟩ = some (.iface T0 (.pointer (some ⟨n0, 0, none⟩))) := by rw [cell_of_row _ _ _ _ _ _ B0.out]; rfl
  have c1 : w.cell? ⟨b, 3, none⟩ = some (.iface T1 (.pointer (some ⟨n1, 0, none⟩))) := by rw [cell_of_row _ _ _ _ _ _ B0.out]; rfl
  have c2 : w.cell? ⟨b, 4, none⟩ = some (.iface T2 (.pointer (some ⟨n2, 0, none⟩))) := by rw [cell_of_row _ _ _ _ _ _ B0.out]; rfl
  clear h he hb r0 r1 r2 hf h1 h2 h3 h4 h5 hf1 hf2 hf3 hf4
  go_enter Tryz.func102, Tryz.ntmps102
  go_wp2_with fail
  refine (hI S0.out R0c.out E0.out (unhide H1)).mono ?_
  rintro e1 w1 ⟨rfl, hk, hs⟩
  have S1 : Hid (Sol w1 bs st1) := hs
  have K1 : Hid (SK bs w w1) := K0.out.trans hk
  have E1 : Hid (EnvAt w1 hi e (.pointer ea)) := EnvAt.sk S0.out hk E0.out
  have B1 := hide (blk_sk S0.out hk B0.out rfl (by decide))
  have R1c := hide (Rep.sk S0.out hk R0c.out)
  have R1t := hide (Rep.sk S0.out hk R0t.out)
  have R1f := hide (Rep.sk S0.out hk R0f.out)
  clear c0 c1 c2
  have c0 : w1.cell? ⟨b, 2, none⟩ = some (.iface T0 (.pointer (some ⟨n0, 0, none⟩))) := by rw [cell_of_row _ _ _ _ _ _ B1.out]; rfl
  have c1 : w1.cell? ⟨b, 3, none⟩ = some (.iface T1 (.pointer (some ⟨n1, 0, none⟩))) := by rw [cell_of_row _ _ _ _ _ _ B1.out]; rfl
  have c2 : w1.cell? ⟨b, 4, none⟩ = some (.iface T2 (.pointer (some ⟨n2, 0, none⟩))) := by rw [cell_of_row _ _ _ _ _ _ B1.out]; rfl
  clear hk hs
  go_wp2_with fail
  refine (unify_sol S1.out (unhide H2)).mono ?_
  rintro e1 w2 ⟨rfl, hk, hs⟩
  have S2 : Hid (Sol w2 bs st2) := hs
  have K2 : Hid (SK bs w w2) := K1.out.trans hk
  have E2 : Hid (EnvAt w2 hi e (.pointer ea)) := EnvAt.sk S1.out hk E1.out
  have B2 := hide (blk_sk S1.out hk B1.out rfl (by decide))
  have R2c := hide (Rep.sk S1.out hk R1c.out)
  have R2t := hide (Rep.sk S1.out hk R1t.out)
  have R2f := hide (Rep.sk S1.out hk R1f.out)
  clear c0 c1 c2
  have c0 : w2.cell? ⟨b, 2, none⟩ = some (.iface T0 (.pointer (some ⟨n0, 0, none⟩))) := by rw [cell_of_row _ _ _ _ _ _ B2.out]; rfl
  have c1 : w2.cell? ⟨b, 3, none⟩ = some (.iface T1 (.pointer (some ⟨n1, 0, none⟩))) := by rw [cell_of_row _ _ _ _ _ _ B2.out]; rfl
  have c2 : w2.cell? ⟨b, 4, none⟩ = some (.iface T2 (.pointer (some ⟨n2, 0, none⟩))) := by rw [cell_of_row _ _ _ _ _ _ B2.out]; rfl
  clear hk hs
  go_wp2_with fail
  refine (hI S2.out R2t.out E2.out (unhide H3)).mono ?_
  rintro e1 w3 ⟨rfl, hk, hs⟩
  have S3 : Hid (Sol w3 bs st3) := hs
  have K3 : Hid (SK bs w w3) := K2.out.trans hk
  have E3 : Hid (EnvAt w3 hi e (.pointer ea)) := EnvAt.sk S2.out hk E2.out
  have B3 := hide (blk_sk S2.out hk B2.out rfl (by decide))
  have R3c := hide (Rep.sk S2.out hk R2c.out)
  have R3t := hide (Rep.sk S2.out hk R2t.out)
  have R3f := hide (Rep.sk S2.out hk R2f.out)
  clear c0 c1 c2
  have c0 : w3.cell? ⟨b, 2, none⟩ = some (.iface T0 (.pointer (some ⟨n0, 0, none⟩))) := by rw [cell_of_row _ _ _ _ _ _ B3.out]; rfl
  have c1 : w3.cell? ⟨b, 3, none⟩ = some (.iface T1 (.pointer (some ⟨n1, 0, none⟩))) := by rw [cell_of_row _ _ _ _ _ _ B3.out]; rfl
  have c2 : w3.cell? ⟨b, 4, none⟩ = some (.iface T2 (.pointer (some ⟨n2, 0, none⟩))) := by rw [cell_of_row _ _ _ _ _ _ B3.out]; rfl
  clear hk hs
  go_wp2_with fail
  refine (hI S3.out R3f.out E3.out (unhide H4)).mono ?_
  rintro e1 w4 ⟨rfl, hk, hs⟩
  have S4 : Hid (Sol w4 bs st4) := hs
  have K4 : Hid (SK bs w w4) := K3.out.trans hk
  have E4 : Hid (EnvAt w4 hi e (.pointer ea)) := EnvAt.sk S3.out hk E3.out
  have B4 := hide (blk_sk S3.out hk B3.out rfl (by decide))
  have R4c := hide (Rep.sk S3.out hk R3c.out)
  have R4t := hide (Rep.sk S3.out hk R3t.out)
  have R4f := hide (Rep.sk S3.out hk R3f.out)
  clear c0 c1 c2
  have c0 : w4.cell? ⟨b, 2, none⟩ = some (.iface T0 (.pointer (some ⟨n0, 0, none⟩))) := by rw [cell_of_row _ _ _ _ _ _ B4.out]; rfl
  have c1 : w4.cell? ⟨b, 3, none⟩ = some (.iface T1 (.pointer (some ⟨n1, 0, none⟩))) := by rw [cell_of_row _ _ _ _ _ _ B4.out]; rfl
  have c2 : w4.cell? ⟨b, 4, none⟩ = some (.iface T2 (.pointer (some ⟨n2, 0, none⟩))) := by rw [cell_of_row _ _ _ _ _ _ B4.out]; rfl
  clear hk hs
  go_wp2_with fail
  refine (unify_sol S4.out (unhide H5)).mono ?_
  rintro e1 w5 ⟨rfl, hk, hs⟩
  have S5 : Hid (Sol w5 bs st5) := hs
  have K5 : Hid (SK bs w w5) := K4.out.trans hk
  have E5 : Hid (EnvAt w5 hi e (.pointer ea)) := EnvAt.sk S4.out hk E4.out
  have B5 := hide (blk_sk S4.out hk B4.out rfl (by decide))
  have R5c := hide (Rep.sk S4.out hk R4c.out)
  have R5t := hide (Rep.sk S4.out hk R4t.out)
  have R5f := hide (Rep.sk S4.out hk R4f.out)
  clear c0 c1 c2
  have c0 : w5.cell? ⟨b, 2, none⟩ = some (.iface T0 (.pointer (some ⟨n0, 0, none⟩))) := by rw [cell_of_row _ _ _ _ _ _ B5.out]; rfl
  have c1 : w5.cell? ⟨b, 3, none⟩ = some (.iface T1 (.pointer (some ⟨n1, 0, none⟩))) := by rw [cell_of_row _ _ _ _ _ _ B5.out]; rfl
  have c2 : w5.cell? ⟨b, 4, none⟩ = some (.iface T2 (.pointer (some ⟨n2, 0, none⟩))) := by rw [cell_of_row _ _ _ _ _ _ B5.out]; rfl
  clear hk hs
  go_wp2_with fail
  go_ret
  exact ⟨rfl, K5.out, S5.out⟩

end Go.Proofs.YtckhafpejefbbaaGreatDoor
