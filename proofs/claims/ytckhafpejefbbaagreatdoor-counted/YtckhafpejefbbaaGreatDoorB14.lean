/- Texts of the proof, put together: Each, Each2, Each3, NamesIt, Read, Open, RunMem, RunBoth, RunApply, RunApply2, RunRest. -/
import Derived.Test.YtckhafpejefbbaaGreatDoorB11
import Derived.RangeFuncNested
import Derived.RangeFuncBound
import Derived.RangeFuncCalls
import Derived.RangeFuncLeaves
import Derived.Shelf.Abstract
import Derived.Shelf.RegionOpen
import Derived.OwnWalkIn
import Derived.TacticsInMore
import Derived.Deep.RegionHeld3
import Derived.Deep.RegionWith
import Derived.Test.YtckhafpejefbbaaGreatDoorB13
import Derived.Test.YtckhafpejefbbaaGreatDoorB12

/- tree.eachName: names and their binders, as they lie in memory. -/
namespace Go.Proofs.YtckhafpejefbbaaGreatDoor
open Go.RowKit Go.Shelf

attribute [local go_sem] Oper.semAt_some

/-- A name that stands as an expr: its block, its place, its bytes, what is bound around it. -/
structure NB where
  nb : Nat
  fr : Nat
  to : Nat
  tx : List UInt8
  e : Tw.BEn

/-- Where its binder lies. -/
def NB.k (x : NB) : Option Addr := x.e.look x.tx

/-- The types of blocks that a round keeps. -/
def keepT : List TypeId := [87, 194, 198, 201, 206, 229, 319, 322, 326, 235, 140, 68, 302, 182, 187]

def Kp (W W' : World) : Prop := ∀ (k : Nat) (c : Array Value) (t : TypeId) (m : Nat × Nat), W.heap[k]? = some (.cells c t m) → keepT.contains t = true → W'.heap[k]? = some (.cells c t m)

theorem Kp.refl (W : World) : Kp W W := fun _ _ _ _ h _ => h
theorem Kp.trans {A B C : World} (h : Kp A B) (k : Kp B C) : Kp A C := fun i c t m x y => k i c t m (h i c t m x y) y
theorem Kp.of_grown {A B : World} (h : A.grownBy B none) : Kp A B := fun i _ _ _ x _ => (h.block i (Array.getElem?_eq_some_iff.1 x).1 (by simp)).trans x

/-- The names of a tree, by places, with their binders. -/
def NL (w : World) (hi : Nat) : Tw.T → Value → Tw.BEn → List NB → Prop
  | .name fr to tx, v, e, L => ∃ b, (v = .iface 83 (.pointer (some ⟨b, 0, none⟩)) ∧ w.heap[b]? = some (.cells #[.int .i64 fr, .int .i64 to, bytesV tx] 87 (0, 0))) ∧ L = [⟨b, fr, to, tx, e⟩]
  | .int fr to n, v, _, L => nodeAt w 0 hi fr to [.int .i64 n] 191 194 v ∧ L = []
  | .truth fr to b, v, _, L => nodeAt w 0 hi fr to [.bool b] 195 198 v ∧ L = []
  | .side fr to b, v, _, L => nodeAt w 0 hi fr to [.bool b] 199 201 v ∧ L = []
  | .bracket fr to i, v, e, L => ∃ v1, nodeAt w 0 hi fr to [v1] 204 206 v ∧ NL w hi i v1 e L
  | .pair fr to l r, v, e, L => ∃ v1 v2 L1 L2, nodeAt w 0 hi fr to [v1, v2] 207 229 v ∧ NL w hi l v1 e L1 ∧ NL w hi r v2 e L2 ∧ L = L1 ++ L2
  | .call fr to l r, v, e, L => ∃ v1 v2 L1 L2, nodeAt w 0 hi fr to [v1, v2] 209 319 v ∧ NL w hi l v1 e L1 ∧ NL w hi r v2 e L2 ∧ L = L1 ++ L2
  | .binary fr to sg l r, v, e, L => ∃ v1 v2 L1 L2, nodeAt w 0 hi fr to [.int .i64 sg, v1, v2] 211 322 v ∧ NL w hi l v1 e L1 ∧ NL w hi r v2 e L2 ∧ L = L1 ++ L2
  | .cond fr to c t f, v, e, L => ∃ v1 v2 v3 L1 L2 L3, nodeAt w 0 hi fr to [v1, v2, v3] 213 326 v ∧ NL w hi c v1 e L1 ∧ NL w hi t v2 e L2 ∧ NL w hi f v3 e L3 ∧ L = L1 ++ L2 ++ L3
  | .fn fr to bn bat b, v, e, L => ∃ k v1, (k < hi ∧ v = .iface 215 (.pointer (some ⟨k, 0, none⟩)) ∧ w.heap[k]? = some (.cells #[.int .i64 fr, .int .i64 to, bytesV bn, .int .i64 bat, v1] 235 (0, 0))) ∧ NL w hi b v1 (.cons bn ⟨k, 2, none⟩ e) L
  | .lett fr to rc bn bat d b, v, e, L => ∃ k v1 v2 L1 L2, (k < hi ∧ v = .iface 136 (.pointer (some ⟨k, 0, none⟩)) ∧ w.heap[k]? = some (.cells #[.int .i64 fr, .int .i64 to, .bool rc, bytesV bn, .int .i64 bat, v1, v2] 140 (0, 0))) ∧
    NL w hi d v1 (if rc then .cons bn ⟨k, 3, none⟩ e else e) L1 ∧ NL w hi b v2 (.cons bn ⟨k, 3, none⟩ e) L2 ∧ L = L1 ++ L2

theorem nodeAt.kp {w w' : World} {lo hi fr to : Nat} {rest : List Value} {pt st : TypeId} {v : Value} (h : nodeAt w lo hi fr to rest pt st v) (hk : Kp w w') (hs : keepT.contains st = true) : nodeAt w' lo hi fr to rest pt st v := by
  obtain ⟨b, h1, h1', h2, h3⟩ := h
  exact ⟨b, h1, h1', h2, hk _ _ _ _ h3 hs⟩

theorem NL.kp {w w' : World} {hi : Nat} (hk : Kp w w') : ∀ {t : Tw.T} {v : Value} {e : Tw.BEn} {L : List NB}, NL w hi t v e L → NL w' hi t v e L
  | .name .., _, _, _, ⟨b, ⟨h1, h2⟩, h3⟩ => ⟨b, ⟨h1, hk _ _ _ _ h2 (by decide)⟩, h3⟩
  | .int .., _, _, _, ⟨h, hl⟩ => ⟨h.kp hk (by decide), hl⟩
  | .truth .., _, _, _, ⟨h, hl⟩ => ⟨h.kp hk (by decide), hl⟩
  | .side .., _, _, _, ⟨h, hl⟩ => ⟨h.kp hk (by decide), hl⟩
  | .bracket .., _, _, _, ⟨v1, h, r1⟩ => ⟨v1, h.kp hk (by decide), NL.kp hk r1⟩
  | .pair .., _, _, _, ⟨v1, v2, L1, L2, h, r1, r2, hl⟩ => ⟨v1, v2, L1, L2, h.kp hk (by decide), NL.kp hk r1, NL.kp hk r2, hl⟩
  | .call .., _, _, _, ⟨v1, v2, L1, L2, h, r1, r2, hl⟩ => ⟨v1, v2, L1, L2, h.kp hk (by decide), NL.kp hk r1, NL.kp hk r2, hl⟩
  | .binary .., _, _, _, ⟨v1, v2, L1, L2, h, r1, r2, hl⟩ => ⟨v1, v2, L1, L2, h.kp hk (by decide), NL.kp hk r1, NL.kp hk r2, hl⟩
  | .cond .., _, _, _, ⟨v1, v2, v3, L1, L2, L3, h, r1, r2, r3, hl⟩ => ⟨v1, v2, v3, L1, L2, L3, h.kp hk (by decide), NL.kp hk r1, NL.kp hk r2, NL.kp hk r3, hl⟩
  | .fn .., _, _, _, ⟨k, v1, ⟨h0, h1, h2⟩, r1⟩ => ⟨k, v1, ⟨h0, h1, hk _ _ _ _ h2 (by decide)⟩, NL.kp hk r1⟩
  | .lett .., _, _, _, ⟨k, v1, v2, L1, L2, ⟨h0, h1, h2⟩, r1, r2, hl⟩ => ⟨k, v1, v2, L1, L2, ⟨h0, h1, hk _ _ _ _ h2 (by decide)⟩, NL.kp hk r1, NL.kp hk r2, hl⟩

theorem BAt.kp {w w' : World} (hk : Kp w w') : ∀ {e : Tw.BEn} {v : Value}, BAt w e v → BAt w' e v
  | .nil, _, h => h
  | .cons .., _, ⟨b, vo, hv, hb, ho⟩ => ⟨b, vo, hv, hk _ _ _ _ hb (by decide), BAt.kp hk ho⟩

theorem NL.of_rep {w : World} {hi : Nat} : ∀ {t : Tw.T} {v : Value} (e : Tw.BEn), Rep w 0 hi t v → ∃ L, NL w hi t v e L
  | .name .., _, _, ⟨b, _, _, h2, h3⟩ => ⟨_, b, ⟨h2, h3⟩, rfl⟩
  | .int .., _, _, h => ⟨_, h, rfl⟩
  | .truth .., _, _, h => ⟨_, h, rfl⟩
  | .side .., _, _, h => ⟨_, h, rfl⟩
  | .bracket .., _, e, ⟨v1, h, r1⟩ => let ⟨L, n1⟩ := NL.of_rep e r1; ⟨L, v1, h, n1⟩
  | .pair .., _, e, ⟨v1, v2, h, r1, r2⟩ => let ⟨L1, n1⟩ := NL.of_rep e r1; let ⟨L2, n2⟩ := NL.of_rep e r2; ⟨_, v1, v2, L1, L2, h, n1, n2, rfl⟩
  | .call .., _, e, ⟨v1, v2, h, r1, r2⟩ => let ⟨L1, n1⟩ := NL.of_rep e r1; let ⟨L2, n2⟩ := NL.of_rep e r2; ⟨_, v1, v2, L1, L2, h, n1, n2, rfl⟩
  | .binary .., _, e, ⟨v1, v2, h, r1, r2⟩ => let ⟨L1, n1⟩ := NL.of_rep e r1; let ⟨L2, n2⟩ := NL.of_rep e r2; ⟨_, v1, v2, L1, L2, h, n1, n2, rfl⟩
  | .cond .., _, e, ⟨v1, v2, v3, h, r1, r2, r3⟩ => let ⟨L1, n1⟩ := NL.of_rep e r1; let ⟨L2, n2⟩ := NL.of_rep e r2; let ⟨L3, n3⟩ := NL.of_rep e r3; ⟨_, v1, v2, v3, L1, L2, L3, h, n1, n2, n3, rfl⟩
  | .fn _ _ bn _ _, _, e, ⟨v1, ⟨b, _, hb, h2, h3⟩, r1⟩ => let ⟨L, n1⟩ := NL.of_rep (.cons bn ⟨b, 2, none⟩ e) r1; ⟨L, b, v1, ⟨hb, h2, h3⟩, n1⟩
  | .lett _ _ rc bn _ _ _, _, e, ⟨v1, v2, ⟨b, _, hb, h2, h3⟩, r1, r2⟩ => let ⟨L1, n1⟩ := NL.of_rep (if rc then .cons bn ⟨b, 3, none⟩ e else e) r1; let ⟨L2, n2⟩ := NL.of_rep (.cons bn ⟨b, 3, none⟩ e) r2; ⟨_, b, v1, v2, L1, L2, ⟨hb, h2, h3⟩, n1, n2, rfl⟩

theorem NL.iface {w : World} {hi : Nat} {t : Tw.T} {v : Value} {e : Tw.BEn} {L : List NB} (h : NL w hi t v e L) : ∃ T n, v = .iface T (.pointer (some ⟨n, 0, none⟩)) := by
  cases t with
  | name => obtain ⟨b, ⟨h, _⟩, _⟩ := h; exact ⟨_, _, h⟩
  | int => obtain ⟨⟨b, _, _, h, _⟩, _⟩ := h; exact ⟨_, _, h⟩
  | truth => obtain ⟨⟨b, _, _, h, _⟩, _⟩ := h; exact ⟨_, _, h⟩
  | side => obtain ⟨⟨b, _, _, h, _⟩, _⟩ := h; exact ⟨_, _, h⟩
  | bracket => obtain ⟨_, ⟨b, _, _, h, _⟩, _⟩ := h; exact ⟨_, _, h⟩
  | pair => obtain ⟨_, _, _, _, ⟨b, _, _, h, _⟩, _⟩ := h; exact ⟨_, _, h⟩
  | call => obtain ⟨_, _, _, _, ⟨b, _, _, h, _⟩, _⟩ := h; exact ⟨_, _, h⟩
  | binary => obtain ⟨_, _, _, _, ⟨b, _, _, h, _⟩, _⟩ := h; exact ⟨_, _, h⟩
  | cond => obtain ⟨_, _, _, _, _, _, ⟨b, _, _, h, _⟩, _⟩ := h; exact ⟨_, _, h⟩
  | fn => obtain ⟨_, _, ⟨_, h, _⟩, _⟩ := h; exact ⟨_, _, h⟩
  | lett => obtain ⟨_, _, _, _, _, ⟨_, h, _⟩, _⟩ := h; exact ⟨_, _, h⟩

abbrev yieldV (l : Nat) : Value := .func (.yield l) #[] #[]

/-- A function of the program that holds one variable. -/
abbrev heldV (F c : Nat) : Value := .func (.func F) #[] #[.pointer (some ⟨c, 0, none⟩)]

/-- What a round asks and tells. -/
structure Yields (F c : Nat) (L0 : List NB) (J Jx : List NB → World → Prop) : Prop where
  enter : ∀ (args : Array Value) (W : World), Sem.run Tryz.prog (callFunc F args) W = .ok (.enter F args) W
  grown : ∀ {s : List NB} {W W' : World}, J s W → W.grownBy W' none → J s W'
  call : ∀ (pre : List NB) (x : NB) (W : World) (ev : Value), J pre W → (pre ++ [x]) <+: L0 → W.heap[x.nb]? = some (.cells #[.int .i64 x.fr, .int .i64 x.to, bytesV x.tx] 87 (0, 0)) → BAt W x.e ev →
    Calls Tryz.prog F #[.pointer (some ⟨x.nb, 0, none⟩), ev, .pointer (some ⟨c, 0, none⟩)] W fun e W' =>
    (e = .returned (.bool true) ∧ J (pre ++ [x]) W' ∧ Kp W W') ∨ (e = .returned (.bool false) ∧ Jx (pre ++ [x]) W')

def EPost (J Jx : List NB → World → Prop) (pre L : List NB) (w : World) (r : Ending) (w' : World) : Prop :=
  (r = .returned (.bool true) ∧ J (pre ++ L) w' ∧ Kp w w') ∨ (r = .returned (.bool false) ∧ ∃ q, q <+: L ∧ Jx (pre ++ q) w')

def ESaid (F c : Nat) (L0 : List NB) (J Jx : List NB → World → Prop) (t : Tw.T) : Prop := ∀ {w : World} {hi : Nat} {tv ev : Value} {e : Tw.BEn} {pre L : List NB}, NL w hi t tv e L → BAt w e ev → J pre w → (pre ++ L) <+: L0 →
  Calls Tryz.prog 84 #[tv, ev, heldV F c] w (EPost J Jx pre L w)

variable {F c : Nat} {L0 : List NB} {J Jx : List NB → World → Prop}

set_option maxRecDepth 100000 in
set_option maxHeartbeats 4000000 in
theorem each_Name (hY : Yields F c L0 J Jx) {fr to : Nat} {x : List UInt8} : ESaid F c L0 J Jx (.name fr to x) := by
  intro w hi tv ev e pre L hn he hJ hp
  obtain ⟨b, ⟨rfl, hb⟩, rfl⟩ := hn
  have HC := hide (hY.call pre ⟨b, fr, to, x, e⟩ w ev hJ hp hb he)
  dsimp only at HC
  obtain ⟨a, rfl⟩ := he.ptr
  have q0 := ta_Name_Name
  clear he hb hJ
  go_enter Tryz.func84, Tryz.ntmps84
  go_wp2_with fail
  rw [hY.enter]
  refine (unhide HC).mono ?_
  rintro e2 W2 (⟨rfl, hJ2, hk2⟩ | ⟨rfl, hx2⟩)
  · go_wp2_with fail
    go_ret
    exact .inl ⟨rfl, hJ2, hk2⟩
  · go_wp2_with fail
    go_ret
    exact .inr ⟨rfl, _, List.prefix_refl _, hx2⟩

/-- What eachName tells of a part, whatever has come ahead of it. -/
def KidE (F c : Nat) (J Jx : List NB → World → Prop) (ev v : Value) (w : World) (pre L : List NB) : Prop := ∀ W : World, Kp w W → J pre W → Calls Tryz.prog 84 #[v, ev, heldV F c] W (EPost J Jx pre L W)

def uptoL (Ls : List (List NB)) (q : Nat) : List NB := (Ls.take q).flatten

theorem uptoL_succ (Ls : List (List NB)) (q : Nat) (h : q < Ls.length) : uptoL Ls (q + 1) = uptoL Ls q ++ Ls[q] := by
  unfold uptoL
  rw [List.take_succ_eq_append_getElem h, List.flatten_append]
  simp

set_option maxRecDepth 100000 in
set_option maxHeartbeats 4000000 in
/-- A node that binds nothing: its parts, in their order. -/
theorem each_parts (hY : Yields F c L0 J Jx) {PT : TypeId} {w : World} {b : Nat} {ev : Value} {vs : List Value} {Ls : List (List NB)} {pre : List NB}
    (q0 : ∀ (a : Option Addr) (w : World), Sem.run Tryz.prog (Instr.typeAssert (.iface PT (.pointer a)) 68 83 true) w = .ok (.tuple #[.pointer none, .bool false]) w)
    (q1 : ∀ (a : Option Addr) (w : World), Sem.run Tryz.prog (Instr.typeAssert (.iface PT (.pointer a)) 68 215 true) w = .ok (.tuple #[.pointer none, .bool false]) w)
    (q2 : ∀ (a : Option Addr) (w : World), Sem.run Tryz.prog (Instr.typeAssert (.iface PT (.pointer a)) 68 136 true) w = .ok (.tuple #[.pointer none, .bool false]) w)
    (hP : Calls Tryz.prog 162 #[.iface PT (.pointer (some ⟨b, 0, none⟩))] w (PartsPost w vs)) (hea : ∃ a, ev = .pointer a)
    (hlen : vs.length = Ls.length) (hl3 : Ls.length ≤ 3) (hK : ∀ j (h1 : j < vs.length) (h2 : j < Ls.length), (∃ T n, vs[j] = .iface T (.pointer (some ⟨n, 0, none⟩))) ∧ KidE F c J Jx ev vs[j] w (pre ++ uptoL Ls j) Ls[j]) (hJ : J pre w) :
    Calls Tryz.prog 84 #[.iface PT (.pointer (some ⟨b, 0, none⟩)), ev, heldV F c] w (EPost J Jx pre Ls.flatten w) := by
  obtain ⟨a, rfl⟩ := hea
  have HP := hide hP
  have HK := hide hK
  have HJ := hide hJ
  clear hP hK hJ
  go_enter Tryz.func84, Tryz.ntmps84
  go_wp2_with fail
  refine (unhide HP).mono ?_
  rintro e1 w1 ⟨hg, hcase⟩
  have G1 : Hid (w.grownBy w1 none) := hg
  have J1 : Hid (J pre w1) := hY.grown (unhide HJ) hg
  clear hg
  clear q0 q1 q2
  rcases hcase with ⟨rfl, rfl⟩ | ⟨k, rfl, hk⟩
  · have hk0 : Ls = [] := by simpa using hlen.symm
    subst hk0
    go_wp2_with fail
    go_loopg [79] 0 (fun j iv wr => iv = .int .i64 0 ∧ wr = w1)
    case atStart => exact ⟨rfl, rfl⟩
    case round =>
      obtain ⟨rfl, rfl⟩ := hrel
      go_wp2_with fail
      go_ret
      go_light
      exact .inl ⟨rfl, by simpa using J1.out, Kp.of_grown G1.out⟩
  · have C1 : Hid (w1.heap[k]? = some (.cells (kidCells vs) 68 (0, 0))) := hk
    clear hk
    have c65 : Tryz.prog.cellsOf 68 = 1 := by kernel_rfl
    obtain ⟨N, hV⟩ : ∃ N, vs.length = N := ⟨_, rfl⟩
    rw [hV]
    have HV := hide hV
    have hLN : N = Ls.length := by omega
    have HLN := hide hLN
    have hN3 : N ≤ 3 := by omega
    clear hV hlen hLN
    go_wp2_with fail
    go_loopg [79] N (fun j iv wr => ∃ q : Nat, j + q = N ∧ q ≤ N ∧ iv = .int .i64 q ∧ Hid (J (pre ++ uptoL Ls q) wr) ∧ Hid (Kp w1 wr))
    case atStart => exact ⟨0, by omega, by omega, rfl, by simpa [uptoL] using J1, Kp.refl _⟩
    case round =>
      obtain ⟨q, hjq, hq, rfl, JR, KR⟩ := hrel
      by_cases hlt : q < N
      · have h1 : q < vs.length := by rw [unhide HV]; exact hlt
        have h2 : q < Ls.length := by rw [← unhide HLN]; exact hlt
        obtain ⟨⟨T, nn, hv⟩, hks⟩ := unhide HK q h1 h2
        rw [hv] at hks
        have hc : wr.cell? ⟨k, q, none⟩ = some (.iface T (.pointer (some ⟨nn, 0, none⟩))) := by
          rw [cell_of_row wr k _ _ _ _ (KR.out _ _ _ _ C1.out (by decide))]
          simp [kidCells, h1, hv]
        have hqi : (q : Int) < (N : Int) := by omega
        have KS := hide (hks wr ((Kp.of_grown G1.out).trans KR.out) JR.out)
        have hss := hide (uptoL_succ Ls q h2)
        have HL : Hid (uptoL Ls q ++ Ls[q] <+: Ls.flatten) := by
          show _ <+: _
          rw [← unhide hss]
          exact ⟨(Ls.drop (q + 1)).flatten, by unfold uptoL; rw [← List.flatten_append, List.take_append_drop]⟩
        generalize Ls[q] = Lq at *
        clear hks hv h1 h2
        go_wp2_with fail
        refine (unhide KS).mono ?_
        rintro e2 w2 (⟨rfl, hj2, hk2⟩ | ⟨rfl, p, hp, hx⟩)
        · have J2 : Hid (J (pre ++ uptoL Ls (q + 1)) w2) := by show J _ _; rw [unhide hss, ← List.append_assoc]; exact hj2
          have K2 : Hid (Kp w1 w2) := KR.out.trans hk2
          clear hj2 hk2
          go_wp2_with fail
          go_roundg (gk - 1)
          case measure => omega
          case rel => exact ⟨q + 1, by omega, by omega, by go_num, J2, K2⟩
        · have X : Hid (∃ p', p' <+: Ls.flatten ∧ Jx (pre ++ p') w2) := by
            refine ⟨uptoL Ls q ++ p, ?_, by rw [← List.append_assoc]; exact hx⟩
            obtain ⟨r, hr⟩ := hp
            obtain ⟨r', hr'⟩ := unhide HL
            exact ⟨r ++ r', by rw [← hr', ← hr]; simp [List.append_assoc]⟩
          clear hp hx
          go_wp2_with fail
          go_ret
          go_light
          exact .inr ⟨rfl, X.out⟩
      · have hqN : q = N := by omega
        have J2 : Hid (J (pre ++ Ls.flatten) wr) := by
          have := JR.out
          rw [hqN, unhide HLN] at this
          unfold uptoL at this
          rw [List.take_length] at this
          exact this
        clear hqN
        go_wp2_with fail
        go_ret
        go_light
        exact .inl ⟨rfl, J2.out, (Kp.of_grown G1.out).trans KR.out⟩

end Go.Proofs.YtckhafpejefbbaaGreatDoor

/- tree.eachName at fun and let; whole. -/
namespace Go.Proofs.YtckhafpejefbbaaGreatDoor
open Go.RowKit Go.Shelf

variable {F c : Nat} {L0 : List NB} {J Jx : List NB → World → Prop}

theorem EPost.one {pre L : List NB} {w : World} {r : Ending} {w' : World} (h : EPost J Jx pre L w r w') : ∃ bv, r = .returned (.bool bv) ∧ EPost J Jx pre L w (.returned (.bool bv)) w' := by
  rcases h with ⟨rfl, h⟩ | ⟨rfl, h⟩
  · exact ⟨true, rfl, .inl ⟨rfl, h⟩⟩
  · exact ⟨false, rfl, .inr ⟨rfl, h⟩⟩

theorem EPost.from {pre L : List NB} {w w0 : World} {r : Ending} {w' : World} (h : EPost J Jx pre L w r w') (hk : Kp w0 w) : EPost J Jx pre L w0 r w' :=
  h.imp (fun ⟨a, b, c⟩ => ⟨a, b, hk.trans c⟩) id

set_option maxRecDepth 100000 in
set_option maxHeartbeats 4000000 in
theorem each_Fun (hY : Yields F c L0 J Jx) {fr to bat : Nat} {bn : List UInt8} {body : Tw.T} (hB : ESaid F c L0 J Jx body) : ESaid F c L0 J Jx (.fn fr to bn bat body) := by
  intro w hi tv ev e pre L hn he hJ hp
  obtain ⟨b, v1, ⟨_, rfl, hb⟩, n1⟩ := hn
  have HE := hide he
  have R0 := hide n1
  have B0 := hide hb
  have HJ := hide hJ
  have HP := hide hp
  obtain ⟨T0, n0, rfl⟩ := n1.iface
  obtain ⟨_, _, c2, _, c4⟩ := five_cells hb
  obtain ⟨a, rfl⟩ := he.ptr
  have q0 := ta_Fun_Name
  have q1 := ta_Fun_Fun
  have q2 := ta_Fun_Let
  clear he hb n1 hJ hp
  go_enter Tryz.func84, Tryz.ntmps84
  go_wp2_with fail
  have D1 : Hid (w.grownBy w.drew none) := grown_drew (grown_refl _)
  go_region_with (first
      | (go_at_call 161; refine (withB_any ((unhide HE).grown D1.out) bn ⟨b, 2, none⟩).mono ?_; rintro e1 w2 ⟨sa, rfl, hg, hn⟩
         have G2 : Hid (w.grownBy w2 none) := grown_trans D1.out hg
         have N2 := hide hn
         have B2 := five_cells ((grown_trans D1.out hg).block b (Array.getElem?_eq_some_iff.1 B0.out).1 (by simp) |>.trans B0.out)
         obtain ⟨_, _, d2, _, d4⟩ := B2
         clear hg hn)
      | (go_at_call 84; refine (hB ((unhide R0).kp (Kp.of_grown G2.out)) (unhide N2) (hY.grown (unhide HJ) G2.out) (unhide HP)).mono ?_; rintro e1 w3 hx
         obtain ⟨bv, rfl, hx⟩ := hx.one
         have X := hide (hx.from (Kp.of_grown G2.out))
         clear hx))
  all_goals (go_wp2_with fail; go_ret; exact X.out)

end Go.Proofs.YtckhafpejefbbaaGreatDoor

/- tree.eachName at let; whole; Names. -/
namespace Go.Proofs.YtckhafpejefbbaaGreatDoor
open Go.RowKit Go.Shelf

variable {F c : Nat} {L0 : List NB} {J Jx : List NB → World → Prop}

set_option maxRecDepth 100000 in
set_option maxHeartbeats 4000000 in
theorem each_Let (hY : Yields F c L0 J Jx) {fr to bat : Nat} {rc : Bool} {bn : List UInt8} {d x : Tw.T} (hD : ESaid F c L0 J Jx d) (hX : ESaid F c L0 J Jx x) : ESaid F c L0 J Jx (.lett fr to rc bn bat d x) := by
  intro w hi tv ev e pre L hn he hJ hp
  obtain ⟨b, v1, v2, L1, L2, ⟨_, rfl, hb⟩, n1, n2, rfl⟩ := hn
  have HE := hide he
  have R1 := hide n1
  have R2 := hide n2
  have B0 := hide hb
  have HJ := hide hJ
  have HP := hide hp
  have HP1 : Hid (pre ++ L1 <+: L0) := by
    obtain ⟨r, hr⟩ := hp
    exact ⟨L2 ++ r, by rw [← hr]; simp [List.append_assoc]⟩
  obtain ⟨T1, k1, rfl⟩ := n1.iface
  obtain ⟨T2, k2, rfl⟩ := n2.iface
  obtain ⟨c2, c3, c5, c6⟩ := seven_cells hb
  obtain ⟨a, rfl⟩ := he.ptr
  have q0 := ta_Let_Name
  have q1 := ta_Let_Fun
  have q2 := ta_Let_Let
  clear he hb n1 n2 hJ hp
  go_enter Tryz.func84, Tryz.ntmps84
  go_wp2_with fail
  have D1 : Hid (w.grownBy w.drew none) := grown_drew (grown_refl _)
  go_region_held3 (fun W => W.cell? ⟨b, 3, none⟩ = some (bytesV bn)) (go_keep)
    (first
      | (go_at_call 161; refine (withB_any ((unhide HE).grown D1.out) bn ⟨b, 3, none⟩).mono ?_; rintro e1 w2 ⟨sa, rfl, hg, hn⟩
         have G2 : Hid (w.grownBy w2 none) := grown_trans D1.out hg
         have N2 := hide hn
         have B2 := seven_cells ((grown_trans D1.out hg).block b (Array.getElem?_eq_some_iff.1 B0.out).1 (by simp) |>.trans B0.out)
         obtain ⟨d2, d3, d5, d6⟩ := B2
         clear hg hn))
  clear c2 c3 c5 c6 q0 q1 q2
  have key : Hid (∃ iv, iv = (if rc then .pointer sa else .pointer a : Value) ∧ BAt w2 (if rc then .cons bn ⟨b, 3, none⟩ e else e) iv) := by
    cases rc
    · exact ⟨_, rfl, (unhide HE).grown G2.out⟩
    · exact ⟨_, rfl, unhide N2⟩
  cases rc <;> (
    simp only [Bool.false_eq_true, if_false, if_true] at key R1
    obtain ⟨iv, rfl, hiv⟩ := key.out
    have HIV := hide hiv
    clear hiv key
    go_wp2_with fail
    refine (hD ((unhide R1).kp (Kp.of_grown G2.out)) (unhide HIV) (hY.grown (unhide HJ) G2.out) (unhide HP1)).mono ?_
    rintro e1 w3 (⟨rfl, hj3, hk3⟩ | ⟨rfl, q, hq, hx⟩)
    · have J3 := hide hj3
      have K3 : Hid (Kp w w3) := (Kp.of_grown G2.out).trans hk3
      have N3 := hide ((unhide N2).kp hk3)
      obtain ⟨g2, g3, g5, g6⟩ := seven_cells (K3.out _ _ _ _ B0.out (by decide))
      clear hj3 hk3
      go_wp2_with fail
      refine (hX ((unhide R2).kp K3.out) (unhide N3) (unhide J3) (by rw [List.append_assoc]; exact unhide HP)).mono ?_
      rintro e1 w4 h4
      obtain ⟨bv, rfl, h4⟩ := h4.one
      have X : Hid (EPost J Jx pre (L1 ++ L2) w (.returned (.bool bv)) w4) := by
        rcases h4 with ⟨h0, h1, h2⟩ | ⟨h0, q, hq, hx⟩
        · exact .inl ⟨h0, by rw [← List.append_assoc]; exact h1, K3.out.trans h2⟩
        · refine .inr ⟨h0, L1 ++ q, ?_, by rw [← List.append_assoc]; exact hx⟩
          obtain ⟨r, hr⟩ := hq
          exact ⟨r, by rw [← hr, List.append_assoc]⟩
      clear h4
      go_wp2_with fail
      go_ret
      exact X.out
    · have X : Hid (EPost J Jx pre (L1 ++ L2) w (.returned (.bool false)) w3) := by
        refine .inr ⟨rfl, q, ?_, hx⟩
        obtain ⟨r, hr⟩ := hq
        exact ⟨r ++ L2, by rw [← hr, List.append_assoc]⟩
      clear hq hx
      go_wp2_with fail
      go_ret
      exact X.out)

theorem NL.kidE {t : Tw.T} (h : ESaid F c L0 J Jx t) {w : World} {hi : Nat} {v ev : Value} {e : Tw.BEn} {pre L : List NB} (hn : NL w hi t v e L) (he : BAt w e ev) (hp : pre ++ L <+: L0) : (∃ T n, v = .iface T (.pointer (some ⟨n, 0, none⟩))) ∧ KidE F c J Jx ev v w pre L :=
  ⟨hn.iface, fun _ hk hj => h (hn.kp hk) (he.kp hk) hj hp⟩

theorem pre_left {pre L1 L2 : List NB} (h : pre ++ (L1 ++ L2) <+: L0) : pre ++ L1 <+: L0 := by
  obtain ⟨r, hr⟩ := h
  exact ⟨L2 ++ r, by rw [← hr]; simp [List.append_assoc]⟩

theorem each_all (hY : Yields F c L0 J Jx) : ∀ t : Tw.T, ESaid F c L0 J Jx t
  | .name fr to x => each_Name hY
  | .int fr to v => by
    intro hn he hJ hp
    obtain ⟨⟨b, _, _, rfl, hb⟩, rfl⟩ := hn
    have := each_parts hY (vs := []) (Ls := []) ta_Int_Name ta_Int_Fun ta_Int_Let (parts_Int _ b) he.ptr rfl (by simp) (by simp) hJ
    simpa using this
  | .truth fr to v => by
    intro hn he hJ hp
    obtain ⟨⟨b, _, _, rfl, hb⟩, rfl⟩ := hn
    have := each_parts hY (vs := []) (Ls := []) ta_Truth_Name ta_Truth_Fun ta_Truth_Let (parts_Truth _ b) he.ptr rfl (by simp) (by simp) hJ
    simpa using this
  | .side fr to v => by
    intro hn he hJ hp
    obtain ⟨⟨b, _, _, rfl, hb⟩, rfl⟩ := hn
    have := each_parts hY (vs := []) (Ls := []) ta_Side_Name ta_Side_Fun ta_Side_Let (parts_Side _ b) he.ptr rfl (by simp) (by simp) hJ
    simpa using this
  | .bracket fr to i => by
    intro hn he hJ hp
    rename_i L
    obtain ⟨v1, ⟨b, _, _, rfl, hb⟩, n1⟩ := hn
    have K1 := n1.kidE (each_all hY i) he hp
    have := each_parts hY (vs := [v1]) (Ls := [L]) ta_Bracket_Name ta_Bracket_Fun ta_Bracket_Let (parts_Bracket K1.1 hb) he.ptr rfl (by simp) (by
      intro j a1 a2
      match j, a1 with
      | 0, _ => simpa [uptoL] using K1) hJ
    simpa using this
  | .fn fr to bn bat b => each_Fun hY (each_all hY b)
  | .lett fr to rc bn bat d b => each_Let hY (each_all hY d) (each_all hY b)
  | .pair fr to a c => by
    intro hn he hJ hp
    obtain ⟨v1, v2, L1, L2, ⟨b, _, _, rfl, hb⟩, n1, n2, rfl⟩ := hn
    have K1 := n1.kidE (each_all hY a) he (pre_left hp)
    have K2 := n2.kidE (each_all hY c) he (by rw [← List.append_assoc] at hp; exact hp)
    have := each_parts hY (vs := [v1, v2]) (Ls := [L1, L2]) ta_Pair_Name ta_Pair_Fun ta_Pair_Let (parts_Pair K1.1 K2.1 hb) he.ptr rfl (by simp) (by
      intro j a1 a2
      match j, a1 with
      | 0, _ => simpa [uptoL] using K1
      | 1, _ => simpa [uptoL] using K2) hJ
    simpa using this
  | .call fr to a c => by
    intro hn he hJ hp
    obtain ⟨v1, v2, L1, L2, ⟨b, _, _, rfl, hb⟩, n1, n2, rfl⟩ := hn
    have K1 := n1.kidE (each_all hY a) he (pre_left hp)
    have K2 := n2.kidE (each_all hY c) he (by rw [← List.append_assoc] at hp; exact hp)
    have := each_parts hY (vs := [v1, v2]) (Ls := [L1, L2]) ta_Call_Name ta_Call_Fun ta_Call_Let (parts_Call K1.1 K2.1 hb) he.ptr rfl (by simp) (by
      intro j a1 a2
      match j, a1 with
      | 0, _ => simpa [uptoL] using K1
      | 1, _ => simpa [uptoL] using K2) hJ
    simpa using this
  | .binary fr to sg a c => by
    intro hn he hJ hp
    obtain ⟨v1, v2, L1, L2, ⟨b, _, _, rfl, hb⟩, n1, n2, rfl⟩ := hn
    have K1 := n1.kidE (each_all hY a) he (pre_left hp)
    have K2 := n2.kidE (each_all hY c) he (by rw [← List.append_assoc] at hp; exact hp)
    have := each_parts hY (vs := [v1, v2]) (Ls := [L1, L2]) ta_Binary_Name ta_Binary_Fun ta_Binary_Let (parts_Binary K1.1 K2.1 hb) he.ptr rfl (by simp) (by
      intro j a1 a2
      match j, a1 with
      | 0, _ => simpa [uptoL] using K1
      | 1, _ => simpa [uptoL] using K2) hJ
    simpa using this
  | .cond fr to c t f => by
    intro hn he hJ hp
    obtain ⟨v1, v2, v3, L1, L2, L3, ⟨b, _, _, rfl, hb⟩, n1, n2, n3, rfl⟩ := hn
    have hp1 := pre_left hp
    have K1 := n1.kidE (each_all hY c) he (pre_left hp1)
    have K2 := n2.kidE (each_all hY t) he (by have := pre_left hp; rw [← List.append_assoc] at this; exact this)
    have K3 := n3.kidE (each_all hY f) he (by rw [← List.append_assoc] at hp; exact hp)
    have := each_parts hY (vs := [v1, v2, v3]) (Ls := [L1, L2, L3]) ta_If_Name ta_If_Fun ta_If_Let (parts_If K1.1 K2.1 K3.1 hb) he.ptr rfl (by simp) (by
      intro j a1 a2
      match j, a1 with
      | 0, _ => simpa [uptoL] using K1
      | 1, _ => simpa [uptoL] using K2
      | 2, _ => simpa [uptoL, List.append_assoc] using K3) hJ
    simpa [List.append_assoc] using this

end Go.Proofs.YtckhafpejefbbaaGreatDoor

/- tree.Names: a function over yield, gone through by range. -/
namespace Go.Proofs.YtckhafpejefbbaaGreatDoor
open Go.RowKit Go.Shelf

theorem yieldAt_wide {m m' : Nat} {P : Program} {l : Nat} {args : Array Value} {W : World} {R : Ending → World → Prop} (h : YieldAt Fence.wide m P l args W R) : YieldAt Fence.wide m' P l args W R := by
  obtain ⟨fn, tmps, assign, body, hy, hR⟩ := h
  exact ⟨fn, tmps, assign, body, hy, hR.1, fun c cs _ => hR.2 c cs (room_wide _)⟩

/-- What a round over Names asks and tells. -/
structure Yields0 (l : Nat) (L0 : List NB) (J Jx : List NB → World → Prop) : Prop where
  grown : ∀ {s : List NB} {W W' : World}, J s W → W.grownBy W' none → J s W'
  yield : ∀ (pre : List NB) (x : NB) (W : World), J pre W → (pre ++ [x]) <+: L0 → YieldAt Fence.wide 0 Tryz.prog l #[.pointer (some ⟨x.nb, 0, none⟩), .pointer x.k] W fun e W' =>
    (e = .returned (.bool true) ∧ J (pre ++ [x]) W' ∧ Kp W W') ∨ (e = .returned (.bool false) ∧ Jx (pre ++ [x]) W')

/-- The variable that holds the yield. -/
abbrev YCell (l c : Nat) (W : World) : Prop := W.heap[c]? = some (.cells #[yieldV l] 182 (0, 0))

set_option maxRecDepth 100000 in
set_option maxHeartbeats 4000000 in
theorem Names11 {l : Nat} {L0 : List NB} {J Jx : List NB → World → Prop} (hY : Yields0 l L0 J Jx) (c : Nat) : Yields 85 c L0 (fun p W => J p W ∧ YCell l c W) Jx := by
  refine ⟨fun args W => rfl, fun {s W W'} ⟨hj, hc⟩ hg => ⟨hY.grown hj hg, (hg.block c (Array.getElem?_eq_some_iff.1 hc).1 (by simp)).trans hc⟩, ?_⟩
  rintro pre x w ev ⟨hJ, hc⟩ hp hb he
  obtain ⟨fn, tmps, assign, body, hy, hR⟩ := hY.yield pre x w hJ hp
  have c2 : w.cell? ⟨x.nb, 2, none⟩ = some (bytesV x.tx) := by rw [cell_of_row _ _ _ _ _ _ hb]; rfl
  have c3 : w.cell? ⟨c, 0, none⟩ = some (yieldV l) := by rw [cell_of_row _ _ _ _ _ _ hc]; rfl
  have HE := hide he
  have HC := hide hc
  obtain ⟨a, rfl⟩ := he.ptr
  have HR := hide hR
  have HF : Hid (Calls Tryz.prog 86 #[.pointer a, bytesV x.tx] w fun r w' => (∃ ok, r = .returned (.tuple #[.pointer x.k, .bool ok])) ∧ w = w') := by
    unfold NB.k
    cases hl : x.e.look x.tx with
    | none => exact (findB_none (unhide HE) x.tx hl).mono (by rintro e w' ⟨rfl, rfl⟩; exact ⟨⟨_, rfl⟩, rfl⟩)
    | some k => exact (findB_any (unhide HE) x.tx hl).mono (by rintro e w' ⟨rfl, rfl⟩; exact ⟨⟨_, rfl⟩, rfl⟩)
  clear he hb hR hc
  refine (callsIn_wide (n := 1)).1 ?_
  refine callsIn_of_wp Tryz.func85 rfl trivial ?_
  simp only [Tryz.ntmps85, List.size_toArray, List.length_cons, List.length_nil, Nat.reduceAdd, Nat.reduceSub, Array.replicate_succ, Array.replicate_zero, List.push_toArray, List.append_toArray, List.nil_append, List.cons_append]
  gi_wp2_with ((try refine ⟨trivial, ?_⟩); gi_at_call 86; refine (callsIn_wide.2 (unhide HF)).mono ?_; rintro e1 w1 ⟨⟨ok, rfl⟩, rfl⟩)
  (try refine ⟨fun h => (by cases h), ?_⟩)
  refine (unhide HR).mono ?_
  rintro e2 W2 (⟨rfl, hJ2, hk2⟩ | ⟨rfl, hx2⟩)
  · gi_wp2
    go_ret
    exact .inl ⟨rfl, ⟨hJ2, hk2 _ _ _ _ (unhide HC) (by decide)⟩, hk2⟩
  · gi_wp2
    go_ret
    exact .inr ⟨rfl, hx2⟩

set_option maxRecDepth 100000 in
set_option maxHeartbeats 1000000 in
theorem Names1_any {l : Nat} {L0 : List NB} {J Jx : List NB → World → Prop} (hY : Yields0 l L0 J Jx) {w : World} {hi Bt : Nat} {t : Tw.T} {tv : Value} (hB : w.heap[Bt]? = some (.cells #[tv] 68 (0, 0))) (hn : NL w hi t tv .nil L0) (hJ : J [] w) :
    Calls Tryz.prog 83 #[yieldV l, .pointer (some ⟨Bt, 0, none⟩)] w fun e w' => e = .returned (.tuple #[]) ∧ (J L0 w' ∨ ∃ q, q <+: L0 ∧ Jx q w') := by
  have HN := hide hn
  have HJ := hide hJ
  obtain ⟨T0, n0, rfl⟩ := hn.iface
  have G : Hid (w.grownBy (w.alloc (.cells #[yieldV l] 182)) none) := World.grownBy_alloc _ _ none
  have c0 : (w.alloc (.cells #[yieldV l] 182)).cell? ⟨Bt, 0, none⟩ = some (.iface T0 (.pointer (some ⟨n0, 0, none⟩))) := by rw [cell_of_row _ _ _ _ _ _ ((G.out.block Bt (Array.getElem?_eq_some_iff.1 hB).1 (by simp)).trans hB)]; rfl
  clear hB hn hJ
  go_enter Tryz.func83, Tryz.ntmps83
  go_wp2_with fail
  refine (each_all (Names11 hY w.heap.size) t ((unhide HN).kp (Kp.of_grown G.out)) (show BAt _ .nil (.pointer none) from rfl) ⟨hY.grown (unhide HJ) G.out, new_block w _⟩ (by simp)).mono ?_
  rintro e1 w1 h1
  obtain ⟨bv, rfl, h1⟩ := h1.one
  have X : Hid (J L0 w1 ∨ ∃ q, q <+: L0 ∧ Jx q w1) := by
    rcases h1 with ⟨_, ⟨h, _⟩, _⟩ | ⟨_, q, hq, h⟩
    · exact .inl (by simpa using h)
    · exact .inr ⟨q, hq, by simpa using h⟩
  clear h1
  go_wp2_with fail
  go_end0
  exact ⟨rfl, X.out⟩

/-- A name of the tree whose names are L0. -/
abbrev NBIn (L0 : List NB) := { x : NB // x ∈ L0 }
abbrev encN (L0 : List NB) (x : NBIn L0) : Array Value := #[.pointer (some ⟨x.1.nb, 0, none⟩), .pointer x.1.k]

/-- **Names hands back a value that yields the tree's names in their order.** -/
theorem names_stops {w : World} {hi Bt n : Nat} {t : Tw.T} {tv : Value} {L0 : List NB} (hB : w.heap[Bt]? = some (.cells #[tv] 68 (0, 0))) (hn : NL w hi t tv .nil L0) :
    SeqStopsK Fence.wide n Tryz.prog 83 #[.pointer (some ⟨Bt, 0, none⟩)] (encN L0) Kp (fun ys => ys.map (·.1) = L0) (fun pre => pre.map (·.1) <+: L0) L0.length w := by
  intro l J Jx W hW hJ hJx hY h0
  have KW : Kp w W := fun k c t m x _ => (hW.block k (Array.getElem?_eq_some_iff.1 x).1).trans x
  have Y : Yields0 l L0 (fun pre W => ∃ p : List (NBIn L0), p.map (·.1) = pre ∧ J p W) (fun pre W => ∃ p : List (NBIn L0), p.map (·.1) = pre ∧ Jx p W) := by
    refine ⟨fun {s W W'} ⟨p, hp, hj⟩ hg => ⟨p, hp, hJ p W W' none hj hg (fun r e => by cases e)⟩, ?_⟩
    rintro pre x W1 ⟨p, rfl, hj⟩ hpre
    have hx : x ∈ L0 := hpre.subset (by simp)
    have hlen : p.length < L0.length := by
      have := hpre.length_le
      simp at this
      omega
    refine yieldAt_wide (YieldAt.mono (hY p ⟨x, hx⟩ W1 hj hlen) ?_)
    rintro e W' (⟨he, hj', hk⟩ | ⟨he, hj'⟩)
    · exact .inl ⟨he, ⟨p ++ [⟨x, hx⟩], by simp, hj'⟩, hk⟩
    · exact .inr ⟨he, ⟨p ++ [⟨x, hx⟩], by simp, hj'⟩⟩
  refine callsIn_wide.2 ((Names1_any Y (KW _ _ _ _ hB (by decide)) (hn.kp KW) ⟨[], rfl, h0⟩).mono ?_)
  rintro e W' ⟨rfl, ⟨p, hp, hj⟩ | ⟨q, hq, p, rfl, hj⟩⟩
  · exact ⟨⟨_, rfl⟩, .inl ⟨p, hp, hj⟩⟩
  · exact ⟨⟨_, rfl⟩, .inr ⟨p, hq, hj⟩⟩

set_option maxRecDepth 100000 in
set_option maxHeartbeats 1000000 in
theorem Names_any (w : World) {tv : Value} (ht : ∃ T n, tv = .iface T (.pointer (some ⟨n, 0, none⟩))) :
    Calls Tryz.prog 48 #[tv] w fun e w' => e = .returned (.func (.func 83) #[] #[.pointer (some ⟨w.heap.size, 0, none⟩)]) ∧ w' = w.alloc (.cells #[tv] 68) := by
  obtain ⟨T0, n0, rfl⟩ := ht
  go_enter Tryz.func48, Tryz.ntmps48
  go_wp2_with fail
  go_ret
  exact ⟨rfl, rfl⟩

end Go.Proofs.YtckhafpejefbbaaGreatDoor

/- tailor.read of a text that is fine. -/
namespace Go.Proofs.YtckhafpejefbbaaGreatDoor
open Go.RowKit Go.Shelf

attribute [local go_sem] Oper.semAt_some

/-- A range over a function of two variables, whose assignments are plain: the slots behind them. -/
theorem range_two {n : Nat} {P : Program} {α : Type} {g : Operand} {p q d1 d2 : Tmp} {assign body : Code} {Q : Exit → Act → World → Prop} {a : Act} {w : World}
    (h1 : 1 ≤ n) {gf : Nat} {lb : Array Value} (hg : a.eval g = .func (.func gf) #[] lb) (eg : ∀ args w, (callFunc gf args).run P w = .ok (.enter gf args) w)
    {e1 e2 : α → Value} {Kp : World → World → Prop} {S Sp : List α → Prop} {N : Nat} {w0 : World} (hseq : SeqStopsK Fence.wide (n - 1) P gf lb (fun x => #[e1 x, e2 x]) Kp S Sp N w0)
    (hKt : ∀ {A B C : World}, Kp A B → Kp B C → Kp A C) (hKb : ∀ (W : World) (l : Nat) (o o' : Obj), w.heap.size ≤ l → W.heap[l]? = some o → o.isCells = false → o.isWalk = false → Kp W (W.putObj l o')) (hb0 : Below w0.heap.size w0 w)
    (I : List α → World → Prop) (Ix : Code → List α → World → Prop) (hI : OwnFrom w.heap.size I) (hIx : ∀ c, OwnFrom w.heap.size (Ix c)) (h0 : I [] w)
    (hassign : ∀ (l : Nat) (x : α) (W : World) (K : Act → World → Prop), K { tmps := (((a.tmps.setIfInBounds p (e1 x)).setIfInBounds q (e2 x)).setIfInBounds d1 (e1 x)).setIfInBounds d2 (e2 x), defers := [] } W →
      assign.wpIn (Fence.wide.inRound l) (n - 1 - 1) P (Exit.then K (fun _ _ _ => False)) { tmps := (a.tmps.setIfInBounds p (e1 x)).setIfInBounds q (e2 x), defers := [] } W)
    (hbody : ∀ (l : Nat) (pre : List α) (x : α) (W : World), I pre W → pre.length < N → body.wpIn (Fence.wide.inRound l) (n - 1 - 1) P (ownPostK Kp I Ix (pre ++ [x]) W) { tmps := (((a.tmps.setIfInBounds p (e1 x)).setIfInBounds q (e2 x)).setIfInBounds d1 (e1 x)).setIfInBounds d2 (e2 x), defers := [] } W)
    (hdone : ∀ (D : Nat) (xs : List α) (W : World), w.heap.size ≤ D → S xs → I xs W → W.heap[D]? = some (.deferred (some [])) → Q .normal { a with defers := { target := .collected D, args := #[] } :: a.defers } W)
    (hstop : ∀ (D : Nat) (c : Code) (pre : List α) (W : World), w.heap.size ≤ D → Sp pre → Ix c pre W → W.heap[D]? = some (.deferred (some [])) → c.wpIn Fence.wide n P Q { a with defers := { target := .collected D, args := #[] } :: a.defers } W) :
    (Code.rangeFunc g #[p, q] assign body).wpIn Fence.wide n P Q a w :=
  wpIn_rangeFunc_ownF rfl h1 hg trivial eg hseq hKt hKb hb0 (fun _ => rfl) I Ix hI hIx h0 (fun x => { tmps := (((a.tmps.setIfInBounds p (e1 x)).setIfInBounds q (e2 x)).setIfInBounds d1 (e1 x)).setIfInBounds d2 (e2 x), defers := [] })
    (fun l x W K hK => by simpa using hassign l x W K hK) hbody hdone hstop

theorem kp_b {w : World} (W : World) (l : Nat) (o o' : Obj) (_ : w.heap.size ≤ l) (h : W.heap[l]? = some o) (hc : o.isCells = false) (_ : o.isWalk = false) : Kp W (W.putObj l o') := by
  intro k c t m x _
  have : l ≠ k := by
    intro e
    subst e
    rw [h] at x
    cases x
    simp [Obj.isCells] at hc
  rw [World.putObj, Array.getElem?_setIfInBounds_ne this]
  exact x

/-- What types.Of must tell of a tree for read to go on. -/
def OfSaid (S : List TypeId) (t : Tw.T) (shown : List UInt8) : Prop := ∀ (w : World) (hi : Nat) (tv : Value), Rep w 0 hi t tv → Calls Tryz.prog 34 #[tv] w fun e w' => e = .returned (.tuple #[bytesV shown, .bool true]) ∧ TK w.heap.size S w w'

theorem splitFrom_len {l : List UInt8} : ∀ (fuel k : Nat) (acc ts : List Tw.Tok), Tw.splitFrom l fuel k acc = .ok ts → acc.length ≤ k → k ≤ l.length → 0 < ts.length ∧ ts.length ≤ l.length + 1
  | 0, _, _, _, h, _, _ => by simp [Tw.splitFrom] at h
  | n + 1, k, acc, ts, h, ha, hk => by
    rw [Tw.splitFrom] at h
    split at h
    · rename_i hlt
      have hl : 0 < (l.drop k).length := by simp; omega
      have g1 := Tw.gapL_le (l.drop k) hl
      have f1 := Tw.firstL_le (l.drop k) hl
      simp only [List.length_drop] at g1 f1
      split at h
      · exact splitFrom_len n _ _ _ h (by omega) (by omega)
      · split at h
        · cases h
        · rename_i h0
          exact splitFrom_len n _ _ _ h (by simp; omega) (by omega)
    · cases h
      simp
      omega

theorem split_len {l : List UInt8} {ts : List Tw.Tok} (h : Tw.split l = .ok ts) (hl : l.length ≤ 300) : 0 < ts.length ∧ ts.length ≤ 301 := by
  have := splitFrom_len _ _ _ _ h (by simp) (by omega)
  omega

theorem grown_of_below {w w' : World} (h : Below w.heap.size w w') : w.grownBy w' none := ⟨h.os, h.tape, h.output, h.size, fun k hk _ => h.block k hk⟩

theorem Rep.kp {w w' : World} {lo hi : Nat} (hk : Kp w w') : ∀ {t : Tw.T} {v : Value}, Rep w lo hi t v → Rep w' lo hi t v
  | .name .., _, h => nodeAt.kp h hk (by decide)
  | .int .., _, h => nodeAt.kp h hk (by decide)
  | .truth .., _, h => nodeAt.kp h hk (by decide)
  | .side .., _, h => nodeAt.kp h hk (by decide)
  | .bracket .., _, ⟨v1, h, r1⟩ => ⟨v1, h.kp hk (by decide), Rep.kp hk r1⟩
  | .pair .., _, ⟨v1, v2, h, r1, r2⟩ => ⟨v1, v2, h.kp hk (by decide), Rep.kp hk r1, Rep.kp hk r2⟩
  | .call .., _, ⟨v1, v2, h, r1, r2⟩ => ⟨v1, v2, h.kp hk (by decide), Rep.kp hk r1, Rep.kp hk r2⟩
  | .binary .., _, ⟨v1, v2, h, r1, r2⟩ => ⟨v1, v2, h.kp hk (by decide), Rep.kp hk r1, Rep.kp hk r2⟩
  | .cond .., _, ⟨v1, v2, v3, h, r1, r2, r3⟩ => ⟨v1, v2, v3, h.kp hk (by decide), Rep.kp hk r1, Rep.kp hk r2, Rep.kp hk r3⟩
  | .fn .., _, ⟨v1, h, r1⟩ => ⟨v1, h.kp hk (by decide), Rep.kp hk r1⟩
  | .lett .., _, ⟨v1, v2, h, r1, r2⟩ => ⟨v1, v2, h.kp hk (by decide), Rep.kp hk r1, Rep.kp hk r2⟩

theorem TK.kp {B : Nat} {S : List TypeId} {w w' : World} (h : TK B S w w') (hS : keepT.all (fun t => !S.contains t) = true) : Kp w w' := fun _ _ t _ x y =>
  h.cells x (by have := List.all_eq_true.1 hS t (by simpa using y); simpa using this)

theorem one_cell {w : World} {b : Nat} {x : Value} {t : TypeId} (h : w.heap[b]? = some (.cells #[x] t (0, 0))) : w.cell? ⟨b, 0, none⟩ = some x ∧ w.frozen? ⟨b, 0, none⟩ = false := by
  refine ⟨?_, frozen_of_row _ _ _ _ _ h⟩
  rw [cell_of_row w b _ _ _ _ h]
  rfl

/-- Every name has a binder. -/
def AllBound (t : Tw.T) : Prop := ∀ (w : World) (hi : Nat) (tv : Value) (L : List NB), NL w hi t tv .nil L → ∀ x ∈ L, ∃ a, x.k = some a

set_option maxRecDepth 100000 in
set_option maxHeartbeats 4000000 in
theorem read_fine (hIB : Said.IndexByte) (hPI : Said.ParseInt) {S : List TypeId} {t : Tw.T} {shown : List UInt8} (hOf : OfSaid S t shown) (s : ByteArray) (hs : s.size ≤ 300) {ts : List Tw.Tok} (h1 : Tw.split s.data.toList = .ok ts) {fuel : Nat} (h2 : Tw.parseS s.data.toList ts fuel = some (.ok t))
    (h3 : AllBound t) {k : Nat} (h4 : Tw.weightS t .nil = some k) (h5 : k ≤ 2000) (hS : (keepT ++ [27, 3]).all (fun t => !S.contains t) = true) (w : World) :
    Calls Tryz.prog 32 #[.string s] w fun e w' => ∃ tv, e = .returned (.tuple #[tv, .int .i64 0, .int .i64 0]) ∧ Rep w' w.heap.size w'.heap.size t tv ∧ TK w.heap.size S w w' := by
  refine (callsIn_wide (n := 3)).1 ?_
  refine callsIn_of_wp_marks Tryz.func32 rfl trivial ?_
  simp only [Tryz.ntmps32, List.size_toArray, List.length_cons, List.length_nil, Nat.reduceAdd, Nat.reduceSub, Array.replicate_succ, Array.replicate_zero, List.push_toArray, List.append_toArray, List.nil_append, List.cons_append]
  have HOF := hide hOf
  have H3 := hide h3
  have H4 := hide h4
  obtain ⟨W0, hW0⟩ : ∃ W0, ((w.alloc (.cells #[.nilIface] 68)).alloc (.cells #[.int .i64 0] 27)).alloc (.cells #[.int .i64 0] 3) = W0 := ⟨_, rfl⟩
  have G0 : Hid (w.grownBy W0 none) := by rw [← hW0]; exact grown_alloc (grown_alloc (grown_alloc (grown_refl _) _) _) _
  have z0 : W0.heap.size = w.heap.size + 3 := by rw [← hW0]; simp
  have C0 : Hid (W0.heap[w.heap.size]? = some (.cells #[.nilIface] 68 (0, 0)) ∧ W0.heap[w.heap.size + 1]? = some (.cells #[.int .i64 0] 27 (0, 0)) ∧ W0.heap[w.heap.size + 2]? = some (.cells #[.int .i64 0] 3 (0, 0))) := by
    rw [← hW0]
    refine ⟨?_, ?_, ?_⟩
    · exact (Below.heap_alloc _ _ _ (by simp; omega)).trans ((Below.heap_alloc _ _ _ (by simp)).trans (new_block w _))
    · have := new_block (w.alloc (.cells #[.nilIface] 68)) (.cells #[.int .i64 0] 27)
      rw [World.size_alloc] at this
      exact (Below.heap_alloc _ _ _ (by simp)).trans this
    · have := new_block ((w.alloc (.cells #[.nilIface] 68)).alloc (.cells #[.int .i64 0] 27)) (.cells #[.int .i64 0] 3)
      rw [World.size_alloc, World.size_alloc] at this
      exact this
  gi_wp2_with fail
  refine ⟨trivial, ?_⟩
  refine (callsIn_wide.2 (split_any hIB s W0 hs)).mono ?_
  rintro e1 w1 ⟨hB1, hm⟩
  rw [h1] at hm
  obtain ⟨v, rfl, ho⟩ := hm
  have hts : 0 < ts.length ∧ ts.length ≤ 301 := split_len h1 (by simpa using hs)
  obtain ⟨gt, cap, cur, rfl, hgt, hTR⟩ := TokRow.of_owns ho hts.1 hts.2
  have B1 := hide hB1
  have T1 := hide hTR
  clear hB1 ho hW0 hTR
  gi_wp2_with fail
  refine ⟨trivial, ?_⟩
  refine (callsIn_wide.2 (Text_any hPI (unhide T1) s hs h2)).mono ?_
  rintro e1 w2 ⟨hg, tv, rfl, hR⟩
  have G2 := hide hg
  have R2 := hide hR
  obtain ⟨PT, nt, rfl⟩ := hR.iface
  clear hg hR T1
  gi_wp2_with fail
  refine ⟨trivial, ?_⟩
  refine (callsIn_wide.2 (Names_any w2 ⟨PT, nt, rfl⟩)).mono ?_
  rintro e1 w3 ⟨rfl, rfl⟩
  gi_wp2_with fail
  obtain ⟨L0, hL0⟩ := NL.of_rep .nil ((unhide R2).wide (Nat.zero_le _) (Nat.le_refl _))
  have hnl := NL.kp (Kp.of_grown (World.grownBy_alloc w2 (.cells #[.iface PT (.pointer (some ⟨nt, 0, none⟩))] 68) none)) hL0
  have hbound := unhide H3 _ _ _ _ hL0
  have hne := new_block w2 (.cells #[.iface PT (.pointer (some ⟨nt, 0, none⟩))] 68)
  refine range_two (p := 34) (q := 35) (d1 := 9) (d2 := 10) (by omega) rfl (enters_of Tryz.func83 (by kernel_rfl) rfl) (names_stops hne hnl) (fun h k => h.trans k) kp_b (Below.refl _ _)
    (fun _ W => Below (w2.heap.size + 1) (w2.alloc (.cells #[.iface PT (.pointer (some ⟨nt, 0, none⟩))] 68)) W) (fun _ _ _ => False) (ownFrom_below (by simp) (by simp)) (fun _ _ _ _ _ hs _ _ => hs) (Below.refl _ _) ?assign ?body ?done ?stop
  case assign =>
    intro l x W K hK
    simp only [List.setIfInBounds_toArray, List.set_cons_zero, List.set_cons_succ] at hK ⊢
    gi_wp2
    exact hK
  case body =>
    rintro l pre ⟨x, hx⟩ W hB hlt
    obtain ⟨a, ha⟩ := hbound x hx
    simp only [List.setIfInBounds_toArray, List.set_cons_zero, List.set_cons_succ, ha]
    gi_wp2
    exact ⟨KeepsOthers.refl _, Kp.refl _, hB⟩
  case stop =>
    rintro D c pre W _ _ h _
    exact h.elim
  case done =>
    rintro D xs W hD hxs hB hK
    have z1 := B1.out.size
    have z2 := G2.out.size
    have z3 := hB.size
    simp only [World.size_alloc] at z3 hD
    have RW : Hid (Rep W w1.heap.size w2.heap.size t (.iface PT (.pointer (some ⟨nt, 0, none⟩)))) := (unhide R2).kept (fun b _ h2 _ => by rw [hB.block b (by omega)]; exact Below.heap_alloc w2 _ b h2) (Nat.le_refl _) (Nat.le_refl _)
    have key : ∀ {b : Nat} {o : Obj}, W0.heap[b]? = some o → W.heap[b]? = some o := fun {b o} h => by
      have hb := (Array.getElem?_eq_some_iff.1 h).1
      rw [hB.block b (by omega), Below.heap_alloc w2 _ b (by omega), G2.out.block b (by omega) (by simp), B1.out.block b hb]
      exact h
    have CW : Hid (W.heap[w.heap.size]? = some (.cells #[.nilIface] 68 (0, 0)) ∧ W.heap[w.heap.size + 1]? = some (.cells #[.int .i64 0] 27 (0, 0)) ∧ W.heap[w.heap.size + 2]? = some (.cells #[.int .i64 0] 3 (0, 0))) :=
      ⟨key C0.out.1, key C0.out.2.1, key C0.out.2.2⟩
    have KW : Hid (TK w.heap.size S w W) := ((TK.of_grown _ S G0.out).trans (((TK.of_grown _ S (grown_of_below B1.out)).trans (TK.of_grown _ S G2.out)).trans (TK.of_grown _ S (grown_trans (World.grownBy_alloc _ _ none) (grown_of_below (by rw [World.size_alloc]; exact hB))))))
    have HK := hide hK
    clear hK hB hxs key C0 B1 G2 R2
    gi_wp2_with fail
    refine ⟨trivial, ?_⟩
    refine (callsIn_wide.2 (Weight_any ((unhide RW).wide (Nat.zero_le _) (Nat.le_refl _)) (unhide H4))).mono ?_
    rintro e1 w4 ⟨rfl, hg⟩
    have zW := hg.size
    have R4 := hide ((unhide RW).grown hg (Nat.le_refl _) (Nat.le_refl _))
    have K4 : Hid (TK w.heap.size S w w4) := KW.out.trans (TK.of_grown _ S hg)
    have key : ∀ {b : Nat} {o : Obj}, W.heap[b]? = some o → w4.heap[b]? = some o := fun {b o} h => (hg.block b (Array.getElem?_eq_some_iff.1 h).1 (by simp)).trans h
    have C4 := hide (And.intro (key CW.out.1) (And.intro (key CW.out.2.1) (key CW.out.2.2)))
    have D4 := hide (key (unhide HK))
    have hk2 : ¬ (2000 : Int) < k := by omega
    clear hg key CW KW RW HK
    gi_wp2_with fail
    refine ⟨trivial, ?_⟩
    refine (callsIn_wide.2 (unhide HOF _ _ _ ((unhide R4).wide (Nat.zero_le _) (Nat.le_refl _)))).mono ?_
    rintro e1 w5 ⟨rfl, hk⟩
    have hS1 : keepT.all (fun t => !S.contains t) = true := by
      rw [List.all_append] at hS
      exact (Bool.and_eq_true_iff.1 hS).1
    have hS2 : ∀ t ∈ [68, 27, 3], S.contains t = false := by
      intro t ht
      have := List.all_eq_true.1 hS t (by
        simp only [List.mem_cons, List.not_mem_nil, or_false] at ht
        rcases ht with rfl | rfl | rfl <;> decide)
      simpa using this
    have z5 := hk.size
    have R5 := hide ((unhide R4).kp (hk.kp hS1))
    have K5 : Hid (TK w.heap.size S w w5) := K4.out.trans (hk.base (by omega))
    have a1 := hk.cells C4.out.1 (hS2 _ (by simp))
    have a2 := hk.cells C4.out.2.1 (hS2 _ (by simp))
    have a3 := hk.cells C4.out.2.2 (hS2 _ (by simp))
    have D5 := hide (hk.other (unhide D4) (by simp))
    obtain ⟨b1, f1⟩ := one_cell a1
    obtain ⟨b2, f2⟩ := one_cell a2
    obtain ⟨b3, f3⟩ := one_cell a3
    clear hk K4 C4 D4 R4
    gi_wp2_with fail
    obtain ⟨W6, hW6⟩ : ∃ W6, ((w5.setCell ⟨w.heap.size, 0, none⟩ (.iface PT (.pointer (some ⟨nt, 0, none⟩)))).setCell ⟨w.heap.size + 1, 0, none⟩ (.int .i64 0)).setCell ⟨w.heap.size + 1 + 1, 0, none⟩ (.int .i64 0) = W6 := ⟨_, rfl⟩
    rw [hW6]
    have other : ∀ b, b ≠ w.heap.size → b ≠ w.heap.size + 1 → b ≠ w.heap.size + 2 → W6.heap[b]? = w5.heap[b]? := fun b n1 n2 n3 => by
      rw [← hW6, heap_setCell_other _ _ _ _ (by simp; omega), heap_setCell_other _ _ _ _ (by simp; omega), heap_setCell_other _ _ _ _ (by simp; omega)]
    have r1 : W6.heap[w.heap.size]? = some (.cells #[.iface PT (.pointer (some ⟨nt, 0, none⟩))] 68 (0, 0)) := by
      rw [← hW6, heap_setCell_other _ _ _ _ (by simp; omega), heap_setCell_other _ _ _ _ (by simp), heap_setCell_same _ _ _ _ _ _ a1]; rfl
    have r2 : W6.heap[w.heap.size + 1]? = some (.cells #[.int .i64 0] 27 (0, 0)) := by
      rw [← hW6, heap_setCell_other _ _ _ _ (by simp), heap_setCell_same _ _ _ _ _ _ (by rw [heap_setCell_other _ _ _ _ (by simp)]; exact a2)]; rfl
    have r3 : W6.heap[w.heap.size + 1 + 1]? = some (.cells #[.int .i64 0] 3 (0, 0)) := by
      rw [← hW6, heap_setCell_same _ _ _ _ _ _ (by rw [heap_setCell_other _ _ _ _ (by simp), heap_setCell_other _ _ _ _ (by simp; omega)]; exact a3)]; rfl
    have hKD : W6.heap[D]? = some (.deferred (some [])) := by rw [other D (by omega) (by omega) (by omega)]; exact unhide D5
    have hsz : W6.heap.size = w5.heap.size := by rw [← hW6]; simp
    have hos : W6.os = w5.os ∧ W6.tape = w5.tape ∧ W6.output = w5.output := by rw [← hW6]; exact ⟨rfl, rfl, rfl⟩
    clear hW6
    refine ⟨by simp, .inl ⟨_, _, rfl, run_takeDeferred hKD, ?_⟩⟩
    have put : ∀ b, b ≠ D → (W6.putObj D (.deferred none)).heap[b]? = W6.heap[b]? := fun b hb => by
      rw [World.putObj, Array.getElem?_setIfInBounds_ne (Ne.symm hb)]
    obtain ⟨e1, _⟩ := one_cell ((put _ (by omega)).trans r1)
    obtain ⟨e2, _⟩ := one_cell ((put _ (by omega)).trans r2)
    obtain ⟨e3, _⟩ := one_cell ((put _ (by omega)).trans r3)
    have hnD : ∀ b, b < w2.heap.size → b ≠ D := fun b hb => by omega
    refine ⟨.tuple #[.iface PT (.pointer (some ⟨nt, 0, none⟩)), .int .i64 0, .int .i64 0], by simp [results, Tryz.results32, go_sem, e1, e2, e3], _, rfl, ?_, ?_⟩
    · refine (unhide R5).kept (fun b hb1 hb2 _ => ?_) (by omega) (by simp [World.putObj]; omega)
      rw [put b (hnD b hb2), other b (by omega) (by omega) (by omega)]
    · have K := K5.out
      refine ⟨fun {k} x y => by rw [put k (by omega), other k (by omega) (by omega) (by omega)]; exact K.low x y, by rw [← K.os, ← hos.1]; rfl, by rw [← K.tape, ← hos.2.1]; rfl, by rw [← K.output, ← hos.2.2]; rfl, by have := K.size; simp [World.putObj]; omega, fun {k c t m} x y => ?_, fun {k o} x y => ?_⟩
      · have hk := (Array.getElem?_eq_some_iff.1 x).1
        rw [put k (by omega), other k (by omega) (by omega) (by omega)]
        exact K.cells x y
      · have hk := (Array.getElem?_eq_some_iff.1 x).1
        rw [put k (by omega), other k (by omega) (by omega) (by omega)]
        exact K.other x y

end Go.Proofs.YtckhafpejefbbaaGreatDoor

/- tailor.Open of a text that is fine; Source; Type. -/
namespace Go.Proofs.YtckhafpejefbbaaGreatDoor
open Go.RowKit Go.Shelf

/-- A text that was opened, in memory. -/
def TextAt (w : World) (bt : Nat) (s : ByteArray) (t : Tw.T) : Prop := ∃ hi tv, w.heap[bt]? = some (.cells #[.string s, tv] 72 (0, 0)) ∧ Rep w 0 hi t tv

theorem TextAt.kp {w w' : World} {bt : Nat} {s : ByteArray} {t : Tw.T} (h : TextAt w bt s t) (hk : Kp w w') (hb : ∀ c m, w.heap[bt]? = some (.cells c 72 m) → w'.heap[bt]? = some (.cells c 72 m)) : TextAt w' bt s t := by
  obtain ⟨hi, tv, h1, h2⟩ := h
  exact ⟨hi, tv, hb _ _ h1, h2.kp hk⟩

theorem TextAt.tk {B : Nat} {S : List TypeId} {w w' : World} {bt : Nat} {s : ByteArray} {t : Tw.T} (h : TextAt w bt s t) (hk : TK B S w w') (hS : (72 :: keepT).all (fun t => !S.contains t) = true) : TextAt w' bt s t := by
  rw [List.all_cons] at hS
  obtain ⟨h1, h2⟩ := Bool.and_eq_true_iff.1 hS
  exact h.kp (hk.kp h2) (fun c m x => hk.cells x (by simpa using h1))

/-- A text and its tree: all that Open looks at is fine. -/
structure Fine (S : List TypeId) (s : ByteArray) (t : Tw.T) (shown : List UInt8) : Prop where
  size : s.size ≤ 300
  split : ∃ ts fuel, Tw.split s.data.toList = .ok ts ∧ Tw.parseS s.data.toList ts fuel = some (.ok t)
  bound : AllBound t
  weight : ∃ k, Tw.weightS t .nil = some k ∧ k ≤ 2000
  of : OfSaid S t shown
  types : (72 :: (keepT ++ [27, 3])).all (fun t => !S.contains t) = true

theorem copy_string (s : ByteArray) (w : World) : ∃ v W, (convert 9 66 (.string s)).run Tryz.prog w = .ok v W ∧ (convert 66 9 v).run Tryz.prog W = .ok (.string s) W ∧ w.grownBy W none := by
  refine ⟨_, _, run_bytes_of_string w _ _ 5 s Tryz.underlying9 Tryz.underlying66 Tryz.underlying5, ?_, grown_trans (grown_drew (grown_refl _)) (World.grownBy_alloc _ _ none)⟩
  have := run_convert_bytes_back (P := Tryz.prog) (w.drew.alloc (.cells (bytesRow s (grownCap w s.size 0 5)) 5 ((bytesRow s (grownCap w s.size 0 5)).size, (bytesRow s (grownCap w s.size 0 5)).size + 1))) 66 9 5 ⟨w.heap.size, 0, none⟩ (grownCap w s.size 0 5) s.data.toList Tryz.underlying66 Tryz.underlying5 Tryz.underlying9 (by
    intro j hj
    rw [show (Addr.add ⟨w.heap.size, 0, none⟩ j) = (⟨w.heap.size, j, none⟩ : Addr) from by simp [Addr.add]; omega]
    have e : w.heap.size = w.drew.heap.size := rfl
    rw [e, World.cell?_alloc_mark, bytesRow_at s _ j (by rw [Array.length_toList] at hj; exact hj)]
    rfl)
  have hl : s.data.toList.length = s.size := Array.length_toList
  rw [hl] at this
  exact this

set_option maxRecDepth 100000 in
set_option maxHeartbeats 2000000 in
theorem Open_fine (hIB : Said.IndexByte) (hPI : Said.ParseInt) {S : List TypeId} {t : Tw.T} {shown : List UInt8} {s : ByteArray} (hF : Fine S s t shown) (w : World) :
    Calls Tryz.prog 16 #[.string s] w fun e w' => ∃ bt, e = .returned (.tuple #[.pointer (some ⟨bt, 0, none⟩), .int .i64 0, .int .i64 0]) ∧ TextAt w' bt s t ∧ TK w.heap.size S w w' := by
  obtain ⟨v, W, hc1, hc2, hg⟩ := copy_string s w
  have G := hide hg
  have HF := hide hF
  have hs := hF.size
  clear hF hg
  have hs2 : ¬ (300 : Int) < s.size := by omega
  go_enter Tryz.func16, Tryz.ntmps16
  go_wp2_with fail
  obtain ⟨ts, fuel, h1, h2⟩ := (unhide HF).split
  obtain ⟨k, h4, h5⟩ := (unhide HF).weight
  have hT := (unhide HF).types
  rw [List.all_cons] at hT
  refine (read_fine hIB hPI (unhide HF).of s hs h1 h2 (unhide HF).bound h4 h5 (Bool.and_eq_true_iff.1 hT).2 W).mono ?_
  rintro e1 w1 ⟨tv, rfl, hR, hk⟩
  have R1 := hide hR
  obtain ⟨PT, nt, rfl⟩ := hR.iface
  have K1 : Hid (TK w.heap.size S w w1) := (TK.of_grown _ S G.out).trans (hk.base G.out.size)
  clear hR hk
  go_wp2_with fail
  go_ret3
  exact ⟨_, rfl, ⟨_, _, new_block w1 _, (unhide R1).grown (World.grownBy_alloc _ _ none) (Nat.zero_le _) (Nat.le_refl _)⟩, K1.out.trans (TK.of_grown _ S (World.grownBy_alloc _ _ none))⟩

set_option maxRecDepth 100000 in
set_option maxHeartbeats 1000000 in
theorem Source_any {w : World} {bt : Nat} {s : ByteArray} {t : Tw.T} (h : TextAt w bt s t) :
    Calls Tryz.prog 25 #[.pointer (some ⟨bt, 0, none⟩)] w fun e w' => e = .returned (.string s) ∧ w = w' := by
  obtain ⟨hi, tv, h1, h2⟩ := h
  obtain ⟨c0, _, _, _⟩ := two_cells h1
  clear h1 h2
  go_enter Tryz.func25, Tryz.ntmps25
  go_wp2_with fail
  go_ret
  exact ⟨rfl, rfl⟩

set_option maxRecDepth 100000 in
set_option maxHeartbeats 1000000 in
theorem Type_any {S : List TypeId} {w : World} {bt : Nat} {s : ByteArray} {t : Tw.T} {shown : List UInt8} (h : TextAt w bt s t) (hOf : OfSaid S t shown) :
    Calls Tryz.prog 22 #[.pointer (some ⟨bt, 0, none⟩)] w fun e w' => e = .returned (bytesV shown) ∧ TK w.heap.size S w w' := by
  obtain ⟨hi, tv, h1, h2⟩ := h
  have R := hide h2
  obtain ⟨PT, nt, rfl⟩ := h2.iface
  obtain ⟨_, c1, _, _⟩ := two_cells h1
  have HO := hide hOf
  clear h1 h2 hOf
  go_enter Tryz.func22, Tryz.ntmps22
  go_wp2_with fail
  refine (unhide HO _ _ _ (unhide R)).mono ?_
  rintro e1 w1 ⟨rfl, hk⟩
  have K := hide hk
  clear hk
  go_wp2_with fail
  go_ret
  exact ⟨rfl, unhide K⟩

theorem IntTyped.said {t : Tw.T} (h : IntTyped t) : OfSaid ShS t [105, 110, 116] := fun _ _ _ hr => Of_int hr h

end Go.Proofs.YtckhafpejefbbaaGreatDoor

/- Package run: values, names and slots in memory. -/
namespace Go.Proofs.YtckhafpejefbbaaGreatDoor
open Go.RowKit

variable {B : Nat}

/-- What names stand for, in memory: sl: where the slots lie. -/
def ERep (w : World) (sl : List Nat) : Tw.VEnv → Value → Prop
  | [], v => v = .pointer none
  | (n, k) :: o, v => ∃ b vo bs, v = .pointer (some ⟨b, 0, none⟩) ∧ sl[k]? = some bs ∧ w.heap[b]? = some (.cells #[bytesV n, .pointer (some ⟨bs, 0, none⟩), vo] 362 (0, 0)) ∧ ERep w sl o vo

/-- A value in memory. -/
def VRep (w : World) (sl : List Nat) : Tw.Val → Value → Prop
  | .num n, v => v = .iface 192 (.int .i64 n) ∧ -9223372036854775808 ≤ n ∧ n ≤ 9223372036854775807
  | .truth b, v => v = .iface 196 (.bool b)
  | .side b, v => v = .iface 203 (.agg #[.bool b])
  | .pair l r, v => ∃ b v1 v2, v = .iface 315 (.pointer (some ⟨b, 0, none⟩)) ∧ w.heap[b]? = some (.cells #[v1, v2] 317 (0, 0)) ∧ VRep w sl l v1 ∧ VRep w sl r v2
  | .clo fr to bn bat body env, v => ∃ b fb ev v1 hi, v = .iface 216 (.pointer (some ⟨b, 0, none⟩)) ∧ w.heap[b]? = some (.cells #[.pointer (some ⟨fb, 0, none⟩), ev] 218 (0, 0)) ∧
    w.heap[fb]? = some (.cells #[.int .i64 (fr : Nat), .int .i64 (to : Nat), bytesV bn, .int .i64 (bat : Nat), v1] 235 (0, 0)) ∧ Rep w 0 hi body v1 ∧ ERep w sl env ev

/-- What a run may turn. -/
abbrev RunS : List TypeId := [311, 117]

theorem ERep.tk {w w' : World} {sl sl' : List Nat} (hk : TK B RunS w w') (hs : sl <+: sl') : ∀ {e : Tw.VEnv} {v : Value}, ERep w sl e v → ERep w' sl' e v
  | [], _, h => h
  | (n, k) :: o, _, ⟨b, vo, bs, hv, hl, hb, ho⟩ => ⟨b, vo, bs, hv, by obtain ⟨r, rfl⟩ := hs; rw [List.getElem?_append_left (List.getElem?_eq_some_iff.1 hl).1]; exact hl, hk.cells hb (by decide), ERep.tk hk hs ho⟩

theorem VRep.tk {w w' : World} {sl sl' : List Nat} (hk : TK B RunS w w') (hs : sl <+: sl') : ∀ {x : Tw.Val} {v : Value}, VRep w sl x v → VRep w' sl' x v
  | .num _, _, h => h
  | .truth _, _, h => h
  | .side _, _, h => h
  | .pair _ _, _, ⟨b, v1, v2, hv, hb, h1, h2⟩ => ⟨b, v1, v2, hv, hk.cells hb (by decide), VRep.tk hk hs h1, VRep.tk hk hs h2⟩
  | .clo .., _, ⟨b, fb, ev, v1, hi, hv, hb, hf, hr, he⟩ => ⟨b, fb, ev, v1, hi, hv, hk.cells hb (by decide), hk.cells hf (by decide), hr.kp (hk.kp (by decide)), he.tk hk hs⟩

theorem ERep.ptr {w : World} {sl : List Nat} {e : Tw.VEnv} {v : Value} (h : ERep w sl e v) : ∃ a, v = .pointer a := by
  cases e with
  | nil => exact ⟨none, h⟩
  | cons x o => obtain ⟨b, _, _, hv, _⟩ := h; exact ⟨_, hv⟩

theorem VRep.iface {w : World} {sl : List Nat} {x : Tw.Val} {v : Value} (h : VRep w sl x v) : ∃ T p, v = .iface T p := by
  cases x with
  | num => exact ⟨_, _, h.1⟩
  | truth => exact ⟨_, _, h⟩
  | side => exact ⟨_, _, h⟩
  | pair => obtain ⟨_, _, _, h, _⟩ := h; exact ⟨_, _, h⟩
  | clo => obtain ⟨_, _, _, _, _, h, _⟩ := h; exact ⟨_, _, h⟩

/-- What a slot holds. -/
def HRep (w : World) (sl : List Nat) : Option Tw.Val → Value → Prop
  | none, v => v = .nilIface
  | some x, v => VRep w sl x v

theorem HRep.tk {w w' : World} {sl sl' : List Nat} (hk : TK B RunS w w') (hs : sl <+: sl') : ∀ {x : Option Tw.Val} {v : Value}, HRep w sl x v → HRep w' sl' x v
  | none, _, h => h
  | some _, _, h => VRep.tk hk hs h

theorem HRep.shape {w : World} {sl : List Nat} {x : Option Tw.Val} {v : Value} (h : HRep w sl x v) : v = .nilIface ∨ ∃ T p, v = .iface T p := by
  cases x with
  | none => exact .inl h
  | some x => exact .inr (VRep.iface h)

/-- A run under way, in memory. -/
structure RunAt B (w : World) (br bud : Nat) (sl : List Nat) (st : Tw.RS) : Prop where
  runner : w.heap[br]? = some (.cells #[.int .i64 bud, .int .i64 st.steps, .int .i64 st.fin] 117 (0, 0))
  len : sl.length = st.slots.length
  nodup : sl.Nodup
  slot : ∀ {i bs : Nat} {ov : Option Tw.Val}, sl[i]? = some bs → st.slots[i]? = some ov → ∃ hv, w.heap[bs]? = some (.cells #[hv] 311 (0, 0)) ∧ HRep w sl ov hv
  steps : st.steps ≤ bud
  bud : bud ≤ 3000
  lob : B ≤ br
  los : ∀ {i bs : Nat}, sl[i]? = some bs → B ≤ bs

theorem RunAt.keep {w w' : World} {br bud : Nat} {sl : List Nat} {st : Tw.RS} (h : RunAt B w br bud sl st) (hk : w.grownBy w' none) : RunAt B w' br bud sl st :=
  { h with
    runner := (hk.block br (Array.getElem?_eq_some_iff.1 h.runner).1 (by simp)).trans h.runner
    slot := fun h1 h2 => by
      obtain ⟨hv, a, b⟩ := h.slot h1 h2
      exact ⟨hv, (hk.block _ (Array.getElem?_eq_some_iff.1 a).1 (by simp)).trans a, b.tk (TK.of_grown 0 _ hk) (List.prefix_refl _)⟩ }

theorem TK.set {S : List TypeId} {w : World} {b j : Nat} {v : Value} {c : Array Value} {t : TypeId} {m : Nat × Nat} (hb : w.heap[b]? = some (.cells c t m)) (ht : S.contains t = true) (hB : B ≤ b) : TK B S w (w.setCell ⟨b, j, none⟩ v) := by
  refine ⟨fun {k} x _ => heap_setCell_other _ _ _ _ (by simp; omega), rfl, rfl, rfl, by simp, fun {k c' t' m'} x y => ?_, fun {k o} x y => ?_⟩
  · by_cases hk : k = b
    · subst hk
      rw [hb] at x
      cases x
      rw [ht] at y
      cases y
    · rw [heap_setCell_other _ _ _ _ (by simpa using hk)]
      exact x
  · by_cases hk : k = b
    · subst hk
      rw [hb] at x
      cases x
      exact absurd rfl (y _ _ _)
    · rw [heap_setCell_other _ _ _ _ (by simpa using hk)]
      exact x

theorem RunAt.ne {w : World} {br bud : Nat} {sl : List Nat} {st : Tw.RS} (h : RunAt B w br bud sl st) {i bs : Nat} (hs : sl[i]? = some bs) : bs ≠ br := by
  have hi : i < st.slots.length := by rw [← h.len]; exact (List.getElem?_eq_some_iff.1 hs).1
  obtain ⟨hv, a, _⟩ := h.slot hs (List.getElem?_eq_getElem hi)
  intro e
  subst e
  rw [h.runner] at a
  simp at a

theorem RunAt.setEnd {w : World} {br bud : Nat} {sl : List Nat} {st : Tw.RS} (h : RunAt B w br bud sl st) (k : Int) : RunAt B (w.setCell ⟨br, 2, none⟩ (.int .i64 k)) br bud sl { st with fin := k } := by
  refine { h with runner := by rw [heap_setCell_same _ _ _ _ _ _ h.runner]; rfl, slot := fun {i bs ov} h1 h2 => ?_ }
  obtain ⟨hv, a, b⟩ := h.slot h1 h2
  exact ⟨hv, by rw [heap_setCell_other _ _ _ _ (by simpa using h.ne h1)]; exact a, b.tk (TK.set h.runner (by decide) h.lob) (List.prefix_refl _)⟩

theorem RunAt.setSteps {w : World} {br bud : Nat} {sl : List Nat} {st : Tw.RS} (h : RunAt B w br bud sl st) (k : Nat) (hk : k ≤ bud) : RunAt B (w.setCell ⟨br, 1, none⟩ (.int .i64 k)) br bud sl { st with steps := k } := by
  refine { h with runner := by rw [heap_setCell_same _ _ _ _ _ _ h.runner]; rfl, steps := hk, slot := fun {i bs ov} h1 h2 => ?_ }
  obtain ⟨hv, a, b⟩ := h.slot h1 h2
  exact ⟨hv, by rw [heap_setCell_other _ _ _ _ (by simpa using h.ne h1)]; exact a, b.tk (TK.set h.runner (by decide) h.lob) (List.prefix_refl _)⟩

theorem RunAt.newSlot {w : World} {br bud : Nat} {sl : List Nat} {st : Tw.RS} (h : RunAt B w br bud sl st) {ov : Option Tw.Val} {hv : Value} (hh : HRep w sl ov hv) : RunAt B (w.alloc (.cells #[hv] 311)) br bud (sl ++ [w.heap.size]) { st with slots := st.slots ++ [ov] } := by
  have hg := World.grownBy_alloc w (.cells #[hv] 311) none
  have hp : sl <+: sl ++ [w.heap.size] := List.prefix_append _ _
  refine { runner := (h.keep hg).runner, len := by simp [h.len], nodup := ?_, slot := fun {i bs ov'} h1 h2 => ?_, steps := h.steps, bud := h.bud, lob := h.lob, los := fun {i bs} h1 => ?_ }
  · rw [List.nodup_append]
    refine ⟨h.nodup, by simp, ?_⟩
    intro a ha b hb
    simp only [List.mem_singleton] at hb
    subst hb
    obtain ⟨i, hi⟩ := List.mem_iff_getElem?.1 ha
    have hi' : i < st.slots.length := by rw [← h.len]; exact (List.getElem?_eq_some_iff.1 hi).1
    obtain ⟨hv', a', _⟩ := h.slot hi (List.getElem?_eq_getElem hi')
    have := (Array.getElem?_eq_some_iff.1 a').1
    omega
  · rcases Nat.lt_or_ge i sl.length with hi | hi
    · rw [List.getElem?_append_left hi] at h1
      rw [List.getElem?_append_left (by rw [← h.len]; exact hi)] at h2
      obtain ⟨hv', a, b⟩ := h.slot h1 h2
      exact ⟨hv', (hg.block _ (Array.getElem?_eq_some_iff.1 a).1 (by simp)).trans a, b.tk (TK.of_grown 0 _ hg) hp⟩
    · have hi2 : i = sl.length := by
        have := (List.getElem?_eq_some_iff.1 h1).1
        simp at this
        omega
      subst hi2
      simp only [List.getElem?_concat_length, Option.some.injEq] at h1
      rw [h.len] at h2
      simp only [List.getElem?_concat_length, Option.some.injEq] at h2
      subst h1
      subst h2
      exact ⟨hv, new_block w _, hh.tk (TK.of_grown 0 _ hg) hp⟩
  · rcases Nat.lt_or_ge i sl.length with hi | hi
    · rw [List.getElem?_append_left hi] at h1
      exact h.los h1
    · have hi2 : i = sl.length := by
        have := (List.getElem?_eq_some_iff.1 h1).1
        simp at this
        omega
      subst hi2
      simp only [List.getElem?_concat_length, Option.some.injEq] at h1
      have := h.lob
      have := (Array.getElem?_eq_some_iff.1 h.runner).1
      omega

theorem RunAt.setSlot {w : World} {br bud : Nat} {sl : List Nat} {st : Tw.RS} (h : RunAt B w br bud sl st) {i bs : Nat} (hi : sl[i]? = some bs) {x : Tw.Val} {v : Value} (hx : VRep w sl x v) : RunAt B (w.setCell ⟨bs, 0, none⟩ v) br bud sl { st with slots := st.slots.set i (some x) } ∧ TK B RunS w (w.setCell ⟨bs, 0, none⟩ v) := by
  have hi' : i < st.slots.length := by rw [← h.len]; exact (List.getElem?_eq_some_iff.1 hi).1
  obtain ⟨hv0, a0, _⟩ := h.slot hi (List.getElem?_eq_getElem hi')
  have K : TK B RunS w (w.setCell ⟨bs, 0, none⟩ v) := TK.set a0 (by decide) (h.los hi)
  refine ⟨{ h with runner := by rw [heap_setCell_other _ _ _ _ (by simpa using (h.ne hi).symm)]; exact h.runner, len := by simpa using h.len, slot := fun {j bs' ov} h1 h2 => ?_ }, K⟩
  by_cases hj : j = i
  · subst hj
    rw [hi] at h1
    cases h1
    simp only [List.getElem?_set_self hi', Option.some.injEq] at h2
    subst h2
    exact ⟨v, by rw [heap_setCell_same _ _ _ _ _ _ a0]; rfl, VRep.tk K (List.prefix_refl _) hx⟩
  · simp only [List.getElem?_set_ne (Ne.symm hj)] at h2
    obtain ⟨hv', a, b⟩ := h.slot h1 h2
    have hne : bs' ≠ bs := by
      intro e
      subst e
      exact hj ((List.getElem?_inj (List.getElem?_eq_some_iff.1 h1).1 h.nodup).1 (h1.trans hi.symm))
    exact ⟨hv', by rw [heap_setCell_other _ _ _ _ (by simpa using hne)]; exact a, b.tk K (List.prefix_refl _)⟩

/-- What comes of running. -/
def EvPost (B : Nat) (w : World) (br bud : Nat) (sl : List Nat) (r : Option Tw.Val × Tw.RS) (e : Ending) (w' : World) : Prop :=
  ∃ v sl', e = .returned v ∧ HRep w' sl' r.1 v ∧ TK B RunS w w' ∧ sl <+: sl' ∧ RunAt B w' br bud sl' r.2

theorem EvPost.from {w w0 : World} {br bud : Nat} {sl sl0 : List Nat} {r : Option Tw.Val × Tw.RS} {e : Ending} {w' : World} (h : EvPost B w br bud sl r e w') (hk : TK B RunS w0 w) (hs : sl0 <+: sl) : EvPost B w0 br bud sl0 r e w' := by
  obtain ⟨v, sl', he, hv, hk', hs', hr⟩ := h
  exact ⟨v, sl', he, hv, hk.trans hk', hs.trans hs', hr⟩

set_option maxRecDepth 100000 in
set_option maxHeartbeats 1000000 in
theorem withR_any {w : World} {sl : List Nat} {e : Tw.VEnv} {v : Value} (he : ERep w sl e v) (n : List UInt8) {k bs : Nat} (hk : sl[k]? = some bs) :
    Calls Tryz.prog 170 #[v, bytesV n, .pointer (some ⟨bs, 0, none⟩)] w fun r w' => ∃ a, r = .returned (.pointer a) ∧ w.grownBy w' none ∧ ERep w' sl ((n, k) :: e) (.pointer a) := by
  have HE := hide he
  have HK := hide hk
  obtain ⟨a, rfl⟩ := he.ptr
  clear he hk
  go_enter Tryz.func170, Tryz.ntmps170
  go_wp2_with fail
  go_ret
  exact ⟨_, rfl, World.grownBy_alloc _ _ none, _, _, _, rfl, unhide HK, new_block w _, (unhide HE).tk (TK.of_grown 0 _ (World.grownBy_alloc _ _ none)) (List.prefix_refl _)⟩

set_option maxRecDepth 100000 in
set_option maxHeartbeats 2000000 in
theorem findR_any {w : World} {sl : List Nat} {e : Tw.VEnv} {v : Value} (he : ERep w sl e v) (x : List UInt8) {k : Nat} (hm : Tw.lookV e x = some k) :
    Calls Tryz.prog 165 #[v, bytesV x] w fun r w' => ∃ bs, sl[k]? = some bs ∧ r = .returned (.tuple #[.pointer (some ⟨bs, 0, none⟩), .bool true]) ∧ w = w' := by
  have HE := hide he
  have HM := hide hm
  clear he hm
  go_enter Tryz.func165, Tryz.ntmps165
  go_wp2_with fail
  go_loopg [0] e.length (fun j pv wr => wr = w ∧ ∃ ek : Tw.VEnv, j = ek.length ∧ Hid (ERep w sl ek pv) ∧ Hid (Tw.lookV ek x = some k))
  case atStart => exact ⟨rfl, e, rfl, HE, HM⟩
  case round =>
    obtain ⟨hw, ek, hks, HK, HL⟩ := hrel
    subst hw
    cases ek with
    | nil => have := HL.out; simp [Tw.lookV] at this
    | cons q o =>
      obtain ⟨n, r⟩ := q
      obtain ⟨b, vo, bs, hv, hsl, hb, ho⟩ := HK.out
      obtain ⟨a, rfl⟩ := ho.ptr
      subst hv
      obtain ⟨c0, c1, c2, _⟩ := three_cells hb
      have HO := hide ho
      have HS := hide hsl
      have hl := HL.out
      simp only [Tw.lookV] at hl
      clear HK HL hb ho HE HM hsl
      by_cases hn : n = x
      · rw [if_pos hn] at hl
        simp only [Option.some.injEq] at hl
        subst hl
        have be : (n == x) = true := by simp [hn]
        clear hn
        go_wp2_with fail
        go_ret2
        exact ⟨bs, unhide HS, rfl, rfl⟩
      · rw [if_neg hn] at hl
        have be : (n == x) = false := by simp [hn]
        have HL := hide hl
        clear hn hl
        go_wp2_with fail
        go_roundg o.length
        case measure => simp at hks; omega
        case rel => exact ⟨rfl, o, rfl, HO, HL⟩

set_option maxRecDepth 100000 in
set_option maxHeartbeats 1000000 in
theorem fault_any {w : World} {br bud : Nat} {sl : List Nat} {st : Tw.RS} (h : RunAt B w br bud sl st) :
    Calls Tryz.prog 166 #[.pointer (some ⟨br, 0, none⟩)] w (EvPost B w br bud sl (none, { st with fin := 1 })) := by
  have H := hide h
  obtain ⟨c0, c1, c2, f0, f1, f2⟩ := three_cells h.runner
  clear h
  go_enter Tryz.func166, Tryz.ntmps166
  go_wp2_with fail
  go_ret
  exact ⟨_, sl, rfl, rfl, TK.set (unhide H).runner (by decide) (unhide H).lob, List.prefix_refl _, (unhide H).setEnd 1⟩

set_option maxRecDepth 100000 in
set_option maxHeartbeats 1000000 in
theorem rname_any {w : World} {br bud b n : Nat} {sl : List Nat} {st : Tw.RS} (h : RunAt B w br bud sl st) {fr to : Nat} {x : List UInt8} (hb : w.heap[b]? = some (.cells #[.int .i64 fr, .int .i64 to, bytesV x] 87 (0, 0))) {e : Tw.VEnv} {ev : Value} (he : ERep w sl e ev)
    {r : Option Tw.Val × Tw.RS} (hf : Tw.evalS bud (n + 1) (.name fr to x) e st = some r) :
    Calls Tryz.prog 88 #[.pointer (some ⟨br, 0, none⟩), .pointer (some ⟨b, 0, none⟩), ev] w (EvPost B w br bud sl r) := by
  rw [Tw.evalS] at hf
  obtain ⟨i, hi, hf⟩ := Option.bind_eq_some_iff.1 hf
  have HH := hide h
  have HE := hide he
  have HI := hide hi
  obtain ⟨c0, c1, c2, _⟩ := three_cells hb
  obtain ⟨a, rfl⟩ := he.ptr
  clear h he hi hb c0 c1
  go_enter Tryz.func88, Tryz.ntmps88
  go_wp2_with fail
  refine (findR_any (unhide HE) x (unhide HI)).mono ?_
  rintro e1 w1 ⟨bs, hbs, rfl, rfl⟩
  cases hs : st.slots[i]? with
  | none => rw [hs] at hf; simp at hf
  | some ov =>
    rw [hs] at hf
    obtain ⟨hv, hc, hr⟩ := (unhide HH).slot hbs hs
    obtain ⟨d0, _⟩ := one_cell hc
    cases ov with
    | none =>
      simp only [Option.some.injEq] at hf
      subst hf
      obtain rfl : hv = .nilIface := hr
      clear hc hbs hs
      go_wp2_with fail
      refine (fault_any (unhide HH)).mono ?_
      rintro e1 w1 h1
      obtain ⟨v, sl', rfl, hv, hk, hp, hR⟩ := h1
      obtain rfl : v = .nilIface := hv
      have X : Hid (EvPost B w br bud sl (none, { st with fin := 1 }) (.returned .nilIface) w1) := ⟨_, sl', rfl, rfl, hk, hp, hR⟩
      clear hk hp hR
      go_wp2_with fail
      go_ret
      exact unhide X
    | some y =>
      simp only [Option.some.injEq] at hf
      subst hf
      have HR := hide hr
      obtain ⟨T, p, rfl⟩ := VRep.iface hr
      clear hc hbs hs hr
      go_wp2_with fail
      go_ret
      exact ⟨_, sl, rfl, unhide HR, TK.refl _ _ _, List.prefix_refl _, unhide HH⟩

end Go.Proofs.YtckhafpejefbbaaGreatDoor

/- Package run: both, pair, part. -/
namespace Go.Proofs.YtckhafpejefbbaaGreatDoor
open Go.RowKit

variable {B : Nat}

/-- What eval tells, with so much fuel. -/
def EvSaid (B n : Nat) : Prop := ∀ {w : World} {br bud hi : Nat} {sl : List Nat} {st : Tw.RS} {t : Tw.T} {e : Tw.VEnv} {tv ev : Value} {r : Option Tw.Val × Tw.RS}, RunAt B w br bud sl st → Rep w 0 hi t tv → ERep w sl e ev → Tw.evalS bud n t e st = some r →
    Calls Tryz.prog 50 #[.pointer (some ⟨br, 0, none⟩), tv, ev] w (EvPost B w br bud sl r)

def BothIs (w : World) (sl : List Nat) : Option (Tw.Val × Tw.Val) → Bool → Value → Value → Prop
  | none, ok, v1, v2 => ok = false ∧ (v1 = .nilIface ∨ ∃ T p, v1 = .iface T p) ∧ v2 = .nilIface
  | some (x, y), ok, v1, v2 => ok = true ∧ VRep w sl x v1 ∧ VRep w sl y v2

def BothPost (B : Nat) (w : World) (br bud : Nat) (sl : List Nat) (r : Option (Tw.Val × Tw.Val) × Tw.RS) (e : Ending) (w' : World) : Prop :=
  ∃ v1 v2 ok sl', e = .returned (.tuple #[v1, v2, .bool ok]) ∧ BothIs w' sl' r.1 ok v1 v2 ∧ TK B RunS w w' ∧ sl <+: sl' ∧ RunAt B w' br bud sl' r.2

set_option maxRecDepth 100000 in
set_option maxHeartbeats 2000000 in
theorem both_any {n : Nat} (hE : EvSaid B n) {w : World} {br bud hi : Nat} {sl : List Nat} {st : Tw.RS} {l r : Tw.T} {e : Tw.VEnv} {lv rv ev : Value} {c : Option (Tw.Val × Tw.Val) × Tw.RS} (h : RunAt B w br bud sl st) (hl : Rep w 0 hi l lv) (hr : Rep w 0 hi r rv) (he : ERep w sl e ev) (hf : Tw.bothS bud n l r e st = some c) :
    Calls Tryz.prog 167 #[.pointer (some ⟨br, 0, none⟩), lv, rv, ev] w (BothPost B w br bud sl c) := by
  unfold Tw.bothS at hf
  obtain ⟨a, ha, hf⟩ := Option.bind_eq_some_iff.1 hf
  have HH := hide h
  have HL := hide hl
  have HR := hide hr
  have HE := hide he
  have HA := hide ha
  obtain ⟨T1, k1, rfl⟩ := hl.iface
  obtain ⟨T2, k2, rfl⟩ := hr.iface
  obtain ⟨q, rfl⟩ := he.ptr
  clear h hl hr he ha
  go_enter Tryz.func167, Tryz.ntmps167
  go_wp2_with fail
  refine (hE (unhide HH) (unhide HL) (unhide HE) (unhide HA)).mono ?_
  rintro e1 w1 ⟨v1, sl1, rfl, hv1, hk1, hp1, hR1⟩
  obtain ⟨a1, a2⟩ := a
  cases a1 with
  | none =>
    simp only [Option.some.injEq] at hf
    subst hf
    obtain rfl : v1 = .nilIface := hv1
    have X : Hid (TK B RunS w w1 ∧ sl <+: sl1 ∧ RunAt B w1 br bud sl1 a2) := ⟨hk1, hp1, hR1⟩
    clear hk1 hp1 hR1
    go_wp2_with fail
    go_ret3
    exact ⟨_, _, _, sl1, rfl, ⟨rfl, .inl rfl, rfl⟩, X.out⟩
  | some x =>
    simp only at hf
    obtain ⟨b, hb, hf⟩ := Option.bind_eq_some_iff.1 hf
    have HB := hide hb
    have V1 : Hid (VRep w1 sl1 x v1) := hv1
    have K1 := hide hk1
    have P1 := hide hp1
    have R1 := hide hR1
    obtain ⟨T3, p3, rfl⟩ := VRep.iface hv1
    clear hv1 hk1 hp1 hR1 hb
    go_wp2_with fail
    refine (hE (unhide R1) ((unhide HR).kp ((unhide K1).kp (by decide))) ((unhide HE).tk (unhide K1) (unhide P1)) (unhide HB)).mono ?_
    rintro e1 w2 ⟨v2, sl2, rfl, hv2, hk2, hp2, hR2⟩
    have D2 : Hid (TK B RunS w2 w2.drew) := TK.of_grown _ _ (grown_drew (grown_refl _))
    have X : Hid (TK B RunS w w2.drew ∧ sl <+: sl2 ∧ RunAt B w2.drew br bud sl2 b.2) := ⟨((unhide K1).trans hk2).trans D2.out, (unhide P1).trans hp2, hR2.keep (grown_drew (grown_refl _))⟩
    have V2 := hide (((unhide V1).tk hk2 hp2).tk D2.out (List.prefix_refl _))
    obtain ⟨b1, b2⟩ := b
    cases b1 with
    | none =>
      simp only [Option.some.injEq] at hf
      subst hf
      obtain rfl : v2 = .nilIface := hv2
      clear hk2 hp2 hR2
      go_wp2_with fail
      go_region
      go_wp2_with fail
      go_ret3
      exact ⟨_, _, _, sl2, rfl, ⟨rfl, .inr ⟨_, _, rfl⟩, rfl⟩, X.out⟩
    | some y =>
      simp only [Option.some.injEq] at hf
      subst hf
      have V3 : Hid (VRep w2.drew sl2 y v2) := VRep.tk D2.out (List.prefix_refl _) hv2
      obtain ⟨T4, p4, rfl⟩ := VRep.iface hv2
      clear hv2 hk2 hp2 hR2
      go_wp2_with fail
      go_region
      go_wp2_with fail
      go_ret3
      exact ⟨_, _, _, sl2, rfl, ⟨rfl, unhide V2, unhide V3⟩, X.out⟩

theorem four_cells2 {w : World} {b : Nat} {x y z u : Value} {t : TypeId} (h : w.heap[b]? = some (.cells #[x, y, z, u] t (0, 0))) : w.cell? ⟨b, 2, none⟩ = some z ∧ w.cell? ⟨b, 3, none⟩ = some u := by
  constructor <;> (rw [cell_of_row w b _ _ _ _ h]; rfl)

set_option maxRecDepth 100000 in
set_option maxHeartbeats 2000000 in
theorem rpair_any {n : Nat} (hE : EvSaid B n) {w : World} {br bud hi b : Nat} {sl : List Nat} {st : Tw.RS} {l r : Tw.T} {e : Tw.VEnv} {lv rv ev : Value} {fr to : Nat} {c : Option Tw.Val × Tw.RS} (h : RunAt B w br bud sl st)
    (hb : w.heap[b]? = some (.cells #[.int .i64 fr, .int .i64 to, lv, rv] 229 (0, 0))) (hl : Rep w 0 hi l lv) (hr : Rep w 0 hi r rv) (he : ERep w sl e ev) (hf : Tw.evalS bud (n + 1) (.pair fr to l r) e st = some c) :
    Calls Tryz.prog 89 #[.pointer (some ⟨br, 0, none⟩), .pointer (some ⟨b, 0, none⟩), ev] w (EvPost B w br bud sl c) := by
  rw [Tw.evalS_pair] at hf
  obtain ⟨a, ha, hf⟩ := Option.bind_eq_some_iff.1 hf
  have HH := hide h
  have HL := hide hl
  have HR := hide hr
  have HE := hide he
  have HA := hide ha
  have B0 := hide hb
  obtain ⟨T1, k1, rfl⟩ := hl.iface
  obtain ⟨T2, k2, rfl⟩ := hr.iface
  obtain ⟨q, rfl⟩ := he.ptr
  obtain ⟨c2, c3⟩ := four_cells2 hb
  have D1 : Hid (w.grownBy w.drew none) := grown_drew (grown_refl _)
  clear h hl hr he ha hb
  go_enter Tryz.func89, Tryz.ntmps89
  go_wp2_with fail
  go_region_held3 (fun W => W.cell? ⟨b, 2, none⟩ = some (.iface T1 (.pointer (some ⟨k1, 0, none⟩))) ∧ W.cell? ⟨b, 3, none⟩ = some (.iface T2 (.pointer (some ⟨k2, 0, none⟩)))) (go_keep)
    ((go_at_call 167; refine (both_any hE ((unhide HH).keep D1.out) ((unhide HL).grown D1.out (Nat.le_refl _) (Nat.le_refl _)) ((unhide HR).grown D1.out (Nat.le_refl _) (Nat.le_refl _)) ((unhide HE).tk (TK.of_grown 0 _ D1.out) (List.prefix_refl _)) (unhide HA)).mono ?_; rintro e1 w1 ⟨v1, v2, ok, sl1, rfl, hm, hk, hp, hR⟩
      have K1 : Hid (TK B RunS w w1) := (TK.of_grown _ _ D1.out).trans hk
      have P1 := hide hp
      have R1 := hide hR
      have HM := hide hm
      obtain ⟨d2, d3⟩ := four_cells2 (K1.out.cells B0.out (by decide))
      clear hk hp hR hm))
  obtain ⟨a1, a2⟩ := a
  cases a1 with
  | none =>
    obtain ⟨rfl, h1, rfl⟩ := HM.out
    simp only [Option.some.injEq] at hf
    subst hf
    go_wp2_with fail
    go_ret
    exact ⟨_, sl1, rfl, rfl, K1.out, unhide P1, unhide R1⟩
  | some xy =>
    obtain ⟨x, y⟩ := xy
    obtain ⟨rfl, h1, h2⟩ := HM.out
    simp only [Option.some.injEq] at hf
    subst hf
    have V1 := hide h1
    have V2 := hide h2
    obtain ⟨T3, p3, rfl⟩ := VRep.iface h1
    obtain ⟨T4, p4, rfl⟩ := VRep.iface h2
    clear h1 h2 HM
    go_wp2_with fail
    go_ret
    have G := World.grownBy_alloc w1 (.cells #[.iface T3 p3, .iface T4 p4] 317) none
    exact ⟨_, sl1, rfl, ⟨_, _, _, rfl, new_block w1 _, (unhide V1).tk (TK.of_grown 0 _ G) (List.prefix_refl _), (unhide V2).tk (TK.of_grown 0 _ G) (List.prefix_refl _)⟩, K1.out.trans (TK.of_grown _ _ G), unhide P1, (unhide R1).keep G⟩

end Go.Proofs.YtckhafpejefbbaaGreatDoor

/- Package run: part, apply, call. -/
namespace Go.Proofs.YtckhafpejefbbaaGreatDoor
open Go.RowKit

variable {B : Nat}

theorem va_num_clo (p : Value) (w : World) : Sem.run Tryz.prog (Instr.typeAssert (.iface 192 p) 119 216 true) w = .ok (.tuple #[.pointer none, .bool false]) w := by kernel_rfl
theorem va_num_side (p : Value) (w : World) : Sem.run Tryz.prog (Instr.typeAssert (.iface 192 p) 119 203 true) w = .ok (.tuple #[.agg #[.bool false], .bool false]) w := by kernel_rfl
theorem va_num_pair (p : Value) (w : World) : Sem.run Tryz.prog (Instr.typeAssert (.iface 192 p) 119 315 true) w = .ok (.tuple #[.pointer none, .bool false]) w := by kernel_rfl
theorem va_num_num (p : Value) (w : World) : Sem.run Tryz.prog (Instr.typeAssert (.iface 192 p) 119 192 true) w = .ok (.tuple #[p, .bool true]) w := by kernel_rfl
theorem va_truth_clo (p : Value) (w : World) : Sem.run Tryz.prog (Instr.typeAssert (.iface 196 p) 119 216 true) w = .ok (.tuple #[.pointer none, .bool false]) w := by kernel_rfl
theorem va_truth_side (p : Value) (w : World) : Sem.run Tryz.prog (Instr.typeAssert (.iface 196 p) 119 203 true) w = .ok (.tuple #[.agg #[.bool false], .bool false]) w := by kernel_rfl
theorem va_truth_pair (p : Value) (w : World) : Sem.run Tryz.prog (Instr.typeAssert (.iface 196 p) 119 315 true) w = .ok (.tuple #[.pointer none, .bool false]) w := by kernel_rfl
theorem va_truth_num (p : Value) (w : World) : Sem.run Tryz.prog (Instr.typeAssert (.iface 196 p) 119 192 true) w = .ok (.tuple #[.int .i64 0, .bool false]) w := by kernel_rfl
theorem va_side_clo (p : Value) (w : World) : Sem.run Tryz.prog (Instr.typeAssert (.iface 203 p) 119 216 true) w = .ok (.tuple #[.pointer none, .bool false]) w := by kernel_rfl
theorem va_side_side (p : Value) (w : World) : Sem.run Tryz.prog (Instr.typeAssert (.iface 203 p) 119 203 true) w = .ok (.tuple #[p, .bool true]) w := by kernel_rfl
theorem va_side_pair (p : Value) (w : World) : Sem.run Tryz.prog (Instr.typeAssert (.iface 203 p) 119 315 true) w = .ok (.tuple #[.pointer none, .bool false]) w := by kernel_rfl
theorem va_side_num (p : Value) (w : World) : Sem.run Tryz.prog (Instr.typeAssert (.iface 203 p) 119 192 true) w = .ok (.tuple #[.int .i64 0, .bool false]) w := by kernel_rfl
theorem va_pair_clo (p : Value) (w : World) : Sem.run Tryz.prog (Instr.typeAssert (.iface 315 p) 119 216 true) w = .ok (.tuple #[.pointer none, .bool false]) w := by kernel_rfl
theorem va_pair_side (p : Value) (w : World) : Sem.run Tryz.prog (Instr.typeAssert (.iface 315 p) 119 203 true) w = .ok (.tuple #[.agg #[.bool false], .bool false]) w := by kernel_rfl
theorem va_pair_pair (p : Value) (w : World) : Sem.run Tryz.prog (Instr.typeAssert (.iface 315 p) 119 315 true) w = .ok (.tuple #[p, .bool true]) w := by kernel_rfl
theorem va_pair_num (p : Value) (w : World) : Sem.run Tryz.prog (Instr.typeAssert (.iface 315 p) 119 192 true) w = .ok (.tuple #[.int .i64 0, .bool false]) w := by kernel_rfl
theorem va_clo_clo (p : Value) (w : World) : Sem.run Tryz.prog (Instr.typeAssert (.iface 216 p) 119 216 true) w = .ok (.tuple #[p, .bool true]) w := by kernel_rfl
theorem va_clo_side (p : Value) (w : World) : Sem.run Tryz.prog (Instr.typeAssert (.iface 216 p) 119 203 true) w = .ok (.tuple #[.agg #[.bool false], .bool false]) w := by kernel_rfl
theorem va_clo_pair (p : Value) (w : World) : Sem.run Tryz.prog (Instr.typeAssert (.iface 216 p) 119 315 true) w = .ok (.tuple #[.pointer none, .bool false]) w := by kernel_rfl
theorem va_clo_num (p : Value) (w : World) : Sem.run Tryz.prog (Instr.typeAssert (.iface 216 p) 119 192 true) w = .ok (.tuple #[.int .i64 0, .bool false]) w := by kernel_rfl

set_option maxRecDepth 100000 in
set_option maxHeartbeats 1000000 in
theorem part_any {w : World} {sl : List Nat} {y : Tw.Val} {yv : Value} (hy : VRep w sl y yv) (sec : Bool) :
    Calls Tryz.prog 208 #[yv, .agg #[.bool sec]] w fun e w' => ∃ v, e = .returned v ∧ HRep w' sl (Tw.sideS y sec) v ∧ w.grownBy w' none := by
  cases y with
  | num m =>
    obtain ⟨rfl, _⟩ := hy
    have q := va_num_pair
    go_enter Tryz.func208, Tryz.ntmps208
    go_wp2_with fail
    go_ret
    exact ⟨_, rfl, rfl, World.grownBy_alloc _ _ none⟩
  | truth m =>
    obtain rfl : yv = _ := hy
    have q := va_truth_pair
    go_enter Tryz.func208, Tryz.ntmps208
    go_wp2_with fail
    go_ret
    exact ⟨_, rfl, rfl, World.grownBy_alloc _ _ none⟩
  | side m =>
    obtain rfl : yv = _ := hy
    have q := va_side_pair
    go_enter Tryz.func208, Tryz.ntmps208
    go_wp2_with fail
    go_ret
    exact ⟨_, rfl, rfl, World.grownBy_alloc _ _ none⟩
  | clo fr to bn bat body env =>
    obtain ⟨b, fb, ev, v1, hi, rfl, _⟩ := hy
    have q := va_clo_pair
    go_enter Tryz.func208, Tryz.ntmps208
    go_wp2_with fail
    go_ret
    exact ⟨_, rfl, rfl, World.grownBy_alloc _ _ none⟩
  | pair l r =>
    obtain ⟨b, v1, v2, rfl, hb, h1, h2⟩ := hy
    have q := va_pair_pair
    have V1 := hide h1
    have V2 := hide h2
    obtain ⟨T1, p1, rfl⟩ := VRep.iface h1
    obtain ⟨T2, p2, rfl⟩ := VRep.iface h2
    obtain ⟨c0, c1, _, _⟩ := two_cells hb
    have hbl : b < w.heap.size := (Array.getElem?_eq_some_iff.1 hb).1
    clear h1 h2 hb
    cases sec
    · go_enter Tryz.func208, Tryz.ntmps208
      go_wp2_with fail
      go_ret
      exact ⟨_, rfl, (unhide V1).tk (TK.of_grown 0 _ (World.grownBy_alloc _ _ none)) (List.prefix_refl _), World.grownBy_alloc _ _ none⟩
    · go_enter Tryz.func208, Tryz.ntmps208
      go_wp2_with fail
      go_ret
      exact ⟨_, rfl, (unhide V2).tk (TK.of_grown 0 _ (World.grownBy_alloc _ _ none)) (List.prefix_refl _), World.grownBy_alloc _ _ none⟩

end Go.Proofs.YtckhafpejefbbaaGreatDoor

/- Package run: apply, call. -/
namespace Go.Proofs.YtckhafpejefbbaaGreatDoor
open Go.RowKit

variable {B : Nat}

set_option maxRecDepth 100000 in
set_option maxHeartbeats 4000000 in
theorem apply_clo {n : Nat} (hE : EvSaid B n) {w : World} {br bud : Nat} {sl : List Nat} {st : Tw.RS} {fr to bat : Nat} {bn : List UInt8} {body : Tw.T} {env : Tw.VEnv} {y : Tw.Val} {xv yv : Value} {c : Option Tw.Val × Tw.RS} (h : RunAt B w br bud sl st) (hx : VRep w sl (.clo fr to bn bat body env) xv) (hy : VRep w sl y yv)
    (hf : Tw.applyS bud n (.clo fr to bn bat body env) y st = some c) :
    Calls Tryz.prog 168 #[.pointer (some ⟨br, 0, none⟩), xv, yv] w (EvPost B w br bud sl c) := by
  obtain ⟨b, fb, ev, v1, hi, rfl, hb, hfb, hr, he⟩ := hx
  have q := va_clo_clo
  have HH := hide h
  have VY := hide hy
  have HB := hide hb
  have HFB := hide hfb
  have HR := hide hr
  have HE := hide he
  obtain ⟨T1, p1, rfl⟩ := VRep.iface hy
  obtain ⟨T2, k2, rfl⟩ := hr.iface
  obtain ⟨qa, rfl⟩ := he.ptr
  obtain ⟨c0, c1, c2, f0, f1, f2⟩ := three_cells h.runner
  have hst := h.steps
  have hbd := h.bud
  unfold Tw.applyS at hf
  simp only at hf
  clear h hy hb hfb hr he
  by_cases hs : st.steps = bud
  · rw [if_pos hs] at hf
    simp only [Option.some.injEq] at hf
    subst hf
    have be : ((st.steps : Int) == (bud : Int)) = true := by simp [hs]
    go_enter Tryz.func168, Tryz.ntmps168
    go_wp2_with fail
    go_region
    go_wp2_with fail
    go_ret
    have G : World.grownBy (w.setCell ⟨br, 2, none⟩ (.int .i64 2)) (w.setCell ⟨br, 2, none⟩ (.int .i64 2)).drew none := grown_drew (grown_refl _)
    exact ⟨_, sl, rfl, rfl, (TK.set (unhide HH).runner (by decide) (unhide HH).lob).trans (TK.of_grown _ _ G), List.prefix_refl _, ((unhide HH).setEnd 2).keep G⟩
  · rw [if_neg hs] at hf
    have HF := hide hf
    have be : ((st.steps : Int) == (bud : Int)) = false := by
      simp
      omega
    have hs1 : st.steps + 1 ≤ bud := by omega
    have nb : b ≠ br := by
      intro e; subst e
      have h1 := (unhide HH).runner
      rw [unhide HB] at h1
      simp at h1
    have nf : fb ≠ br := by
      intro e; subst e
      have h1 := (unhide HH).runner
      rw [unhide HFB] at h1
      simp at h1
    clear hf
    go_enter Tryz.func168, Tryz.ntmps168
    go_wp2_with fail
    go_region
    go_wp2_with fail
    have e1 : Value.int .i64 ((st.steps : Int) + 1) = .int .i64 ((st.steps + 1 : Nat) : Int) := by simp
    have R1 : Hid (RunAt B (w.setCell ⟨br, 1, none⟩ (.int .i64 ((st.steps : Int) + 1))).drew br bud sl { st with steps := st.steps + 1 }) := by
      rw [e1]
      exact ((unhide HH).setSteps (st.steps + 1) hs1).keep (grown_drew (grown_refl _))
    have K1 : Hid (TK B RunS w (w.setCell ⟨br, 1, none⟩ (.int .i64 ((st.steps : Int) + 1))).drew) := (TK.set (unhide HH).runner (by decide) (unhide HH).lob).trans (TK.of_grown _ _ (grown_drew (grown_refl _)))
    generalize (w.setCell ⟨br, 1, none⟩ (.int .i64 ((st.steps : Int) + 1))).drew = W1 at *
    have D1 : Hid (W1.grownBy W1.drew none) := grown_drew (grown_refl _)
    have R2 := hide (((unhide R1).keep D1.out).newSlot (ov := some y) (hv := .iface T1 p1) (((unhide VY).tk K1.out (List.prefix_refl _)).tk (TK.of_grown 0 _ D1.out) (List.prefix_refl _)))
    have A2 : Hid (W1.grownBy (W1.drew.alloc (.cells #[.iface T1 p1] 311)) none) := grown_alloc D1.out _
    have B1 := hide (K1.out.cells (unhide HB) (by decide))
    have F1 := hide (K1.out.cells (unhide HFB) (by decide))
    obtain ⟨g0, g1, _, _⟩ := two_cells (unhide B1)
    obtain ⟨_, _, j2, _, j4⟩ := five_cells (unhide F1)
    have lb : b < W1.heap.size := (Array.getElem?_eq_some_iff.1 (unhide B1)).1
    have lf : fb < W1.heap.size := (Array.getElem?_eq_some_iff.1 (unhide F1)).1
    have hne1 : b ≠ W1.heap.size := by omega
    have hne2 : fb ≠ W1.heap.size := by omega
    clear c0 c1 c2 f0 f1 f2 be q
    go_region_held3 (fun W => W.cell? ⟨b, 0, none⟩ = some (.pointer (some ⟨fb, 0, none⟩)) ∧ W.cell? ⟨b, 1, none⟩ = some (.pointer qa) ∧ W.cell? ⟨fb, 2, none⟩ = some (bytesV bn) ∧ W.cell? ⟨fb, 4, none⟩ = some (.iface T2 (.pointer (some ⟨k2, 0, none⟩)))) (go_keep)
      (first
        | (go_at_call 170; refine (withR_any (((unhide HE).tk K1.out (List.prefix_refl _)).tk (TK.of_grown 0 _ A2.out) (List.prefix_append _ [W1.heap.size])) bn (k := sl.length) (by simp)).mono ?_; rintro e1 w3 ⟨sa, rfl, hg, hn⟩
           have G3 : Hid (W1.grownBy w3 none) := grown_trans A2.out hg
           have N3 := hide hn
           have R3 := hide ((unhide R2).keep hg)
           obtain ⟨d0, d1, _, _⟩ := two_cells ((G3.out.block b lb (by simp)).trans (unhide B1))
           obtain ⟨_, _, d2, _, d4⟩ := five_cells ((G3.out.block fb lf (by simp)).trans (unhide F1))
           clear hg hn)
        | (go_at_call 50; refine (hE (unhide R3) (((unhide HR).kp (K1.out.kp (by decide))).grown G3.out (Nat.le_refl _) (Nat.le_refl _)) (unhide N3) (by rw [(unhide HH).len]; exact unhide HF)).mono ?_; rintro e1 w4 ⟨v4, sl4, rfl, hv4, hk4, hp4, hR4⟩
           have X : Hid (EvPost B w br bud sl c (.returned v4) w4) := ⟨v4, sl4, rfl, hv4, (K1.out.trans (TK.of_grown _ _ G3.out)).trans hk4, (List.prefix_append _ _).trans hp4, hR4⟩
           have SH := hide hv4.shape
           obtain ⟨d0, d1, _, _⟩ := two_cells (hk4.cells ((G3.out.block b lb (by simp)).trans (unhide B1)) (by decide))
           obtain ⟨_, _, d2, _, d4⟩ := five_cells (hk4.cells ((G3.out.block fb lf (by simp)).trans (unhide F1)) (by decide))
           clear hv4 hk4 hp4 hR4))
    go_wp2_with fail
    go_ret
    exact X.out

set_option maxRecDepth 100000 in
set_option maxHeartbeats 2000000 in
theorem apply_side {w : World} {br bud : Nat} {sl : List Nat} {st : Tw.RS} {sec : Bool} {y : Tw.Val} {yv : Value} (h : RunAt B w br bud sl st) (hy : VRep w sl y yv) :
    Calls Tryz.prog 168 #[.pointer (some ⟨br, 0, none⟩), .iface 203 (.agg #[.bool sec]), yv] w (EvPost B w br bud sl (Tw.sideS y sec, st)) := by
  have q := va_side_clo
  have q2 := va_side_side
  have HH := hide h
  have VY := hide hy
  obtain ⟨T1, p1, rfl⟩ := VRep.iface hy
  clear h hy
  have c1 : Tryz.prog.cellsOf 203 = 1 := by kernel_rfl
  go_enter Tryz.func168, Tryz.ntmps168
  go_wp2_with fail
  refine (part_any ((unhide VY).tk (TK.of_grown 0 _ (World.grownBy_alloc w (.cells #[.bool sec] 203) none)) (List.prefix_refl _)) sec).mono ?_
  rintro e1 w1 ⟨v, rfl, hv, hg⟩
  have G := grown_trans (World.grownBy_alloc w (.cells #[.bool sec] 203) none) hg
  have X : Hid (EvPost B w br bud sl (Tw.sideS y sec, st) (.returned v) w1) := ⟨v, sl, rfl, hv, TK.of_grown _ _ G, List.prefix_refl _, (unhide HH).keep G⟩
  have SH := hide hv.shape
  clear hv hg G
  go_wp2_with fail
  go_ret
  exact X.out

set_option maxRecDepth 100000 in
set_option maxHeartbeats 2000000 in
theorem apply_other {PT : TypeId} {p : Value} (q : ∀ (p : Value) (w : World), Sem.run Tryz.prog (Instr.typeAssert (.iface PT p) 119 216 true) w = .ok (.tuple #[.pointer none, .bool false]) w)
    (q2 : ∀ (p : Value) (w : World), Sem.run Tryz.prog (Instr.typeAssert (.iface PT p) 119 203 true) w = .ok (.tuple #[.agg #[.bool false], .bool false]) w) {w : World} {br bud : Nat} {sl : List Nat} {st : Tw.RS} {yv : Value} (h : RunAt B w br bud sl st) (hy : ∃ T p, yv = .iface T p) :
    Calls Tryz.prog 168 #[.pointer (some ⟨br, 0, none⟩), .iface PT p, yv] w (EvPost B w br bud sl (none, st)) := by
  have HH := hide h
  obtain ⟨T1, p1, rfl⟩ := hy
  clear h
  go_enter Tryz.func168, Tryz.ntmps168
  go_wp2_with fail
  go_ret
  exact ⟨_, sl, rfl, rfl, TK.refl _ _ _, List.prefix_refl _, unhide HH⟩

theorem apply_any {n : Nat} (hE : EvSaid B n) {w : World} {br bud : Nat} {sl : List Nat} {st : Tw.RS} {x y : Tw.Val} {xv yv : Value} {c : Option Tw.Val × Tw.RS} (h : RunAt B w br bud sl st) (hx : VRep w sl x xv) (hy : VRep w sl y yv) (hf : Tw.applyS bud n x y st = some c) :
    Calls Tryz.prog 168 #[.pointer (some ⟨br, 0, none⟩), xv, yv] w (EvPost B w br bud sl c) := by
  cases x with
  | clo => exact apply_clo hE h hx hy hf
  | side sec =>
    obtain rfl : xv = _ := hx
    cases hf
    exact apply_side h hy
  | num =>
    obtain ⟨rfl, _⟩ := hx
    cases hf
    exact apply_other va_num_clo va_num_side h (VRep.iface hy)
  | truth =>
    obtain rfl : xv = _ := hx
    cases hf
    exact apply_other va_truth_clo va_truth_side h (VRep.iface hy)
  | pair =>
    obtain ⟨b, v1, v2, rfl, _⟩ := hx
    cases hf
    exact apply_other va_pair_clo va_pair_side h (VRep.iface hy)

set_option maxRecDepth 100000 in
set_option maxHeartbeats 2000000 in
theorem rcall_any {n : Nat} (hE : EvSaid B n) {w : World} {br bud hi b : Nat} {sl : List Nat} {st : Tw.RS} {l r : Tw.T} {e : Tw.VEnv} {lv rv ev : Value} {fr to : Nat} {c : Option Tw.Val × Tw.RS} (h : RunAt B w br bud sl st)
    (hb : w.heap[b]? = some (.cells #[.int .i64 fr, .int .i64 to, lv, rv] 319 (0, 0))) (hl : Rep w 0 hi l lv) (hr : Rep w 0 hi r rv) (he : ERep w sl e ev) (hf : Tw.evalS bud (n + 1) (.call fr to l r) e st = some c) :
    Calls Tryz.prog 90 #[.pointer (some ⟨br, 0, none⟩), .pointer (some ⟨b, 0, none⟩), ev] w (EvPost B w br bud sl c) := by
  rw [Tw.evalS_call] at hf
  obtain ⟨a, ha, hf⟩ := Option.bind_eq_some_iff.1 hf
  have HH := hide h
  have HL := hide hl
  have HR := hide hr
  have HE := hide he
  have HA := hide ha
  have B0 := hide hb
  obtain ⟨T1, k1, rfl⟩ := hl.iface
  obtain ⟨T2, k2, rfl⟩ := hr.iface
  obtain ⟨q, rfl⟩ := he.ptr
  obtain ⟨c2, c3⟩ := four_cells2 hb
  have D1 : Hid (w.grownBy w.drew none) := grown_drew (grown_refl _)
  clear h hl hr he ha hb
  go_enter Tryz.func90, Tryz.ntmps90
  go_wp2_with fail
  go_region_held3 (fun W => W.cell? ⟨b, 2, none⟩ = some (.iface T1 (.pointer (some ⟨k1, 0, none⟩))) ∧ W.cell? ⟨b, 3, none⟩ = some (.iface T2 (.pointer (some ⟨k2, 0, none⟩)))) (go_keep)
    ((go_at_call 167; refine (both_any hE ((unhide HH).keep D1.out) ((unhide HL).grown D1.out (Nat.le_refl _) (Nat.le_refl _)) ((unhide HR).grown D1.out (Nat.le_refl _) (Nat.le_refl _)) ((unhide HE).tk (TK.of_grown 0 _ D1.out) (List.prefix_refl _)) (unhide HA)).mono ?_; rintro e1 w1 ⟨v1, v2, ok, sl1, rfl, hm, hk, hp, hR⟩
      have K1 : Hid (TK B RunS w w1) := (TK.of_grown _ _ D1.out).trans hk
      have P1 := hide hp
      have R1 := hide hR
      have HM := hide hm
      obtain ⟨d2, d3⟩ := four_cells2 (K1.out.cells B0.out (by decide))
      clear hk hp hR hm))
  obtain ⟨a1, a2⟩ := a
  cases a1 with
  | none =>
    obtain ⟨rfl, h1, rfl⟩ := HM.out
    simp only [Option.some.injEq] at hf
    subst hf
    go_wp2_with fail
    go_ret
    exact ⟨_, sl1, rfl, rfl, K1.out, unhide P1, unhide R1⟩
  | some xy =>
    obtain ⟨x, y⟩ := xy
    obtain ⟨rfl, h1, h2⟩ := HM.out
    have HF : Hid (Tw.applyS bud n x y a2 = some c) := hf
    have V1 := hide h1
    have V2 := hide h2
    obtain ⟨T3, p3, rfl⟩ := VRep.iface h1
    obtain ⟨T4, p4, rfl⟩ := VRep.iface h2
    clear h1 h2 HM hf
    go_wp2_with fail
    refine (apply_any hE (unhide R1) (unhide V1) (unhide V2) (unhide HF)).mono ?_
    rintro e1 w2 h2
    obtain ⟨v, sl2, rfl, hv, hk, hp, hR⟩ := h2
    have X : Hid (EvPost B w br bud sl c (.returned v) w2) := ⟨v, sl2, rfl, hv, K1.out.trans hk, (unhide P1).trans hp, hR⟩
    clear hv hk hp hR
    go_wp2_with fail
    go_ret
    exact X.out

end Go.Proofs.YtckhafpejefbbaaGreatDoor

/- Package run: reckon, binary, choice, let. -/
namespace Go.Proofs.YtckhafpejefbbaaGreatDoor
open Go.RowKit

variable {B : Nat}

theorem wrap64_in (n : Int) : -9223372036854775808 ≤ wrap64 n ∧ wrap64 n ≤ 9223372036854775807 := by
  unfold wrap64
  omega

set_option maxRecDepth 100000 in
set_option maxHeartbeats 2000000 in
theorem reckon_any {w : World} {br bud : Nat} {sl : List Nat} {st : Tw.RS} (h : RunAt B w br bud sl st) (sg a b : Int) :
    Calls Tryz.prog 169 #[.pointer (some ⟨br, 0, none⟩), .int .i64 sg, .int .i64 a, .int .i64 b] w (EvPost B w br bud sl (Tw.reckonS sg a b st)) := by
  have HH := hide h
  clear h
  unfold Tw.reckonS
  by_cases h1 : sg = 19
  · subst h1
    rw [if_pos rfl]
    go_enter Tryz.func169, Tryz.ntmps169
    go_wp2_with fail
    go_ret
    exact ⟨_, sl, rfl, ⟨rfl, wrap64_in _⟩, TK.refl _ _ _, List.prefix_refl _, unhide HH⟩
  rw [if_neg h1]
  by_cases h2 : sg = 20
  · subst h2
    rw [if_pos rfl]
    go_enter Tryz.func169, Tryz.ntmps169
    go_wp2_with fail
    go_ret
    exact ⟨_, sl, rfl, ⟨rfl, wrap64_in _⟩, TK.refl _ _ _, List.prefix_refl _, unhide HH⟩
  rw [if_neg h2]
  by_cases h3 : sg = 21
  · subst h3
    rw [if_pos rfl]
    go_enter Tryz.func169, Tryz.ntmps169
    go_wp2_with fail
    go_ret
    exact ⟨_, sl, rfl, ⟨rfl, wrap64_in _⟩, TK.refl _ _ _, List.prefix_refl _, unhide HH⟩
  rw [if_neg h3]
  by_cases h4 : sg = 23
  · subst h4
    rw [if_pos rfl]
    go_enter Tryz.func169, Tryz.ntmps169
    go_wp2_with fail
    go_ret
    exact ⟨_, sl, rfl, rfl, TK.refl _ _ _, List.prefix_refl _, unhide HH⟩
  rw [if_neg h4]
  by_cases h5 : sg = 15
  · subst h5
    rw [if_pos rfl]
    go_enter Tryz.func169, Tryz.ntmps169
    go_wp2_with fail
    go_ret
    exact ⟨_, sl, rfl, rfl, TK.refl _ _ _, List.prefix_refl _, unhide HH⟩
  rw [if_neg h5]
  have b1 : (sg == 19) = false := by simp [h1]
  have b2 : (sg == 20) = false := by simp [h2]
  have b3 : (sg == 21) = false := by simp [h3]
  have b4 : (sg == 23) = false := by simp [h4]
  have b5 : (sg == 15) = false := by simp [h5]
  by_cases h0 : b = 0
  · subst h0
    rw [if_pos rfl]
    go_enter Tryz.func169, Tryz.ntmps169
    go_wp2_with fail
    refine (fault_any (unhide HH)).mono ?_
    rintro e1 w1 ⟨v, sl', rfl, hv, hk, hp, hR⟩
    have X : Hid (EvPost B w br bud sl (none, { st with fin := 1 }) (.returned v) w1) := ⟨v, sl', rfl, hv, hk, hp, hR⟩
    clear hv hk hp hR
    go_wp2_with fail
    go_ret
    exact X.out
  · rw [if_neg h0]
    have b0 : (b == 0) = false := by simp [h0]
    go_enter Tryz.func169, Tryz.ntmps169
    go_wp2_with fail
    go_ret
    exact ⟨_, sl, rfl, ⟨rfl, wrap64_in _⟩, TK.refl _ _ _, List.prefix_refl _, unhide HH⟩

/-- A value, asked for as a number. -/
theorem as_num {w : World} {sl : List Nat} {x : Tw.Val} {v : Value} (h : VRep w sl x v) : ∃ T p ok, v = .iface T p ∧ ∀ W : World, Sem.run Tryz.prog (Instr.typeAssert (.iface T p) 119 192 true) W = .ok (.tuple #[.int .i64 (Tw.asNum x), .bool ok]) W := by
  cases x with
  | num n => obtain ⟨rfl, _⟩ := h; exact ⟨_, _, true, rfl, va_num_num _⟩
  | truth => obtain rfl : v = _ := h; exact ⟨_, _, false, rfl, va_truth_num _⟩
  | side => obtain rfl : v = _ := h; exact ⟨_, _, false, rfl, va_side_num _⟩
  | pair => obtain ⟨b, v1, v2, rfl, _⟩ := h; exact ⟨_, _, false, rfl, va_pair_num _⟩
  | clo => obtain ⟨b, fb, ev, v1, hi, rfl, _⟩ := h; exact ⟨_, _, false, rfl, va_clo_num _⟩

theorem five_cells2 {w : World} {b : Nat} {x y z u q : Value} {t : TypeId} (h : w.heap[b]? = some (.cells #[x, y, z, u, q] t (0, 0))) : w.cell? ⟨b, 2, none⟩ = some z ∧ w.cell? ⟨b, 3, none⟩ = some u ∧ w.cell? ⟨b, 4, none⟩ = some q := by
  refine ⟨?_, ?_, ?_⟩ <;> (rw [cell_of_row w b _ _ _ _ h]; rfl)

set_option maxRecDepth 100000 in
set_option maxHeartbeats 2000000 in
theorem rbinary_any {n : Nat} (hE : EvSaid B n) {w : World} {br bud hi b : Nat} {sl : List Nat} {st : Tw.RS} {l r : Tw.T} {e : Tw.VEnv} {lv rv ev : Value} {fr to : Nat} {sg : Int} {c : Option Tw.Val × Tw.RS} (h : RunAt B w br bud sl st)
    (hb : w.heap[b]? = some (.cells #[.int .i64 fr, .int .i64 to, .int .i64 sg, lv, rv] 322 (0, 0))) (hl : Rep w 0 hi l lv) (hr : Rep w 0 hi r rv) (he : ERep w sl e ev) (hf : Tw.evalS bud (n + 1) (.binary fr to sg l r) e st = some c) :
    Calls Tryz.prog 91 #[.pointer (some ⟨br, 0, none⟩), .pointer (some ⟨b, 0, none⟩), ev] w (EvPost B w br bud sl c) := by
  rw [Tw.evalS_binary] at hf
  obtain ⟨a, ha, hf⟩ := Option.bind_eq_some_iff.1 hf
  have HH := hide h
  have HL := hide hl
  have HR := hide hr
  have HE := hide he
  have HA := hide ha
  have B0 := hide hb
  obtain ⟨T1, k1, rfl⟩ := hl.iface
  obtain ⟨T2, k2, rfl⟩ := hr.iface
  obtain ⟨q, rfl⟩ := he.ptr
  obtain ⟨c2, c3, c4⟩ := five_cells2 hb
  have D1 : Hid (w.grownBy w.drew none) := grown_drew (grown_refl _)
  clear h hl hr he ha hb
  go_enter Tryz.func91, Tryz.ntmps91
  go_wp2_with fail
  go_region_held3 (fun W => W.cell? ⟨b, 3, none⟩ = some (.iface T1 (.pointer (some ⟨k1, 0, none⟩))) ∧ W.cell? ⟨b, 4, none⟩ = some (.iface T2 (.pointer (some ⟨k2, 0, none⟩)))) (go_keep)
    ((go_at_call 167; refine (both_any hE ((unhide HH).keep D1.out) ((unhide HL).grown D1.out (Nat.le_refl _) (Nat.le_refl _)) ((unhide HR).grown D1.out (Nat.le_refl _) (Nat.le_refl _)) ((unhide HE).tk (TK.of_grown 0 _ D1.out) (List.prefix_refl _)) (unhide HA)).mono ?_; rintro e1 w1 ⟨v1, v2, ok, sl1, rfl, hm, hk, hp, hR⟩
      have K1 : Hid (TK B RunS w w1) := (TK.of_grown _ _ D1.out).trans hk
      have P1 := hide hp
      have R1 := hide hR
      have HM := hide hm
      obtain ⟨d2, d3, d4⟩ := five_cells2 (K1.out.cells B0.out (by decide))
      clear hk hp hR hm))
  obtain ⟨a1, a2⟩ := a
  cases a1 with
  | none =>
    obtain ⟨rfl, h1, rfl⟩ := HM.out
    simp only [Option.some.injEq] at hf
    subst hf
    go_wp2_with fail
    go_ret
    exact ⟨_, sl1, rfl, rfl, K1.out, unhide P1, unhide R1⟩
  | some xy =>
    obtain ⟨x, y⟩ := xy
    obtain ⟨rfl, h1, h2⟩ := HM.out
    simp only [Option.some.injEq] at hf
    subst hf
    obtain ⟨T3, p3, ok3, rfl, q3⟩ := as_num h1
    obtain ⟨T4, p4, ok4, rfl, q4⟩ := as_num h2
    clear h1 h2 HM c2 c3 c4
    go_wp2_with fail
    refine (reckon_any (unhide R1) sg _ _).mono ?_
    rintro e1 w2 ⟨v, sl2, rfl, hv, hk, hp, hR⟩
    have X : Hid (EvPost B w br bud sl (Tw.reckonS sg (Tw.asNum x) (Tw.asNum y) a2) (.returned v) w2) := ⟨v, sl2, rfl, hv, K1.out.trans hk, (unhide P1).trans hp, hR⟩
    clear hv hk hp hR
    go_wp2_with fail
    go_ret
    exact X.out

theorem eq_num (m : Int) (w : World) : Sem.run Tryz.prog (binOp .eql 119 (.iface 192 (.int .i64 m)) (.iface 196 (.bool true))) w = .ok (.bool false) w := by kernel_rfl
theorem eq_side (m : Bool) (w : World) : Sem.run Tryz.prog (binOp .eql 119 (.iface 203 (.agg #[.bool m])) (.iface 196 (.bool true))) w = .ok (.bool false) w := by kernel_rfl
theorem eq_pair (m : Option Addr) (w : World) : Sem.run Tryz.prog (binOp .eql 119 (.iface 315 (.pointer m)) (.iface 196 (.bool true))) w = .ok (.bool false) w := by kernel_rfl
theorem eq_clo (m : Option Addr) (w : World) : Sem.run Tryz.prog (binOp .eql 119 (.iface 216 (.pointer m)) (.iface 196 (.bool true))) w = .ok (.bool false) w := by kernel_rfl
theorem eq_false (w : World) : Sem.run Tryz.prog (binOp .eql 119 (.iface 196 (.bool false)) (.iface 196 (.bool true))) w = .ok (.bool false) w := by kernel_rfl
theorem eq_true' (w : World) : Sem.run Tryz.prog (binOp .eql 119 (.iface 196 (.bool true)) (.iface 196 (.bool true))) w = .ok (.bool true) w := by kernel_rfl

/-- Is a value the truth? -/
theorem is_true {w : World} {sl : List Nat} {x : Tw.Val} {v : Value} (h : VRep w sl x v) : ∃ T p, v = .iface T p ∧ ∀ W : World, Sem.run Tryz.prog (binOp .eql 119 (.iface T p) (.iface 196 (.bool true))) W = .ok (.bool (decide (x = .truth true))) W := by
  cases x with
  | num n => obtain ⟨rfl, _⟩ := h; exact ⟨_, _, rfl, fun W => eq_num n W⟩
  | truth m =>
    obtain rfl : v = _ := h
    refine ⟨_, _, rfl, fun W => ?_⟩
    cases m
    · exact eq_false W
    · exact eq_true' W
  | side m => obtain rfl : v = _ := h; exact ⟨_, _, rfl, fun W => eq_side m W⟩
  | pair => obtain ⟨b, v1, v2, rfl, _⟩ := h; exact ⟨_, _, rfl, fun W => eq_pair _ W⟩
  | clo => obtain ⟨b, fb, ev, v1, hi, rfl, _⟩ := h; exact ⟨_, _, rfl, fun W => eq_clo _ W⟩

set_option maxRecDepth 100000 in
set_option maxHeartbeats 4000000 in
theorem rchoice_any {n : Nat} (hE : EvSaid B n) {w : World} {br bud hi b : Nat} {sl : List Nat} {st : Tw.RS} {t1 t2 t3 : Tw.T} {e : Tw.VEnv} {v1 v2 v3 ev : Value} {fr to : Nat} {c : Option Tw.Val × Tw.RS} (h : RunAt B w br bud sl st)
    (hb : w.heap[b]? = some (.cells #[.int .i64 fr, .int .i64 to, v1, v2, v3] 326 (0, 0))) (h1 : Rep w 0 hi t1 v1) (h2 : Rep w 0 hi t2 v2) (h3 : Rep w 0 hi t3 v3) (he : ERep w sl e ev) (hf : Tw.evalS bud (n + 1) (.cond fr to t1 t2 t3) e st = some c) :
    Calls Tryz.prog 92 #[.pointer (some ⟨br, 0, none⟩), .pointer (some ⟨b, 0, none⟩), ev] w (EvPost B w br bud sl c) := by
  rw [Tw.evalS] at hf
  obtain ⟨a, ha, hf⟩ := Option.bind_eq_some_iff.1 hf
  have HH := hide h
  have H1 := hide h1
  have H2 := hide h2
  have H3 := hide h3
  have HE := hide he
  have HA := hide ha
  have B0 := hide hb
  obtain ⟨T1, k1, rfl⟩ := h1.iface
  obtain ⟨T2, k2, rfl⟩ := h2.iface
  obtain ⟨T3, k3, rfl⟩ := h3.iface
  obtain ⟨q, rfl⟩ := he.ptr
  obtain ⟨c2, c3, c4⟩ := five_cells2 hb
  clear h h1 h2 h3 he ha hb
  go_enter Tryz.func92, Tryz.ntmps92
  go_wp2_with fail
  refine (hE (unhide HH) (unhide H1) (unhide HE) (unhide HA)).mono ?_
  rintro e1 w1 ⟨v, sl1, rfl, hv, hk, hp, hR⟩
  have K1 := hide hk
  have P1 := hide hp
  have R1 := hide hR
  obtain ⟨d2, d3, d4⟩ := five_cells2 (hk.cells B0.out (by decide))
  obtain ⟨a1, a2⟩ := a
  clear hk hp hR c2 c3 c4
  have tail : Hid (∀ (t : Tw.T) (T k : Nat), Rep w 0 hi t (.iface T (.pointer (some ⟨k, 0, none⟩))) → Tw.evalS bud n t e a2 = some c → Calls Tryz.prog 50 #[.pointer (some ⟨br, 0, none⟩), .iface T (.pointer (some ⟨k, 0, none⟩)), .pointer q] w1 (EvPost B w br bud sl c)) :=
    fun t T k hr hf => (hE (unhide R1) (hr.kp ((unhide K1).kp (by decide))) ((unhide HE).tk (unhide K1) (unhide P1)) hf).mono fun _ _ x => x.from (unhide K1) (unhide P1)
  cases a1 with
  | none =>
    simp only [Option.some.injEq] at hf
    subst hf
    obtain rfl : v = .nilIface := hv
    go_wp2_with fail
    go_ret
    exact ⟨_, sl1, rfl, rfl, unhide K1, unhide P1, unhide R1⟩
  | some x =>
    simp only at hf
    obtain ⟨T, p, rfl, heq⟩ := is_true hv
    by_cases hx : x = .truth true
    · rw [if_pos hx] at hf
      have CA := hide (unhide tail t2 T2 k2 (unhide H2) hf)
      simp only [hx, decide_true] at heq
      clear hf tail hv
      go_wp2_with fail
      refine (unhide CA).mono ?_
      rintro e1 w2 ⟨v, sl2, rfl, hx⟩
      have X : Hid (EvPost B w br bud sl c (.returned v) w2) := ⟨v, sl2, rfl, hx⟩
      clear hx
      go_wp2_with fail
      go_ret
      exact X.out
    · rw [if_neg hx] at hf
      have CA := hide (unhide tail t3 T3 k3 (unhide H3) hf)
      simp only [hx, decide_false] at heq
      clear hf tail hv
      go_wp2_with fail
      refine (unhide CA).mono ?_
      rintro e1 w2 ⟨v, sl2, rfl, hx⟩
      have X : Hid (EvPost B w br bud sl c (.returned v) w2) := ⟨v, sl2, rfl, hx⟩
      clear hx
      go_wp2_with fail
      go_ret
      exact X.out

set_option maxRecDepth 100000 in
set_option maxHeartbeats 4000000 in
theorem rlet_any {n : Nat} (hE : EvSaid B n) {w : World} {br bud hi b : Nat} {sl : List Nat} {st : Tw.RS} {d x : Tw.T} {e : Tw.VEnv} {v1 v2 ev : Value} {fr to bat : Nat} {rc : Bool} {bn : List UInt8} {c : Option Tw.Val × Tw.RS} (h : RunAt B w br bud sl st)
    (hb : w.heap[b]? = some (.cells #[.int .i64 fr, .int .i64 to, .bool rc, bytesV bn, .int .i64 bat, v1, v2] 140 (0, 0))) (h1 : Rep w 0 hi d v1) (h2 : Rep w 0 hi x v2) (he : ERep w sl e ev) (hf : Tw.evalS bud (n + 1) (.lett fr to rc bn bat d x) e st = some c) :
    Calls Tryz.prog 93 #[.pointer (some ⟨br, 0, none⟩), .pointer (some ⟨b, 0, none⟩), ev] w (EvPost B w br bud sl c) := by
  rw [Tw.evalS] at hf
  obtain ⟨a, ha, hf⟩ := Option.bind_eq_some_iff.1 hf
  have hlen := h.len
  have HH := hide h
  have H1 := hide h1
  have H2 := hide h2
  have HE := hide he
  have HA := hide ha
  have B0 := hide hb
  obtain ⟨T1, k1, rfl⟩ := h1.iface
  obtain ⟨T2, k2, rfl⟩ := h2.iface
  obtain ⟨q, rfl⟩ := he.ptr
  have lb : b < w.heap.size := (Array.getElem?_eq_some_iff.1 hb).1
  have R0 := hide (h.newSlot (ov := none) (hv := .nilIface) rfl)
  have A0 : Hid (w.grownBy (w.alloc (.cells #[.nilIface] 311)) none) := World.grownBy_alloc _ _ none
  have E0 := hide (he.tk (TK.of_grown 0 _ A0.out) (List.prefix_append sl [w.heap.size]))
  obtain ⟨c2, c3, c5, c6⟩ := seven_cells hb
  clear h h1 h2 he ha hb
  go_enter Tryz.func93, Tryz.ntmps93
  go_wp2_with fail
  refine (withR_any (unhide E0) bn (k := sl.length) (bs := w.heap.size) (by simp)).mono ?_
  rintro e1 w1 ⟨sa, rfl, hg, hn⟩
  have G1 : Hid (w.grownBy w1 none) := grown_trans A0.out hg
  have N1 := hide hn
  have R1 := hide ((unhide R0).keep hg)
  have O1 := hide ((unhide E0).tk (TK.of_grown 0 _ hg) (List.prefix_refl _))
  obtain ⟨d2, d3, d5, d6⟩ := seven_cells ((G1.out.block b lb (by simp)).trans B0.out)
  clear hg hn c2 c3 c5 c6
  have key : Hid (∃ iv, iv = (if rc then .pointer sa else .pointer q : Value) ∧ ERep w1 (sl ++ [w.heap.size]) (if rc then (bn, st.slots.length) :: e else e) iv) := by
    cases rc
    · exact ⟨_, rfl, unhide O1⟩
    · exact ⟨_, rfl, by rw [← hlen]; exact unhide N1⟩
  cases rc <;> (
    simp only [Bool.false_eq_true, if_false, if_true] at key HA
    obtain ⟨iv, rfl, hiv⟩ := key.out
    have HIV := hide hiv
    clear hiv key
    go_wp2_with fail
    refine (hE (unhide R1) ((unhide H1).grown G1.out (Nat.le_refl _) (Nat.le_refl _)) (unhide HIV) (unhide HA)).mono ?_
    rintro e1 w2 ⟨v, sl2, rfl, hv, hk, hp, hR⟩
    obtain ⟨a1, a2⟩ := a
    have K2 : Hid (TK B RunS w w2) := (TK.of_grown _ _ G1.out).trans hk
    have P2 := hide hp
    have R2 := hide hR
    have N2 := hide ((unhide N1).tk hk hp)
    obtain ⟨g2, g3, g5, g6⟩ := seven_cells (K2.out.cells B0.out (by decide))
    have hsl : sl2[sl.length]? = some w.heap.size := by
      obtain ⟨r, rfl⟩ := hp
      simp
    cases a1 with
    | none =>
      simp only [Option.some.injEq] at hf
      subst hf
      obtain rfl : v = .nilIface := hv
      clear hk hp hR
      go_wp2_with fail
      go_ret
      exact ⟨_, sl2, rfl, rfl, K2.out, (List.prefix_append _ _).trans (unhide P2), unhide R2⟩
    | some y =>
      simp only at hf
      have HF := hide hf
      obtain ⟨R3, K3⟩ := hR.setSlot hsl (x := y) (v := v) hv
      have hl2 : sl.length < a2.slots.length := by rw [← hR.len]; exact (List.getElem?_eq_some_iff.1 hsl).1
      obtain ⟨hv0, hc0, _⟩ := hR.slot hsl (List.getElem?_eq_getElem hl2)
      obtain ⟨s0, s1⟩ := one_cell hc0
      obtain ⟨T5, p5, rfl⟩ := VRep.iface hv
      have R3 := hide R3
      have K3 := hide (K2.out.trans K3)
      have N3 := hide ((unhide N2).tk (TK.set (j := 0) (v := .iface T5 p5) hc0 (by decide) ((unhide R2).los hsl)) (List.prefix_refl _))
      have hbne : b ≠ w.heap.size := by omega
      have u6 : (w2.setCell ⟨w.heap.size, 0, none⟩ (.iface T5 p5)).cell? ⟨b, 6, none⟩ = some (.iface T2 (.pointer (some ⟨k2, 0, none⟩))) := (seven_cells ((unhide K3).cells B0.out (by decide))).2.2.2
      clear hk hp hR hv hf hc0
      go_wp2_with fail
      refine (hE (unhide R3) ((unhide H2).kp ((unhide K3).kp (by decide))) (unhide N3) (by rw [hlen]; exact unhide HF)).mono ?_
      rintro e1 w4 ⟨v4, sl4, rfl, hv4, hk4, hp4, hR4⟩
      have X : Hid (EvPost B w br bud sl c (.returned v4) w4) := ⟨v4, sl4, rfl, hv4, (unhide K3).trans hk4, ((List.prefix_append _ _).trans (unhide P2)).trans hp4, hR4⟩
      clear hv4 hk4 hp4 hR4
      go_wp2_with fail
      go_ret
      exact X.out)

end Go.Proofs.YtckhafpejefbbaaGreatDoor
