/- Texts of the proof, put together: TextRen, RegRound, TextBind, BackWalk. -/
import Derived.Test.YtckhafpejefbbaaGreatDoorB29
import Derived.Test.YtckhafpejefbbaaGreatDoorB15
import Derived.Test.YtckhafpejefbbaaGreatDoorB23
import Derived.Deep.RegionHeld3
import Derived.Test.YtckhafpejefbbaaGreatDoorB28
import Derived.Test.YtckhafpejefbbaaGreatDoorB20

/- Text.become, Text.Rename. -/
namespace Go.Proofs.YtckhafpejefbbaaGreatDoor
open Go.RowKit

theorem two_set {w : World} {b : Nat} {u v u' v' : Value} {t : TypeId} (hb : w.heap[b]? = some (.cells #[u, v] t (0, 0))) : ((w.setCell ⟨b, 0, none⟩ u').setCell ⟨b, 1, none⟩ v').heap[b]? = some (.cells #[u', v'] t (0, 0)) ∧ w.grownBy ((w.setCell ⟨b, 0, none⟩ u').setCell ⟨b, 1, none⟩ v') (some b) := by
  constructor
  · unfold World.setCell
    simp only
    rw [Array.getElem?_modify, if_pos rfl, Array.getElem?_modify, if_pos rfl, hb]
    rfl
  · refine ⟨rfl, rfl, rfl, by unfold World.setCell; simp, fun k _ hk => ?_⟩
    have hne : k ≠ b := fun e => hk (by rw [e])
    rw [Below.heap_setCell _ _ _ k hne, Below.heap_setCell _ _ _ k hne]

theorem kp_text {w w' : World} {b : Nat} {c : Array Value} (hb : w.heap[b]? = some (.cells c 72 (0, 0))) (hg : w.grownBy w' (some b)) : Kp w w' := by
  intro k c' t m hk ht
  refine (hg.block k (Array.getElem?_eq_some_iff.1 hk).1 ?_).trans hk
  intro e
  cases e
  rw [hb] at hk
  cases hk
  exact absurd ht (by decide)

theorem grown_row {w w1 w2 : World} {b : Nat} (h : w.grownBy w1 none) (k : w1.grownBy w2 (some b)) : w.grownBy w2 (some b) :=
  ⟨k.os.trans h.os, k.tape.trans h.tape, k.output.trans h.output, Nat.le_trans h.size k.size, fun i hi hn => (k.block i (Nat.lt_of_lt_of_le hi h.size) hn).trans (h.block i hi (by simp))⟩

set_option maxRecDepth 100000 in
set_option maxHeartbeats 2000000 in
theorem become_fine (hIB : Said.IndexByte) (hPI : Said.ParseInt) (hIt : Said.ItoaSmall) {w : World} {bt : Nat} {s s' : ByteArray} {t t' : Tw.T} {sh : List UInt8} {fo : Nat} (hT : TextAt w bt s t) (ho : Tw.openS 6100 fo s'.data.toList = some (.fine t' sh)) :
    Calls Tryz.prog 37 #[.pointer (some ⟨bt, 0, none⟩), .string s', .int .i64 0] w fun e w' => e = .returned (.int .i64 0) ∧ TextAt w' bt s' t' ∧ w.grownBy w' (some bt) := by
  obtain ⟨hi, tv, hb, _⟩ := hT
  have HB := hide hb
  clear hb
  go_enter Tryz.func37, Tryz.ntmps37
  go_wp2_with fail
  refine (Open_any hIB hPI hIt ho w).mono ?_
  rintro e1 w1 ⟨bn, rfl, ⟨hi', tv', hbn, hr'⟩, hk⟩
  have g1 := hk.grown
  have b1 := (g1.block _ (Array.getElem?_eq_some_iff.1 (unhide HB)).1 (by simp)).trans (unhide HB)
  have c0 : w1.cell? ⟨bn, 0, none⟩ = some (.string s') := by rw [cell_of_row _ _ _ _ _ _ hbn]; rfl
  have c1 : w1.cell? ⟨bn, 1, none⟩ = some tv' := by rw [cell_of_row _ _ _ _ _ _ hbn]; rfl
  obtain ⟨PT, nt, rfl⟩ := hr'.iface
  have HR := hide hr'
  have G1 := hide g1
  have B1 := hide b1
  have d0 : w1.cell? ⟨bt, 0, none⟩ = some (.string s) := by rw [cell_of_row _ _ _ _ _ _ b1]; rfl
  have d1 : w1.cell? ⟨bt, 1, none⟩ = some tv := by rw [cell_of_row _ _ _ _ _ _ b1]; rfl
  have f0 : w1.frozen? ⟨bt, 0, none⟩ = false := frozen_of_row _ _ _ _ _ b1
  have f1 : w1.frozen? ⟨bt, 1, none⟩ = false := frozen_of_row _ _ _ _ _ b1
  clear hk g1 b1 hr' hbn
  go_wp2_with fail
  go_ret
  go_light
  obtain ⟨q1, q2⟩ := two_set (u' := .string s') (v' := .iface PT (.pointer (some ⟨nt, 0, none⟩))) (unhide B1)
  exact ⟨rfl, ⟨hi', _, q1, (unhide HR).kp (kp_text (unhide B1) q2)⟩, grown_row (unhide G1) q2⟩

set_option maxRecDepth 100000 in
set_option maxHeartbeats 2000000 in
theorem textRename_fine (hIB : Said.IndexByte) (hPI : Said.ParseInt) (hIt : Said.ItoaSmall) (hB : Said.Builder) {w : World} {bt : Nat} {s name : ByteArray} {t t' : Tw.T} {sh : List UInt8} {fo : Nat} {body : List Tw.Tok} (hT : TextAt w bt s t) (hop : Opened s.data.toList t body) {n : Tw.T} (hn : n ∈ t.binds) {a : Int} (h1 : (n.bpl : Int) ≤ a) (h2 : a < (n.bpl : Int) + n.bname.length) (Y : Tw.Nm name.data.toList) (hc : ¬ (name.data.toList ≠ n.bname ∧ n.captN name.data.toList))
    (ho : Tw.openS 6100 fo (Tw.chgR 0 s.data.toList (Tw.chs n.bname.length name.data.toList (n.bpl :: n.useS))) = some (.fine t' sh)) :
    Calls Tryz.prog 27 #[.pointer (some ⟨bt, 0, none⟩), .int .i64 a, .string name] w fun e w' => e = .returned (.int .i64 0) ∧ TextAt w' bt ⟨(Tw.chgR 0 s.data.toList (Tw.chs n.bname.length name.data.toList (n.bpl :: n.useS))).toArray⟩ t' ∧ w.grownBy w' (some bt) := by
  have HT := hide hT
  obtain ⟨hi, tv, hb, hr⟩ := hT
  have c0 : w.cell? ⟨bt, 0, none⟩ = some (.string s) := by rw [cell_of_row _ _ _ _ _ _ hb]; rfl
  have c1 : w.cell? ⟨bt, 1, none⟩ = some tv := by rw [cell_of_row _ _ _ _ _ _ hb]; rfl
  have HRN : Hid (∀ W : World, w.grownBy W none → Calls Tryz.prog 39 #[.string s, tv, .int .i64 a, .string name] W fun e w' => e = .returned (.tuple #[.string ⟨(Tw.chgR 0 s.data.toList (Tw.chs n.bname.length name.data.toList (n.bpl :: n.useS))).toArray⟩, .int .i64 0]) ∧ W.grownBy w' none) := hide fun W hW => Rename_fine hB (hr.kp (Kp.of_grown hW)) hop hn h1 h2 Y hc
  obtain ⟨PT, nt, rfl⟩ := hr.iface
  obtain ⟨l', hl'⟩ : ∃ l' : ByteArray, (⟨(Tw.chgR 0 s.data.toList (Tw.chs n.bname.length name.data.toList (n.bpl :: n.useS))).toArray⟩ : ByteArray) = l' := ⟨_, rfl⟩
  have ho2 : Tw.openS 6100 fo l'.data.toList = some (.fine t' sh) := by rw [← hl']; exact ho
  rw [hl'] at HRN ⊢
  have D1 : Hid (w.grownBy w.drew none) := grown_drew (grown_refl _)
  clear ho hr hl' hc h1 h2
  go_enter Tryz.func27, Tryz.ntmps27
  go_wp2_with fail
  go_region_with (first
      | (go_at_call 39; refine (unhide HRN _ (by first | exact grown_refl _ | exact D1.out)).mono ?_; clear HRN; rintro e1 w2 ⟨rfl, hg⟩
         have G2 : Hid (w.grownBy w2 none) := hide (grown_trans (by first | exact grown_refl _ | exact D1.out) hg)
         have c2 : w2.cell? ⟨bt, 0, none⟩ = some (.string s) := by rw [cell_of_row _ _ _ _ _ _ ((G2.out.block _ (Array.getElem?_eq_some_iff.1 hb).1 (by simp)).trans hb)]; rfl
         clear hg)
      | (go_at_call 37; refine (become_fine hIB hPI hIt ((unhide HT).kp (Kp.of_grown G2.out) (fun c m hc => (G2.out.block _ (Array.getElem?_eq_some_iff.1 hc).1 (by simp)).trans hc)) ho2).mono ?_; rintro e1 w3 ⟨rfl, hx, hg⟩
         have X3 := hide hx
         have G3 := hide (grown_row G2.out hg)
         clear hg hx))
  all_goals (go_wp2_with fail; go_ret; exact ⟨rfl, X3.out, G3.out⟩)

end Go.Proofs.YtckhafpejefbbaaGreatDoor

/- A region whose order is drawn, in a round: by the laws of a plain one. -/
namespace Go.Proofs.YtckhafpejefbbaaGreatDoor
open Go Go.RowKit

variable {P : Program} {n : Nat}

theorem uponIn_plain (lr : Nat) {o : Oper} {a : Act} {K : Act → World → Prop} {Q : Exit → Act → World → Prop} {r : Result Next} (h : o.upon P a K Q r) : o.uponIn (Fence.wide.inRound lr) n P a K Q r := by
  cases r with
  | ok x w =>
    cases x with
    | value v => exact h
    | skip => exact h
    | defer d => exact h
    | enter f args => exact ⟨fun h => (by cases h), CallsIn.inRound lr (callsIn_wide.2 h)⟩
    | row row args => exact ⟨fun h => (by cases h), fun c cs _ => by obtain ⟨v, w', r, s⟩ := h c cs; exact ⟨v, w', r, stepsIn_wide.2 s⟩⟩
    | _ => exact h.elim
  | halt e w =>
    cases e with
    | panic v => exact h
    | _ => exact h.elim

theorem wpAnyIn_plain (lr : Nat) {md : Region.Mode} {ops : Array Oper} {Q : Exit → Act → World → Prop} (hlo : ¬ LetsOut Q) (hd : ∀ (i : Nat) (o : Oper), ops[i]? = some o → ∀ c, o.op ≠ .defer c) :
    ∀ (fuel : Nat) (listed : Array Bool) (a : Act) (w : World), wpAny P md ops Q fuel listed a w → wpAnyIn (Fence.wide.inRound lr) n P md ops Q fuel listed a w
  | 0, _, _, _, h => h
  | fuel + 1, listed, a, w, h => by
    refine ⟨h.1, fun i hi => ?_⟩
    have h2 := wpOp_mono (K' := wpAnyIn (Fence.wide.inRound lr) n P md ops Q fuel (listed.setIfInBounds i true)) (fun a w => wpAnyIn_plain lr hlo hd fuel _ a w) (h.2 i hi)
    unfold wpOp at h2
    unfold wpOpIn
    split
    · rename_i ho
      simp only [ho] at h2
      exact h2
    · rename_i o ho
      simp only [ho] at h2
      split
      · rename_i hw
        simp only [hw, if_true] at h2
        rcases h2 with h2 | h2
        · refine ⟨fun _ _ => trivial, ?_⟩
          rw [show (Fence.wide.inRound lr).round = some lr from rfl, Oper.semAt_some lr a.eval o (hd i o ho)]
          exact uponIn_plain lr h2
        · exact absurd h2.2 hlo
      · rename_i hw
        simp only [hw] at h2
        exact ⟨fun _ _ => trivial, h2⟩

def OnlyN (Q : Exit → Act → World → Prop) (e : Exit) (a : Act) (w : World) : Prop := e = .normal ∧ Q .normal a w

theorem region_round (lr : Nat) {id : Nat} {Q : Exit → Act → World → Prop} {a : Act} {w : World} {l : List Oper} (S : World → Prop) (hm : P.follows .mixedOrders = true) (hd : noDefer l = true) (hS : S w.drew)
    (h : S w.drew → wpAnyH P .any l.toArray (OnlyN Q) S l.toArray.size (Array.replicate l.toArray.size false) a w.drew) : (Code.region id l.toArray true).wpIn (Fence.wide.inRound lr) n P Q a w := by
  refine wpIn_mono (Q := OnlyN Q) (wpIn_region_any hm (wpAnyIn_plain lr ?_ (noDefer_spec hd) _ _ _ _ (wpAny_of_held (S := S) _ _ _ _ (h hS)))) ?_
  · rintro ⟨a, w, h, _⟩
    cases h
  · rintro e a w ⟨rfl, h⟩
    exact h

theorem noPanic {Q : Exit → Act → World → Prop} {d : Option Tmp} {v : Value} : ∀ c a w, OnlyN Q (.panic c) (Act.put a d v) w → OnlyN Q (.panic c) a w := fun _ _ _ h => by cases h.1

end Go.Proofs.YtckhafpejefbbaaGreatDoor

/- Text.Binders. -/
namespace Go.Proofs.YtckhafpejefbbaaGreatDoor
open Go.RowKit Go.Shelf

theorem sa_alloc (l : Nat) (ρ : Operand → Value) (d : Option Tmp) (ty : TypeId) (p : String) (af : Array Edge) (g : Option (Nat × Bool)) (t : TypeId) : Oper.semAt (some l) ρ { dst := d, op := .alloc t, type := ty, pos := p, after := af, guard := g } = execOp ρ { dst := d, op := .alloc t, type := ty, pos := p, after := af, guard := g } := rfl
theorem sa_call (l : Nat) (ρ : Operand → Value) (d : Option Tmp) (ty : TypeId) (p : String) (af : Array Edge) (g : Option (Nat × Bool)) (f : Nat) (xs : Array Operand) (ts : Array TypeId) : Oper.semAt (some l) ρ { dst := d, op := .call { callee := .value (.func f), args := xs, argTypes := ts }, type := ty, pos := p, after := af, guard := g } = execOp ρ { dst := d, op := .call { callee := .value (.func f), args := xs, argTypes := ts }, type := ty, pos := p, after := af, guard := g } := rfl

attribute [local go_sem] sa_load sa_store sa_move sa_nil sa_field sa_build sa_slice sa_alloc sa_call

section
variable {P : Program} {α : Type} {n : Nat} {g : Operand} {ps : Array Tmp} {assign body : Code} {Q : Exit → Act → World → Prop} {a : Act} {w : World}
theorem range_oN1 {l₀ : Nat} {r₀ : Loop} (hl₀ : w.heap[l₀]? = some (.loop r₀)) {p d1 : Tmp} {gf : Nat} {lb : Array Value} (hg : a.eval g = .func (.func gf) #[] lb) (eg : ∀ args w, (callFunc gf args).run P w = .ok (.enter gf args) w)
    {e1 : α → Value} {Kp : World → World → Prop} {S Sp : List α → Prop} {N : Nat} {w0 : World} (hseq : SeqO P gf lb (fun x => #[e1 x]) Kp S Sp N w0)
    (hKt : ∀ {A B C : World}, Kp A B → Kp B C → Kp A C) (hKb : ∀ (W : World) (l : Nat) (o o' : Obj), w.heap.size ≤ l → W.heap[l]? = some o → o.isCells = false → o.isWalk = false → Kp W (W.putObj l o')) (hb0 : Below w0.heap.size w0 w)
    (I : List α → World → Prop) (Ix : Code → List α → World → Prop) (hI : OwnFrom w.heap.size I) (hIx : ∀ c, OwnFrom w.heap.size (Ix c)) (h0 : I [] w)
    (hassign : ∀ (l : Nat) (x : α) (W : World) (K : Act → World → Prop), K { tmps := (a.tmps.setIfInBounds p (e1 x)).setIfInBounds d1 (e1 x), defers := [] } W →
      assign.wpIn (Fence.wide.inRound l) 0 P (Exit.then K (fun _ _ _ => False)) { tmps := a.tmps.setIfInBounds p (e1 x), defers := [] } W)
    (hbody : ∀ (l : Nat) (pre : List α) (x : α) (W : World), w.heap.size ≤ l → (∃ r, W.heap[l]? = some (.loop r)) → I pre W → pre.length < N → body.wpIn (Fence.wide.inRound l) 0 P (ownPostG w.heap.size Kp I Ix (pre ++ [x]) W) { tmps := (a.tmps.setIfInBounds p (e1 x)).setIfInBounds d1 (e1 x), defers := [] } W)
    (hdone : ∀ (xs : List α) (W : World), S xs → I xs W → Q .normal a W)
    (hstop : ∀ (c : Code) (pre : List α) (W : World), Sp pre → Ix c pre W → c.wpIn (Fence.wide.inRound l₀) n P Q a W) :
    (Code.rangeFunc g #[p] assign body).wpIn (Fence.wide.inRound l₀) n P Q a w :=
  range_oN hl₀ hg eg hseq (fun _ _ _ _ _ hs _ _ => hs) (fun h k => hKt h k) hKb hb0 (fun _ => rfl) I Ix hI hIx h0 (fun x => { tmps := (a.tmps.setIfInBounds p (e1 x)).setIfInBounds d1 (e1 x), defers := [] })
    (fun l x W K hK => by simpa using hassign l x W K hK) (fun l pre x W h1 h2 h3 h4 _ => hbody l pre x W h1 h2 h3 h4) hdone hstop
end

theorem row_kept {X Y : World} {B B' : Nat} {e : TypeId} {size : Nat} {v : Value} {k : Nat} {xs : List Value} (h : X.ownsRow B e size v k xs) (hB : B' ≤ B) (hk : ∀ (g : Nat) (c : Array Value), X.heap[g]? = some (Obj.cells c e (0, 0)) → Y.heap[g]? = some (Obj.cells c e (0, 0))) : Y.ownsRow B' e size v k xs := by
  refine ⟨h.1, ?_⟩
  rcases h.2 with h | ⟨g, cap, cur, e1, hg, hb, r⟩
  · exact .inl h
  · exact .inr ⟨g, cap, cur, e1, Nat.le_trans hB hg, hk _ _ hb, r⟩

theorem row_slice {X : World} {B : Nat} {e : TypeId} {size : Nat} {v : Value} {k : Nat} {xs : List Value} (h : X.ownsRow B e size v k xs) : ∃ p c, v = .slice p k c := by
  rcases h.2 with ⟨rfl, rfl⟩ | ⟨g, cap, cur, rfl, _⟩
  · exact ⟨_, _, rfl⟩
  · exact ⟨_, _, rfl⟩

theorem row_appended {X w1 : World} {n₀ B : Nat} {t e : TypeId} {size : Nat} {v v' : Value} {k : Nat} {xs : List Value} {tmp : Obj} (hv : Boxed X B t v) (hrow : X.ownsRow n₀ e size v k xs) (hgrow : (X.alloc tmp).grownBy w1 v.ownBlock) {u : TypeId} (h1 : u ≠ t) (h2 : u ≠ e) {j : Nat} {c : Array Value} {m : Nat × Nat} (hj : X.heap[j]? = some (.cells c u m)) : (w1.setCell ⟨B, 0, none⟩ v').heap[j]? = some (.cells c u m) := by
  have hb : B ≠ j := by
    rintro rfl
    have : X.heap[B]? = _ := hv
    rw [hj] at this
    cases this
    exact h1 rfl
  have hlt := (Array.getElem?_eq_some_iff.1 hj).1
  rw [Below.heap_setCell _ _ _ _ hb.symm]
  rw [hgrow.block j (by simp; omega) ?_]
  · exact (Below.heap_alloc _ _ _ hlt).trans hj
  · intro e1
    rcases hrow.2 with ⟨rfl, _⟩ | ⟨g, cap, cur, rfl, _, hg, _⟩
    · cases e1
    · cases e1
      rw [hj] at hg
      cases hg
      exact h2 rfl

theorem row_grown {X w1 : World} {n₀ : Nat} {e : TypeId} {size : Nat} {v : Value} {k : Nat} {xs : List Value} {tmp : Obj} (hrow : X.ownsRow n₀ e size v k xs) (hgrow : (X.alloc tmp).grownBy w1 v.ownBlock) {u : TypeId} (h2 : u ≠ e) {j : Nat} {c : Array Value} {m : Nat × Nat} (hj : X.heap[j]? = some (.cells c u m)) : w1.heap[j]? = some (.cells c u m) := by
  have hlt := (Array.getElem?_eq_some_iff.1 hj).1
  rw [hgrow.block j (by simp; omega) ?_]
  · exact (Below.heap_alloc _ _ _ hlt).trans hj
  · intro e1
    rcases hrow.2 with ⟨rfl, _⟩ | ⟨g, cap, cur, rfl, _, hg, _⟩
    · cases e1
    · cases e1
      rw [hj] at hg
      cases hg
      exact h2 rfl

theorem wp_append_own {P : Program} (w : World) {o : Oper} {a : Act} {K : Act → World → Prop} {Q : Exit → Act → World → Prop}
    (s x : Operand) (t : TypeId) (hop : o.op = Op.call { callee := Callee.builtin Builtin.append, args := #[s, x], argTypes := #[t, t] })
    (base : Nat) (e : TypeId) (i : TypeInfo) (z : Value) (size bytes : Nat) (h1 : P.underlying t = some (.slice e)) (h2 : P.info? e = some i) (h3 : i.zero = some z) (h4 : i.size = size) (h5 : i.bytes = bytes) (h6 : z.cells.size = size) (h7 : 0 < size)
    (v : Value) (k : Nat) (xs : List Value) (hs : a.eval s = v) (hown : w.ownsRow base e size v k xs) (ad : Addr) (m c : Nat) (news : List Value) (hx : a.eval x = .slice (some ad) m c) (hn : news.length = m * size)
    (hc : ∀ j u, news[j]? = some u → w.cell? (ad.add j) = some u) (h1c : ∀ u ∈ news, u.oneCell' = true) (b1 : k + m ≤ maxLen) (b2 : (k + m) * bytes ≤ 140737488355328) (b3 : base ≤ w.heap.size)
    (hK : ∀ v' w', w'.ownsRow base e size v' (k + m) (xs ++ news) → w.grownBy w' v.ownBlock → K (a.put o.dst v') w') : Oper.wp P o a w K Q := by
  obtain ⟨v', w', hrun, r1, r2, _⟩ := run_append_own (P := P) w base t o.type e i z size bytes h1 h2 h3 h4 h5 h6 h7 v k xs hown ad m c news hn hc h1c b1 b2 b3
  unfold Oper.wp
  simp [execOp, hop, resolve, invoke, builtin, hs, hx, hrun, Result.andThen]
  exact hK _ _ r1 r2

def UsesAt (W : World) (v : Value) (l : List Nat) : Prop := W.ownsRow 0 3 1 v l.length (l.map fun f : Nat => Value.int .i64 f)

def bdCells (E : List (Tw.T × Value)) : List Value := E.flatMap fun e => [bytesV e.1.bname, .int .i64 e.1.bpl, e.2]

theorem bdCells_snoc (E : List (Tw.T × Value)) (t : Tw.T) (u : Value) : bdCells (E ++ [(t, u)]) = bdCells E ++ [bytesV t.bname, .int .i64 t.bpl, u] := by
  simp [bdCells]

def BdAt (W : World) (v : Value) (L : List Tw.T) : Prop := ∃ E : List (Tw.T × Value), E.map (·.1) = L ∧ W.ownsRow 0 48 3 v E.length (bdCells E) ∧ ∀ e ∈ E, UsesAt W e.2 e.1.useS

theorem cell_one_new' (w : World) (a : Value) (t : TypeId) : ∀ j u, [a][j]? = some u → (w.alloc (.cells #[a] t)).cell? ((⟨w.heap.size, 0, none⟩ : Addr).add j) = some u := by
  intro j u h
  cases j with
  | zero =>
    cases h
    exact (one_cell (new_block w _)).1
  | succ j => simp at h

theorem own_below {β : Type} (W1 : World) {B : Nat} (hB : W1.heap.size ≤ B) : OwnFrom B (fun (_ : β) X => Below W1.heap.size W1 X) := fun _ X Y row h2 hg hr =>
  ⟨hg.os.trans h2.os, hg.tape.trans h2.tape, hg.output.trans h2.output, Nat.le_trans h2.size hg.size, fun i hi => (hg.block i (by have := h2.size; omega) (fun e => by have := (hr i e.symm).1; omega)).trans (h2.block i hi)⟩

theorem below_keeps {B : Nat} {X Y : World} (h : Below X.heap.size X Y) : KeepsFrom B X Y := ⟨h.size, fun i _ _ ho _ => (h.block i (Array.getElem?_eq_some_iff.1 ho).1).trans ho⟩

theorem below_kp {X Y : World} (h : Below X.heap.size X Y) : Kp X Y := fun k _ _ _ hk _ => (h.block k (Array.getElem?_eq_some_iff.1 hk).1).trans hk

theorem below_grown {X Y : World} (h : X.grownBy Y none) : Below X.heap.size X Y := ⟨h.os, h.tape, h.output, h.size, fun i hi => h.block i hi (by simp)⟩

def Tw.T.nodes : Tw.T → Nat
  | .name .. | .int .. | .truth .. | .side .. => 1
  | .bracket _ _ i => 1 + i.nodes
  | .pair _ _ a b => 1 + a.nodes + b.nodes
  | .call _ _ a b => 1 + a.nodes + b.nodes
  | .binary _ _ _ a b => 1 + a.nodes + b.nodes
  | .cond _ _ a b c => 1 + a.nodes + b.nodes + c.nodes
  | .fn _ _ _ _ a => 1 + a.nodes
  | .lett _ _ _ _ _ a b => 1 + (a.nodes + b.nodes)

theorem Tw.nodes_weight : ∀ {t : Tw.T} {e : Tw.WEn} {w : Nat}, (∀ x k, e.look x = some k → 1 ≤ k) → Tw.weightS t e = some w → 1 ≤ w ∧ (w ≤ 2000 → t.nodes ≤ w)
  | .name _ _ x, e, w, he, h => by
    simp only [Tw.weightS] at h
    obtain ⟨k, h1, h⟩ := Option.bind_eq_some_iff.1 h
    cases h
    have := he x k h1
    simp only [Tw.T.nodes]
    omega
  | .int .., _, _, _, h => by cases h; simp [Tw.T.nodes]
  | .truth .., _, _, _, h => by cases h; simp [Tw.T.nodes]
  | .side .., _, _, _, h => by cases h; simp [Tw.T.nodes]
  | .bracket _ _ i, e, w, he, h => by
    simp only [Tw.weightS] at h
    obtain ⟨a, h1, h⟩ := Option.bind_eq_some_iff.1 h
    cases h
    have := nodes_weight he h1
    simp only [Tw.T.nodes]
    omega
  | .pair _ _ l r, e, w, he, h => by
    simp only [Tw.weightS] at h
    obtain ⟨a, h1, h⟩ := Option.bind_eq_some_iff.1 h
    obtain ⟨b, h2, h⟩ := Option.bind_eq_some_iff.1 h
    cases h
    have := nodes_weight he h1
    have := nodes_weight he h2
    simp only [Tw.T.nodes]
    omega
  | .call _ _ l r, e, w, he, h => by
    simp only [Tw.weightS] at h
    obtain ⟨a, h1, h⟩ := Option.bind_eq_some_iff.1 h
    obtain ⟨b, h2, h⟩ := Option.bind_eq_some_iff.1 h
    cases h
    have := nodes_weight he h1
    have := nodes_weight he h2
    simp only [Tw.T.nodes]
    omega
  | .binary _ _ _ l r, e, w, he, h => by
    simp only [Tw.weightS] at h
    obtain ⟨a, h1, h⟩ := Option.bind_eq_some_iff.1 h
    obtain ⟨b, h2, h⟩ := Option.bind_eq_some_iff.1 h
    cases h
    have := nodes_weight he h1
    have := nodes_weight he h2
    simp only [Tw.T.nodes]
    omega
  | .cond _ _ c l r, e, w, he, h => by
    simp only [Tw.weightS] at h
    obtain ⟨a, h1, h⟩ := Option.bind_eq_some_iff.1 h
    obtain ⟨b, h2, h⟩ := Option.bind_eq_some_iff.1 h
    obtain ⟨d, h3, h⟩ := Option.bind_eq_some_iff.1 h
    cases h
    have := nodes_weight he h1
    have := nodes_weight he h2
    have := nodes_weight he h3
    simp only [Tw.T.nodes]
    omega
  | .fn _ _ n _ b, e, w, he, h => by
    simp only [Tw.weightS] at h
    obtain ⟨a, h1, h⟩ := Option.bind_eq_some_iff.1 h
    cases h
    have := nodes_weight (e := .cons n 1 e) (fun x k hk => by
      simp only [Tw.WEn.look] at hk
      split at hk
      · cases hk; exact Nat.le_refl _
      · exact he x k hk) h1
    simp only [Tw.T.nodes]
    omega
  | .lett _ _ rc n _ d b, e, w, he, h => by
    simp only [Tw.weightS] at h
    obtain ⟨a, h1, h⟩ := Option.bind_eq_some_iff.1 h
    obtain ⟨c, h2, h⟩ := Option.bind_eq_some_iff.1 h
    cases h
    have ha := nodes_weight (e := if rc then .cons n 1 e else e) (fun x k hk => by
      cases rc with
      | false => exact he x k hk
      | true =>
        simp only [if_true, Tw.WEn.look] at hk
        split at hk
        · cases hk; exact Nat.le_refl _
        · exact he x k hk) h1
    have hc := nodes_weight (e := .cons n a e) (fun x k hk => by
      simp only [Tw.WEn.look] at hk
      split at hk
      · cases hk; exact ha.1
      · exact he x k hk) h2
    simp only [Tw.T.nodes]
    omega

theorem nodes_fine {fo : Nat} {l : List UInt8} {t : Tw.T} {sh : List UInt8} (h : Tw.openS 6100 fo l = some (.fine t sh)) : t.nodes ≤ 2000 := by
  obtain ⟨_, body, _, _, _, ht⟩ := Tw.fine_parts h
  obtain ⟨w, h1, h2⟩ := (Tw.tree_parts ht).2.2.1
  exact Nat.le_trans ((Tw.nodes_weight (e := .nil) (fun x k hk => by cases hk) h1).2 h2) h2

theorem NDL.len {w : World} {hi : Nat} : ∀ {t : Tw.T} {v : Value} {L : List TN}, NDL w hi t v L → L.length = t.nodes
  | .name .., _, _, ⟨_, e⟩ => by subst e; rfl
  | .int .., _, _, ⟨_, e⟩ => by subst e; rfl
  | .truth .., _, _, ⟨_, e⟩ => by subst e; rfl
  | .side .., _, _, ⟨_, e⟩ => by subst e; rfl
  | .bracket .., _, _, ⟨_, _, _, n1, e⟩ => by subst e; have := NDL.len n1; simp [Tw.T.nodes]; omega
  | .pair .., _, _, ⟨_, _, _, _, _, n1, n2, e⟩ => by subst e; have := NDL.len n1; have := NDL.len n2; simp [Tw.T.nodes]; omega
  | .call .., _, _, ⟨_, _, _, _, _, n1, n2, e⟩ => by subst e; have := NDL.len n1; have := NDL.len n2; simp [Tw.T.nodes]; omega
  | .binary .., _, _, ⟨_, _, _, _, _, n1, n2, e⟩ => by subst e; have := NDL.len n1; have := NDL.len n2; simp [Tw.T.nodes]; omega
  | .cond .., _, _, ⟨_, _, _, _, _, _, _, n1, n2, n3, e⟩ => by subst e; have := NDL.len n1; have := NDL.len n2; have := NDL.len n3; simp [Tw.T.nodes]; omega
  | .fn .., _, _, ⟨_, _, _, n1, e⟩ => by subst e; have := NDL.len n1; simp [Tw.T.nodes]; omega
  | .lett .., _, _, ⟨_, _, _, _, _, n1, n2, e⟩ => by subst e; have := NDL.len n1; have := NDL.len n2; simp [Tw.T.nodes]; omega

set_option maxRecDepth 100000 in
set_option maxHeartbeats 8000000 in
theorem textBinders_any {w : World} {bt : Nat} {s : ByteArray} {t : Tw.T} {body : List Tw.Tok} (hT : TextAt w bt s t) (hop : Opened s.data.toList t body) (hnn : t.nodes ≤ 2000) :
    Calls Tryz.prog 24 #[.pointer (some ⟨bt, 0, none⟩)] w fun e w' => (∃ v, e = .returned v ∧ BdAt w' v t.binds) ∧ w.grownBy w' none := by
  obtain ⟨hi, tv, hb, hr⟩ := hT
  obtain ⟨LN, hN⟩ := NDL.of_rep hr
  obtain ⟨L0, hL0⟩ := NL.of_rep .nil hr
  have hbd := hN.binds
  have hlen : L0.length ≤ 300 := Nat.le_trans hL0.len hop.small
  have hlenN : LN.length ≤ 2000 := by rw [hN.len]; exact hnn
  have hus : ∀ x ∈ bindL LN, ∀ A, x.bind = some A → (usesL A L0).map (·.fr) = x.t.useS := fun x hx A hA => by
    have := use_all w hi t hL0 hN hop.sp hop.nd (List.mem_filter.1 hx).1 hA (fun z => by simp [Tw.BEn.look])
    have h2 := congrArg (List.map Prod.fst) this
    rw [List.map_map, List.map_map] at h2
    have e1 : (Prod.fst ∘ useF) = fun x : NB => x.fr := rfl
    have e2 : (Prod.fst ∘ useG x.t.bname) = fun x : Nat => x := rfl
    rw [e1, e2, List.map_id'] at h2
    exact h2
  have hrepx : ∀ x ∈ bindL LN, Rep w 0 hi x.t x.v := fun x hx => hN.rep.2 x (List.mem_filter.1 hx).1
  have hcells := fun z hz => NL.block hL0 z hz
  obtain ⟨T0, n0, rfl⟩ := hr.iface
  refine (callsIn_wide (n := 3)).1 ?_
  refine callsIn_of_wp_marks Tryz.func24 rfl trivial ?_
  simp only [Tryz.ntmps24, List.size_toArray, List.length_cons, List.length_nil, Nat.reduceAdd, Nat.reduceSub, Array.replicate_succ, Array.replicate_zero, List.push_toArray, List.append_toArray, List.nil_append, List.cons_append]
  obtain ⟨W0, hW0⟩ : ∃ W0, w.alloc (.cells #[.pointer (some ⟨bt, 0, none⟩)] 26) = W0 := ⟨_, rfl⟩
  have G0 : w.grownBy W0 none := by rw [← hW0]; exact World.grownBy_alloc _ _ none
  have z0 : W0.heap.size = w.heap.size + 1 := by rw [← hW0]; simp
  have t0 : W0.heap[w.heap.size]? = some (.cells #[.pointer (some ⟨bt, 0, none⟩)] 26 (0, 0)) := by rw [← hW0]; exact new_block w _
  obtain ⟨W1, hW1⟩ : ∃ W1, W0.alloc (.cells #[.slice none 0 0] 45) = W1 := ⟨_, rfl⟩
  have G1 : W0.grownBy W1 none := by rw [← hW1]; exact World.grownBy_alloc _ _ none
  have z1 : W1.heap.size = w.heap.size + 2 := by rw [← hW1]; simp; omega
  have b1 : W1.heap[w.heap.size + 1]? = some (.cells #[.slice none 0 0] 45 (0, 0)) := by
    have := new_block W0 (.cells #[.slice none 0 0] 45)
    rw [z0] at this
    rw [← hW1]
    exact this
  have t1 := (G1.block _ (Array.getElem?_eq_some_iff.1 t0).1 (by simp)).trans t0
  have g1 := grown_trans G0 G1
  have x1 := (g1.block _ (Array.getElem?_eq_some_iff.1 hb).1 (by simp)).trans hb
  have ct1 := (one_cell t1).1
  have cx1 : W1.cell? ⟨bt, 1, none⟩ = some (.iface T0 (.pointer (some ⟨n0, 0, none⟩))) := by rw [cell_of_row _ _ _ _ _ _ x1]; rfl
  gi_wp2_with fail
  refine ⟨trivial, ?_⟩
  refine (callsIn_wide.2 (BindersIt_any W1 ⟨T0, n0, rfl⟩)).mono ?_
  rintro e1 w3 ⟨rfl, rfl⟩
  obtain ⟨W2, hW2⟩ : ∃ W2, W1.alloc (.cells #[.iface T0 (.pointer (some ⟨n0, 0, none⟩))] 68) = W2 := ⟨_, rfl⟩
  have G2 : W1.grownBy W2 none := by rw [← hW2]; exact World.grownBy_alloc _ _ none
  have z2 : W2.heap.size = w.heap.size + 3 := by rw [← hW2]; simp; omega
  have hne2 : W2.heap[w.heap.size + 2]? = some (.cells #[.iface T0 (.pointer (some ⟨n0, 0, none⟩))] 68 (0, 0)) := by
    have := new_block W1 (.cells #[.iface T0 (.pointer (some ⟨n0, 0, none⟩))] 68)
    rw [z1] at this
    rw [← hW2]
    exact this
  have b2 := (G2.block _ (Array.getElem?_eq_some_iff.1 b1).1 (by simp)).trans b1
  have g2 := grown_trans g1 G2
  have hN2 := hN.kp (Kp.of_grown g2)
  have HUS := hide hus
  have HRX := hide hrepx
  have HCE := hide hcells
  have HL0 := hide hL0
  rw [hW2, z1]
  clear hW0 hW1 hW2 ct1 cx1 hN hus hrepx hcells hr hL0
  gi_wp2_with fail
  refine range_o1 (p := 12) (d1 := 4) rfl (enters_of Tryz.func56 (by kernel_rfl) rfl) (binders_o hne2 hN2) (fun h k => h.trans k) kp_b (Below.refl _ _)
    (fun pre X => (∃ (E : List (Tw.T × Value)) (v : Value), E.map (·.1) = pre.map (fun y => y.1.t) ∧ Boxed X (w.heap.size + 1) 45 v ∧ X.ownsRow W0.heap.size 48 3 v E.length (bdCells E) ∧ ∀ e ∈ E, UsesAt X e.2 e.1.useS) ∧ Below W0.heap.size W0 X)
    (fun _ _ _ => False) ?own ?ownx ?start ?assign ?body ?done ?stop
  case own =>
    rintro s X Y row ⟨⟨E, v, h1, h2, h3, h4⟩, h5⟩ hg hr
    have kc : ∀ (k : Nat) (c : Array Value) (t : TypeId) (m : Nat × Nat), X.heap[k]? = some (Obj.cells c t m) → Y.heap[k]? = some (Obj.cells c t m) := fun k c t m h => ownFrom_cells (β := Unit) _ k c t m () X Y row h hg hr
    exact ⟨⟨E, v, h1, kc _ _ _ _ h2, row_kept h3 (Nat.le_refl _) (fun g c h => kc _ _ _ _ h), fun e he => row_kept (h4 e he) (Nat.le_refl _) (fun g c h => kc _ _ _ _ h)⟩, own_below (β := Unit) W0 (by omega) () X Y row h5 hg hr⟩
  case ownx => rintro c s X Y row h; exact h.elim
  case start => exact ⟨⟨[], _, rfl, b2, ⟨rfl, .inl ⟨rfl, rfl⟩⟩, fun e he => by cases he⟩, below_grown (grown_trans G1 G2)⟩
  case assign =>
    intro l x X K hK
    simp only [List.setIfInBounds_toArray, List.set_cons_zero, List.set_cons_succ] at hK ⊢
    gi_wp2
    exact hK
  case body =>
    rintro lr pre ⟨x, hx⟩ X hlr ⟨rl, hrl⟩ ⟨⟨E, v, hE, hv, hrow, huse⟩, hbel⟩ hlt
    obtain ⟨A, hA⟩ : ∃ A, x.bind = some A := Option.isSome_iff_exists.1 (List.mem_filter.1 hx).2
    obtain ⟨kb, o, cb, tb, hAe, hkb, hkt, hc0, hc1⟩ := bind_at hA (unhide HRX x hx)
    have up : ∀ {i : Nat} {ob : Obj}, w.heap[i]? = some ob → X.heap[i]? = some ob := fun {i ob} h => by
      have hi := (Array.getElem?_eq_some_iff.1 h).1
      exact (hbel.block i (by omega)).trans ((G0.block i hi (by simp)).trans h)
    have tX := (hbel.block _ (Array.getElem?_eq_some_iff.1 t0).1).trans t0
    have bX := up hb
    have ctX := (one_cell tX).1
    have cxX : X.cell? ⟨bt, 1, none⟩ = some (.iface T0 (.pointer (some ⟨n0, 0, none⟩))) := by rw [cell_of_row _ _ _ _ _ _ bX]; rfl
    obtain ⟨X1, hX1⟩ : ∃ X1, X.alloc (.cells #[.slice none 0 0] 33) = X1 := ⟨_, rfl⟩
    have GX1 : X.grownBy X1 none := by rw [← hX1]; exact World.grownBy_alloc _ _ none
    have zx1 : X1.heap.size = X.heap.size + 1 := by rw [← hX1]; simp
    have u1 : X1.heap[X.heap.size]? = some (.cells #[.slice none 0 0] 33 (0, 0)) := by rw [← hX1]; exact new_block X _
    have ct1 := (one_cell ((GX1.block _ (Array.getElem?_eq_some_iff.1 tX).1 (by simp)).trans tX)).1
    have cx1 : X1.cell? ⟨bt, 1, none⟩ = some (.iface T0 (.pointer (some ⟨n0, 0, none⟩))) := by rw [cell_of_row _ _ _ _ _ _ ((GX1.block _ (Array.getElem?_eq_some_iff.1 bX).1 (by simp)).trans bX)]; rfl
    have HROW := hide hrow
    have HBEL := hide hbel
    have HV := hide hv
    have HU := hide huse
    have HE := hide hE
    simp only [List.setIfInBounds_toArray, List.set_cons_zero, List.set_cons_succ, hA, hAe]
    clear hrow hbel hv huse hE ctX cxX
    gi_wp2_with fail
    refine ⟨trivial, rfl, ?_⟩
    refine (CallsIn.inRound lr (callsIn_wide.2 (Uses_any X1 ⟨T0, n0, rfl⟩ ⟨kb, o, none⟩))).mono ?_
    rintro e1 w4 ⟨rfl, rfl⟩
    gi_wp2_with fail
    obtain ⟨X2, hX2⟩ : ∃ X2, (X1.alloc (.cells #[.iface T0 (.pointer (some ⟨n0, 0, none⟩))] 68)).alloc (.cells #[.pointer (some ⟨kb, o, none⟩)] 79) = X2 := ⟨_, rfl⟩
    have g12 : X1.grownBy X2 none := by rw [← hX2]; exact grown_alloc (grown_alloc (grown_refl _) _) _
    have r2 : X2.heap[X1.heap.size]? = some (.cells #[.iface T0 (.pointer (some ⟨n0, 0, none⟩))] 68 (0, 0)) := by rw [← hX2]; exact (two_a X1 _ _).2
    have s2 : X2.heap[X1.heap.size + 1]? = some (.cells #[.pointer (some ⟨kb, o, none⟩)] 79 (0, 0)) := by rw [← hX2]; exact (two_a X1 _ _).1
    have gx2 : X.grownBy X2 none := grown_trans GX1 g12
    have zx2 : X2.heap.size = X.heap.size + 3 := by rw [← hX2]; simp; omega
    have kp2 : Kp w X2 := fun i c t m hi _ => (gx2.block i (Array.getElem?_eq_some_iff.1 (up hi)).1 (by simp)).trans (up hi)
    have nl2 := (unhide HL0).kp kp2
    have blk2 : BinBlk X2 ⟨kb, o, none⟩ := ⟨cb, tb, kp2 _ _ _ _ hkb hkt, hkt⟩
    have bu2 : Boxed X2 X.heap.size 33 (.slice none 0 0) := (g12.block _ (Array.getElem?_eq_some_iff.1 u1).1 (by simp)).trans u1
    have hrl2 : X2.heap[lr]? = some (.loop rl) := (gx2.block _ (Array.getElem?_eq_some_iff.1 hrl).1 (by simp)).trans hrl
    rw [zx1] at r2 s2
    rw [hX2]
    clear hX1 hX2 ct1 cx1 u1
    refine range_oN1 (p := 19) (d1 := 6) hrl2 rfl (enters_of Tryz.func59 (by kernel_rfl) rfl) (uses_o r2 s2 nl2 blk2) (fun h k => h.trans k) kp_b (Below.refl _ _)
      (fun ipre Y => (∃ u, Boxed Y X.heap.size 33 u ∧ Y.ownsRow X.heap.size 3 1 u ipre.length (ipre.map fun y => Value.int .i64 (y.1.fr : Nat)) ∧ True) ∧ Below X.heap.size X Y)
      (fun _ _ _ => False) ?iown ?iownx ?istart ?iassign ?ibody ?idone ?istop
    case iown =>
      rintro q Y Z row ⟨h1, h2⟩ hg hr
      exact ⟨holdsRow_own (β := List (UIn ⟨kb, o, none⟩ L0)) X.heap.size X.heap.size 33 3 1 (fun ipre => ipre.length) (fun ipre => ipre.map fun y => Value.int .i64 (y.1.fr : Nat)) (fun _ _ => True) q Y Z row h1 hg (fun r e => (hr r e).2), own_below (β := Unit) X (by omega) () Y Z row h2 hg hr⟩
    case iownx => rintro c q Y Z row h; exact h.elim
    case istart => exact ⟨⟨_, bu2, ⟨rfl, .inl ⟨rfl, rfl⟩⟩, trivial⟩, below_grown gx2⟩
    case iassign =>
      intro l x X K hK
      simp only [List.setIfInBounds_toArray, List.set_cons_zero, List.set_cons_succ] at hK ⊢
      gi_wp2
      exact hK
    case ibody =>
      rintro li ipre ⟨y, hy⟩ Y hli hreci ⟨⟨u, hu, hurow, _⟩, hubel⟩ hult
      have hyb := up (unhide HCE y (List.mem_filter.1 hy).1)
      have hyY := (hubel.block _ (Array.getElem?_eq_some_iff.1 hyb).1).trans hyb
      obtain ⟨y0, y1, y2, _, _, _⟩ := three_cells hyY
      have cu := hu.cell
      have hzy : y.nb < Y.heap.size := (Array.getElem?_eq_some_iff.1 hyY).1
      have hzu := hu.lt
      have hii : (Tryz.prog.info? 3).map (fun i => (i.zero, i.size, i.bytes)) = some (some (.int .i64 0), 1, 8) := by kernel_rfl
      obtain ⟨i0, hi0, hz0, hz1, hz3⟩ := info_parts hii
      obtain ⟨pu, ccu, rfl⟩ := row_slice hurow
      have HUR := hide hurow
      have HUB := hide hubel
      have HUV := hide hu
      simp only [List.setIfInBounds_toArray, List.set_cons_zero, List.set_cons_succ]
      clear hurow hubel hu
      gi_wp2_with fail
      have hmx : Tryz.prog.follows .mixedOrders = true := by kernel_rfl
      gi_region_with_o (first
        | (refine uponIn_append _ _ _ 33 rfl X.heap.size 3 i0 (.int .i64 0) 1 8 Tryz.underlying33 hi0 hz0 hz1 hz3 rfl (by decide) _ _ _ rfl (World.ownsRow.alloc (w := Y) (unhide HUR) _) ⟨Y.heap.size, 0, none⟩ 1 1 [.int .i64 y.fr] rfl rfl (cell_one_new' Y _ _) (by intro u hu; simp at hu; subst hu; rfl) (by unfold maxLen; omega) (by omega) (by have := HUB.out.size; simp; omega) ?_; intro v' w5 hown' hgrow
           have hgrow' : (Y.alloc (.cells #[.int .i64 y.fr] 3)).grownBy w5 (Value.slice pu ipre.length ccu).ownBlock := ⟨hgrow.os, hgrow.tape, hgrow.output, hgrow.size, hgrow.block⟩
           obtain ⟨g6, cap6, rfl⟩ := ownsRow_succ hown'
           have hap := Boxed.appended (unhide HUV) (by decide) (unhide HUR) HUB.out.size (Nat.le_refl _) hown' hgrow'
           have hc1 := hap.1.cell
           have hf1 := hap.1.frozen))
      all_goals exact ⟨hap.2.2.2.1.from _, kp_appended (unhide HUV) (unhide HUR) hgrow' (by decide) (by decide), ⟨_, hap.2.1, by simp only [List.map_append, List.map_cons, List.map_nil, List.length_append, List.length_cons, List.length_nil, Nat.zero_add]; exact hap.2.2.1, trivial⟩, (unhide HUB).trans hap.2.2.2.2⟩
    case idone =>
      rintro ys Y hys ⟨⟨u, hu, hurow, _⟩, hubel⟩
      have hfrs : ys.map (fun y => Value.int .i64 (y.1.fr : Nat)) = x.t.useS.map fun f : Nat => Value.int .i64 f := by
        have e1 := unhide HUS x hx A hA
        rw [hAe] at e1
        have e2 := congrArg (List.map (fun z : NB => z.fr)) hys
        rw [e1, List.map_map] at e2
        have e3 := congrArg (List.map (fun f : Nat => Value.int .i64 f)) e2
        rw [List.map_map] at e3
        exact e3
      have hlen2 : ys.length = x.t.useS.length := by
        have := congrArg List.length hfrs
        simpa using this
      rw [hfrs, hlen2] at hurow
      have upY : ∀ {i : Nat} {ob : Obj}, X.heap[i]? = some ob → Y.heap[i]? = some ob := fun {i ob} h => (hubel.block i (Array.getElem?_eq_some_iff.1 h).1).trans h
      have hkY := upY (up hkb)
      have cA0 : Y.cell? ⟨kb, o, none⟩ = some (bytesV x.t.bname) := by rw [cell_of_row _ _ _ _ _ _ hkY]; exact hc0
      have cA1 : Y.cell? ⟨kb, o + 1, none⟩ = some (.int .i64 x.t.bat) := by rw [cell_of_row _ _ _ _ _ _ hkY]; exact hc1
      have hvY : Boxed Y (w.heap.size + 1) 45 v := upY (unhide HV)
      have hrowY : Y.ownsRow W0.heap.size 48 3 v E.length (bdCells E) := row_kept (unhide HROW) (Nat.le_refl _) (fun g c h => upY h)
      have hElen : E.length = pre.length := by
        have := congrArg List.length (unhide HE)
        simpa using this
      rw [hElen] at hrowY
      have hpl : pre.length < 2000 := Nat.lt_of_lt_of_le hlt hlenN
      have cu := hu.cell
      have cv := hvY.cell
      have hzu := hu.lt
      have hzv := hvY.lt
      have hzk : kb < Y.heap.size := (Array.getElem?_eq_some_iff.1 hkY).1
      have hib : (Tryz.prog.info? 48).map (fun i => (i.zero, i.size, i.bytes)) = some (some (.agg #[.string ⟨#[]⟩, .int .i64 0, .slice none 0 0]), 3, 48) := by kernel_rfl
      obtain ⟨i0, hi0, hz0, hz1, hz3⟩ := info_parts hib
      obtain ⟨pu, ccu, rfl⟩ := row_slice hurow
      obtain ⟨pv, ccv, rfl⟩ := row_slice hrowY
      have zY := hubel.size
      have zX := HBEL.out.size
      have HUR := hide hurow
      have HUB := hide hubel
      have HVY := hide hvY
      have HRY := hide hrowY
      have HUV := hide hu
      clear hurow hubel hu hvY hrowY HV HROW
      gi_wp2_with fail
      have hmx : Tryz.prog.follows .mixedOrders = true := by kernel_rfl
      refine region_round lr (fun W => W.cell? ⟨kb, o, none⟩ = some (bytesV x.t.bname) ∧ W.cell? ⟨kb, o + 1, none⟩ = some (.int .i64 x.t.bat) ∧ W.cell? ⟨X.heap.size, 0, none⟩ = some (.slice pu x.t.useS.length ccu)) hmx (by kernel_rfl) ⟨cA0, cA1, cu⟩ ?_
      intro hSd
      refine wpAnyH_take (i := 1) (v := .pointer (some ⟨kb, o, none⟩)) rfl (by kernel_rfl) (by kernel_rfl) (by kernel_rfl) noPanic (Or.inl ⟨by rfl, fun W hSW => by obtain ⟨hSW1, hSW2, hSW3⟩ := hSW; go_simp⟩) hSd ?_
      refine wpAnyH_take (i := 2) (v := .pointer (some ⟨kb, o, none⟩)) rfl (by kernel_rfl) (by kernel_rfl) (by kernel_rfl) noPanic (Or.inl ⟨by rfl, fun W hSW => by obtain ⟨hSW1, hSW2, hSW3⟩ := hSW; go_simp⟩) hSd ?_
      refine wpAnyH_take (i := 3) (v := .pointer (some ⟨kb, o, none⟩)) rfl (by kernel_rfl) (by kernel_rfl) (by kernel_rfl) noPanic (Or.inl ⟨by rfl, fun W hSW => by obtain ⟨hSW1, hSW2, hSW3⟩ := hSW; go_simp⟩) hSd ?_
      refine wpAnyH_take (i := 4) (v := bytesV x.t.bname) rfl (by kernel_rfl) (by kernel_rfl) (by kernel_rfl) noPanic (Or.inl ⟨by rfl, fun W hSW => by obtain ⟨hSW1, hSW2, hSW3⟩ := hSW; go_simp⟩) hSd ?_
      refine wpAnyH_take (i := 5) (v := .pointer (some ⟨kb, o, none⟩)) rfl (by kernel_rfl) (by kernel_rfl) (by kernel_rfl) noPanic (Or.inl ⟨by rfl, fun W hSW => by obtain ⟨hSW1, hSW2, hSW3⟩ := hSW; go_simp⟩) hSd ?_
      refine wpAnyH_take (i := 6) (v := .pointer (some ⟨kb, o, none⟩)) rfl (by kernel_rfl) (by kernel_rfl) (by kernel_rfl) noPanic (Or.inl ⟨by rfl, fun W hSW => by obtain ⟨hSW1, hSW2, hSW3⟩ := hSW; go_simp⟩) hSd ?_
      refine wpAnyH_take (i := 7) (v := .pointer (some ⟨kb, o + 1, none⟩)) rfl (by kernel_rfl) (by kernel_rfl) (by kernel_rfl) noPanic (Or.inl ⟨by rfl, fun W hSW => by obtain ⟨hSW1, hSW2, hSW3⟩ := hSW; go_simp⟩) hSd ?_
      refine wpAnyH_take (i := 8) (v := .int .i64 x.t.bat) rfl (by kernel_rfl) (by kernel_rfl) (by kernel_rfl) noPanic (Or.inl ⟨by rfl, fun W hSW => by obtain ⟨hSW1, hSW2, hSW3⟩ := hSW; go_simp⟩) hSd ?_
      refine wpAnyH_take (i := 9) (v := .slice pu x.t.useS.length ccu) rfl (by kernel_rfl) (by kernel_rfl) (by kernel_rfl) noPanic (Or.inl ⟨by rfl, fun W hSW => by obtain ⟨hSW1, hSW2, hSW3⟩ := hSW; go_simp⟩) hSd ?_
      refine wpAnyH_take (i := 10) (v := .agg #[bytesV x.t.bname, .int .i64 x.t.bat, .slice pu x.t.useS.length ccu]) rfl (by kernel_rfl) (by kernel_rfl) (by kernel_rfl) noPanic (Or.inl ⟨by rfl, fun W hSW => by obtain ⟨hSW1, hSW2, hSW3⟩ := hSW; go_simp⟩) hSd ?_
      have htb : tb ≠ 48 ∧ tb ≠ 45 := by
        refine ⟨?_, ?_⟩ <;> (rintro rfl; revert hkt; decide)
      have tl : ∀ {W : World}, W.heap[kb]? = some (.cells cb tb (0, 0)) → W.heap[X.heap.size]? = some (.cells #[.slice pu x.t.useS.length ccu] 33 (0, 0)) → W.cell? ⟨kb, o, none⟩ = some (bytesV x.t.bname) ∧ W.cell? ⟨kb, o + 1, none⟩ = some (.int .i64 x.t.bat) ∧ W.cell? ⟨X.heap.size, 0, none⟩ = some (.slice pu x.t.useS.length ccu) := fun {W} h1 h2 =>
        ⟨by rw [cell_of_row _ _ _ _ _ _ h1]; exact hc0, by rw [cell_of_row _ _ _ _ _ _ h1]; exact hc1, (one_cell h2).1⟩
      have TL := hide (fun W => @tl W)
      have kA := (Below.heap_alloc Y (.cells #[bytesV x.t.bname, .int .i64 x.t.bat, .slice pu x.t.useS.length ccu] 48) _ hzk).trans hkY
      have uA := (Below.heap_alloc Y (.cells #[bytesV x.t.bname, .int .i64 x.t.bat, .slice pu x.t.useS.length ccu] 48) _ hzu).trans HUV.out
      have vA := (Below.heap_alloc Y (.cells #[bytesV x.t.bname, .int .i64 x.t.bat, .slice pu x.t.useS.length ccu] 48) _ hzv).trans HVY.out
      have KA := hide (And.intro kA uA)
      have cvA := (one_cell vA).1
      clear kA uA vA tl
      refine wpAnyH_ready (rs := [0, 11]) (by kernel_rfl) (by simp) ?_
      refine AllReadyH.cons rfl (fun K hK => ?_) (AllReadyH.cons rfl (fun K hK => ?_) AllReadyH.nil)
      · go_simp
        refine hK.out _ _ hSd (fun hSd => ?_)
        clear hK K
        refine wpAnyH_ready (rs := [11]) (by kernel_rfl) (by simp) ?_
        refine AllReadyH.cons rfl (fun K hK => ?_) AllReadyH.nil
        go_simp
        refine hK.out _ _ (unhide TL _ KA.out.1 KA.out.2) (fun hSd => ?_)
        clear hK K
        refine wpAnyH_ready (rs := [12]) (by kernel_rfl) (by simp) ?_
        refine AllReadyH.cons rfl (fun K hK => ?_) AllReadyH.nil
        rw [if_pos (by rfl)]
        refine wp_append_own _ _ _ 45 rfl W0.heap.size 48 i0 (.agg #[.string ⟨#[]⟩, .int .i64 0, .slice none 0 0]) 3 48 Tryz.underlying45 hi0 hz0 hz1 hz3 rfl (by decide) (.slice pv pre.length ccv) pre.length (bdCells E) rfl (World.ownsRow.alloc (w := Y) (unhide HRY) _) ⟨Y.heap.size, 0, none⟩ 1 1 [bytesV x.t.bname, .int .i64 x.t.bat, .slice pu x.t.useS.length ccu] rfl rfl (cell_three_new Y _ _ _ _) (by intro u hu; simp at hu; rcases hu with rfl | rfl | rfl <;> rfl) (by unfold maxLen; omega) (by omega) (by simp; omega) ?_
        intro v' w5 hown' hgrow
        have hgrow' : (Y.alloc (.cells #[bytesV x.t.bname, .int .i64 x.t.bat, .slice pu x.t.useS.length ccu] 48)).grownBy w5 (Value.slice pv pre.length ccv).ownBlock := ⟨hgrow.os, hgrow.tape, hgrow.output, hgrow.size, hgrow.block⟩
        obtain ⟨g6, cap6, rfl⟩ := ownsRow_succ hown'
        have hap := Boxed.appended (unhide HVY) (by decide) (unhide HRY) (Nat.le_trans zX zY) (by omega) hown' hgrow'
        have hc1' := hap.1.cell
        have hf1 := hap.1.frozen
        refine hK.out _ _ (unhide TL _ (row_grown (unhide HRY) hgrow' htb.1 hkY) (row_grown (unhide HRY) hgrow' (by decide) HUV.out)) (fun hSd => ?_)
        clear hK K
        refine wpAnyH_ready (rs := [13]) (by kernel_rfl) (by simp) ?_
        refine AllReadyH.cons rfl (fun K hK => ?_) AllReadyH.nil
        go_simp
        refine hK.out _ _ (unhide TL _ (row_appended (unhide HVY) (unhide HRY) hgrow' htb.2 htb.1 hkY) (row_appended (unhide HVY) (unhide HRY) hgrow' (by decide) (by decide) HUV.out)) (fun hSd => ?_)
        clear hK K
        refine wpAnyH_done (by kernel_rfl) ⟨rfl, ?_⟩ _
        refine ⟨keepsFrom_trans (below_keeps (unhide HUB)) (hap.2.2.2.1.from _), (below_kp (unhide HUB)).trans (kp_appended (unhide HVY) (unhide HRY) hgrow' (by decide) (by decide)), ⟨⟨E ++ [(x.t, .slice pu x.t.useS.length ccu)], _, ?_, hap.2.1, ?_, ?_⟩, ?_⟩⟩
        · rw [List.map_append, List.map_append, unhide HE]; rfl
        · rw [bdCells_snoc, List.length_append, hElen, ← bat_bpl]; exact hap.2.2.1
        · intro e he
          have third : ∀ (g : Nat) (c : Array Value), Y.heap[g]? = some (Obj.cells c 3 (0, 0)) → (w5.setCell ⟨w.heap.size + 1, 0, none⟩ (.slice (some ⟨g6, 0, none⟩) (pre.length + 1) cap6)).heap[g]? = some (Obj.cells c 3 (0, 0)) := fun g c h => row_appended (unhide HVY) (unhide HRY) hgrow' (by decide) (by decide) h
          rcases List.mem_append.1 he with he | he
          · exact row_kept (row_kept (unhide HU e he) (Nat.le_refl _) (fun g c h => upY h)) (Nat.le_refl _) third
          · rw [List.mem_singleton] at he
            subst he
            exact row_kept (unhide HUR) (Nat.zero_le _) third
        · exact (unhide HBEL).trans (((unhide HUB).mono zX).trans hap.2.2.2.2)
      · go_simp
        refine hK.out _ _ (unhide TL _ KA.out.1 KA.out.2) (fun hSd => ?_)
        clear hK K
        refine wpAnyH_ready (rs := [0]) (by kernel_rfl) (by simp) ?_
        refine AllReadyH.cons rfl (fun K hK => ?_) AllReadyH.nil
        go_simp
        refine hK.out _ _ hSd (fun hSd => ?_)
        clear hK K
        refine wpAnyH_ready (rs := [12]) (by kernel_rfl) (by simp) ?_
        refine AllReadyH.cons rfl (fun K hK => ?_) AllReadyH.nil
        rw [if_pos (by rfl)]
        refine wp_append_own _ _ _ 45 rfl W0.heap.size 48 i0 (.agg #[.string ⟨#[]⟩, .int .i64 0, .slice none 0 0]) 3 48 Tryz.underlying45 hi0 hz0 hz1 hz3 rfl (by decide) (.slice pv pre.length ccv) pre.length (bdCells E) rfl (World.ownsRow.alloc (w := Y) (unhide HRY) _) ⟨Y.heap.size, 0, none⟩ 1 1 [bytesV x.t.bname, .int .i64 x.t.bat, .slice pu x.t.useS.length ccu] rfl rfl (cell_three_new Y _ _ _ _) (by intro u hu; simp at hu; rcases hu with rfl | rfl | rfl <;> rfl) (by unfold maxLen; omega) (by omega) (by simp; omega) ?_
        intro v' w5 hown' hgrow
        have hgrow' : (Y.alloc (.cells #[bytesV x.t.bname, .int .i64 x.t.bat, .slice pu x.t.useS.length ccu] 48)).grownBy w5 (Value.slice pv pre.length ccv).ownBlock := ⟨hgrow.os, hgrow.tape, hgrow.output, hgrow.size, hgrow.block⟩
        obtain ⟨g6, cap6, rfl⟩ := ownsRow_succ hown'
        have hap := Boxed.appended (unhide HVY) (by decide) (unhide HRY) (Nat.le_trans zX zY) (by omega) hown' hgrow'
        have hc1' := hap.1.cell
        have hf1 := hap.1.frozen
        refine hK.out _ _ (unhide TL _ (row_grown (unhide HRY) hgrow' htb.1 hkY) (row_grown (unhide HRY) hgrow' (by decide) HUV.out)) (fun hSd => ?_)
        clear hK K
        refine wpAnyH_ready (rs := [13]) (by kernel_rfl) (by simp) ?_
        refine AllReadyH.cons rfl (fun K hK => ?_) AllReadyH.nil
        go_simp
        refine hK.out _ _ (unhide TL _ (row_appended (unhide HVY) (unhide HRY) hgrow' htb.2 htb.1 hkY) (row_appended (unhide HVY) (unhide HRY) hgrow' (by decide) (by decide) HUV.out)) (fun hSd => ?_)
        clear hK K
        refine wpAnyH_done (by kernel_rfl) ⟨rfl, ?_⟩ _
        refine ⟨keepsFrom_trans (below_keeps (unhide HUB)) (hap.2.2.2.1.from _), (below_kp (unhide HUB)).trans (kp_appended (unhide HVY) (unhide HRY) hgrow' (by decide) (by decide)), ⟨⟨E ++ [(x.t, .slice pu x.t.useS.length ccu)], _, ?_, hap.2.1, ?_, ?_⟩, ?_⟩⟩
        · rw [List.map_append, List.map_append, unhide HE]; rfl
        · rw [bdCells_snoc, List.length_append, hElen, ← bat_bpl]; exact hap.2.2.1
        · intro e he
          have third : ∀ (g : Nat) (c : Array Value), Y.heap[g]? = some (Obj.cells c 3 (0, 0)) → (w5.setCell ⟨w.heap.size + 1, 0, none⟩ (.slice (some ⟨g6, 0, none⟩) (pre.length + 1) cap6)).heap[g]? = some (Obj.cells c 3 (0, 0)) := fun g c h => row_appended (unhide HVY) (unhide HRY) hgrow' (by decide) (by decide) h
          rcases List.mem_append.1 he with he | he
          · exact row_kept (row_kept (unhide HU e he) (Nat.le_refl _) (fun g c h => upY h)) (Nat.le_refl _) third
          · rw [List.mem_singleton] at he
            subst he
            exact row_kept (unhide HUR) (Nat.zero_le _) third
        · exact (unhide HBEL).trans (((unhide HUB).mono zX).trans hap.2.2.2.2)
    case istop => rintro c pre X hpre h; exact h.elim
  case done =>
    rintro D xs X hD hxs ⟨⟨E, v, hE, hv, hrow, huse⟩, hbel⟩ hK
    obtain ⟨pv, ccv, rfl⟩ := row_slice hrow
    have cv := hv.cell
    have hput := grownBy_putObj' X D (.deferred none)
    have kc : ∀ (g : Nat) (e : TypeId) (c : Array Value), X.heap[g]? = some (Obj.cells c e (0, 0)) → (X.putObj D (.deferred none)).heap[g]? = some (Obj.cells c e (0, 0)) := fun g e c h => by
      rw [World.putObj_heap_other]
      · exact h
      · rintro rfl
        rw [hK] at h
        cases h
    have hEE : E.map (·.1) = t.binds := by
      have e2 := congrArg (List.map (fun z : TN => z.t)) hxs
      rw [hbd, List.map_map] at e2
      exact hE.trans e2
    have FIN : Hid (BdAt (X.putObj D (.deferred none)) (.slice pv E.length ccv) t.binds ∧ w.grownBy (X.putObj D (.deferred none)) none) := by
      refine ⟨⟨E, hEE, row_kept hrow (Nat.zero_le _) (fun g c h => kc g _ c h), fun e he => row_kept (huse e he) (Nat.le_refl _) (fun g c h => kc g _ c h)⟩, ?_⟩
      refine ⟨hput.os.trans (hbel.os.trans G0.os), hput.tape.trans (hbel.tape.trans G0.tape), hput.output.trans (hbel.output.trans G0.output), by have := hput.size; have := hbel.size; omega, fun i hi _ => ?_⟩
      exact (hput.block i (by have := hbel.size; omega) (fun e => by cases e; omega)).trans ((hbel.block i (by omega)).trans (G0.block i hi (by simp)))
    clear hrow huse hv hbel hput kc hE
    gi_wp2_with fail
    refine ⟨by simp, .inl ⟨_, _, rfl, run_takeDeferred hK, ?_⟩⟩
    refine ⟨.slice pv E.length ccv, ?_, ⟨_, rfl, FIN.out.1⟩, FIN.out.2⟩
    simp [results, Tryz.results24, go_sem]
  case stop => intro D c pre X hD hpre h; exact h.elim

end Go.Proofs.YtckhafpejefbbaaGreatDoor

/- tailorkeep.Back. -/
namespace Go.Proofs.YtckhafpejefbbaaGreatDoor
open Go.RowKit

structure Lib6 : Prop extends Lib5 where
  bd : Said.Builder

theorem lib6 : Lib6 := { lib5 with bd := ⟨fun B b l w h hB => Tryz.Builder_String_any_k B b l w h hB⟩ }

set_option maxRecDepth 100000 in
set_option maxHeartbeats 2000000 in
theorem Open_new (hIB : Said.IndexByte) (hPI : Said.ParseInt) (hIt : Said.ItoaSmall) {s : ByteArray} {fo : Nat} {t : Tw.T} {sh : List UInt8} (h : Tw.openS 6100 fo s.data.toList = some (.fine t sh)) (w : World) :
    Calls Tryz.prog 16 #[.string s] w fun e w' => ∃ bt, e = .returned (.tuple #[.pointer (some ⟨bt, 0, none⟩), .int .i64 0, .int .i64 0]) ∧ TextAt w' bt s t ∧ w.grownBy w' none ∧ w.heap.size ≤ bt := by
  have hl : s.data.toList.length = s.size := Array.length_toList
  have hs := (Tw.fine_parts h).1
  rw [hl] at hs
  unfold Tw.openS at h
  rw [if_neg (by omega)] at h
  obtain ⟨v, W, hc1, hc2, hg⟩ := copy_string s w
  have G := hide hg
  have HR := hide h
  clear hg h hl
  have hs2 : ¬ (300 : Int) < s.size := by omega
  go_enter Tryz.func16, Tryz.ntmps16
  go_wp2_with fail
  refine (read_any hIB hPI hIt s (by omega) (unhide HR) W).mono ?_
  rintro e1 w1 ⟨tv, rfl, hR, hk⟩
  have R1 := hide hR
  obtain ⟨PT, nt, rfl⟩ := hR.iface
  have K1 : Hid (TK w.heap.size WtS w w1) := (TK.of_grown _ _ G.out).trans (hk.base G.out.size)
  clear hR hk
  go_wp2_with fail
  go_ret3
  exact ⟨_, rfl, ⟨_, _, new_block w1 _, (unhide R1).grown (World.grownBy_alloc _ _ none) (Nat.zero_le _) (Nat.le_refl _)⟩, grown_alloc K1.out.grown _, K1.out.grown.size⟩

theorem bdCells_at : ∀ (E : List (Tw.T × Value)) (i : Nat) (h : i < E.length), (bdCells E)[i * 3]? = some (bytesV E[i].1.bname) ∧ (bdCells E)[i * 3 + 1]? = some (.int .i64 E[i].1.bpl) ∧ (bdCells E)[i * 3 + 2]? = some E[i].2
  | c :: cs, 0, _ => ⟨rfl, rfl, rfl⟩
  | c :: cs, i + 1, h => by
    have := bdCells_at cs i (by simpa using h)
    rw [show (i + 1) * 3 = (i * 3) + 3 by omega, show i * 3 + 3 + 1 = (i * 3 + 1) + 3 by omega, show i * 3 + 3 + 2 = (i * 3 + 2) + 3 by omega]
    exact this

theorem BdAt.get {W : World} {v : Value} {L : List Tw.T} (h : BdAt W v L) {i : Nat} {n : Tw.T} (hi : L[i]? = some n) : ∃ g c u, v = .slice (some ⟨g, 0, none⟩) L.length c ∧ W.cell? ⟨g, i * 3, none⟩ = some (bytesV n.bname) ∧ W.cell? ⟨g, i * 3 + 1, none⟩ = some (.int .i64 n.bpl) ∧ W.cell? ⟨g, i * 3 + 2, none⟩ = some u ∧ UsesAt W u n.useS := by
  obtain ⟨E, rfl, hr, hu⟩ := h
  obtain ⟨hlt, rfl⟩ := List.getElem?_eq_some_iff.1 hi
  have hlt' : i < E.length := by simpa using hlt
  rcases hr.2 with ⟨_, e⟩ | ⟨g, cap, cur, rfl, hg, hb, h1, h2, h3, h4⟩
  · omega
  · have hlen : (bdCells E).length = E.length * 3 := hr.1
    have key : ∀ j, j < E.length * 3 → W.cell? ⟨g, j, none⟩ = (bdCells E)[j]? := fun j hj => by
      rw [cell_of_row _ _ _ _ _ _ hb, ← h4, List.getElem?_take_of_lt hj]
      simp
    obtain ⟨a, b, c⟩ := bdCells_at E i hlt'
    have e1 : (E.map (·.1))[i] = E[i].1 := by simp
    refine ⟨g, cap, E[i].2, by simp, ?_, ?_, ?_, ?_⟩
    · rw [key _ (by omega), a, e1]
    · rw [key _ (by omega), b, e1]
    · rw [key _ (by omega), c]
    · rw [e1]; exact hu _ (List.getElem_mem _)

theorem BdAt.keep {W W' : World} {v : Value} {L : List Tw.T} (h : BdAt W v L) (hk : ∀ (g : Nat) (c : Array Value) (e : TypeId), e = 48 ∨ e = 3 → W.heap[g]? = some (Obj.cells c e (0, 0)) → W'.heap[g]? = some (Obj.cells c e (0, 0))) : BdAt W' v L := by
  obtain ⟨E, h1, h2, h3⟩ := h
  exact ⟨E, h1, row_kept h2 (Nat.le_refl _) (fun g c h => hk g c _ (.inl rfl) h), fun e he => row_kept (h3 e he) (Nat.le_refl _) (fun g c h => hk g c _ (.inr rfl) h)⟩

theorem BdAt.grown {W W' : World} {v : Value} {L : List Tw.T} (h : BdAt W v L) (hg : W.grownBy W' none) : BdAt W' v L := h.keep fun g c e _ hh => (hg.block g (Array.getElem?_eq_some_iff.1 hh).1 (by simp)).trans hh

theorem BdAt.text {W W' : World} {v : Value} {L : List Tw.T} {bt : Nat} {s : ByteArray} {t : Tw.T} (h : BdAt W v L) (hT : TextAt W bt s t) (hg : W.grownBy W' (some bt)) : BdAt W' v L := by
  obtain ⟨hi, tv, hb, _⟩ := hT
  refine h.keep fun g c e he hh => (hg.block g (Array.getElem?_eq_some_iff.1 hh).1 ?_).trans hh
  intro q
  cases q
  rw [hb] at hh
  cases hh
  rcases he with he | he <;> exact absurd he (by decide)

theorem UsesAt.get {W : World} {u : Value} {l : List Nat} (h : UsesAt W u l) : ∃ p c, u = .slice p l.length c ∧ ∀ (k f : Nat), l[k]? = some f → ∃ g, p = some ⟨g, 0, none⟩ ∧ W.cell? ⟨g, k, none⟩ = some (.int .i64 f) := by
  rcases h.2 with ⟨rfl, e⟩ | ⟨g, cap, cur, rfl, hg, hb, h1, h2, h3, h4⟩
  · refine ⟨none, 0, by rw [e], fun k f hk => ?_⟩
    have : l = [] := List.length_eq_zero_iff.1 e
    subst this
    cases hk
  · refine ⟨some ⟨g, 0, none⟩, cap, rfl, fun k f hk => ⟨g, rfl, ?_⟩⟩
    have hlt := (List.getElem?_eq_some_iff.1 hk).1
    rw [cell_of_row _ _ _ _ _ _ hb]
    have e : cur[k]? = (l.map fun f : Nat => Value.int .i64 f)[k]? := by
      rw [← h4, List.getElem?_take_of_lt (by omega)]
      simp
    rw [e, List.getElem?_map, hk]
    rfl

theorem ba_loop (bs : ByteArray) : ∀ (k i : Nat) (r : List UInt8), bs.size - i = k → ByteArray.toList.loop bs i r = r.reverse ++ bs.data.toList.drop i
  | 0, i, r, h => by
    unfold ByteArray.toList.loop
    have hs : bs.data.toList.length = bs.size := Array.length_toList
    rw [if_neg (by omega), List.drop_of_length_le (by omega), List.append_nil]
  | k + 1, i, r, h => by
    unfold ByteArray.toList.loop
    have hs : bs.data.toList.length = bs.size := Array.length_toList
    have hi : i < bs.data.toList.length := by omega
    rw [if_pos (by omega), ba_loop bs k (i + 1) _ (by omega), List.drop_eq_getElem_cons hi]
    have hg : bs.get! i = bs.data.toList[i] := by
      have h2 : i < bs.data.size := by have : bs.data.size = bs.size := rfl; omega
      show bs.data[i]! = _
      rw [getElem!_pos bs.data i h2]
      simp
    rw [hg]
    simp
theorem ba_toList (bs : ByteArray) : bs.toList = bs.data.toList := by
  have := ba_loop bs _ 0 [] rfl
  simpa [ByteArray.toList] using this

theorem piece_list (s : ByteArray) (a b : Nat) : (s.extract a b).toList = Tw.piece s.data.toList a b := by rw [ba_toList, piece_extract]

theorem grown_new {w w1 w2 : World} {b : Nat} (h : w.grownBy w1 none) (k : w1.grownBy w2 (some b)) (hb : w.heap.size ≤ b) : w.grownBy w2 none :=
  ⟨k.os.trans h.os, k.tape.trans h.tape, k.output.trans h.output, Nat.le_trans h.size k.size, fun i hi _ => (k.block i (Nat.lt_of_lt_of_le hi h.size) (fun e => by cases e; omega)).trans (h.block i hi (by simp))⟩

theorem TextAt.grown {w w' : World} {bt : Nat} {s : ByteArray} {t : Tw.T} (h : TextAt w bt s t) (hg : w.grownBy w' none) : TextAt w' bt s t := h.kp (Kp.of_grown hg) (fun _ _ hc => (hg.block _ (Array.getElem?_eq_some_iff.1 hc).1 (by simp)).trans hc)

set_option maxRecDepth 100000 in
set_option maxHeartbeats 4000000 in
theorem Back_any (L : Lib6) {w : World} (hT : Tab w) (hG : 1 < w.heap.size) (s : ByteArray) (c : Int) (hc0 : -9223372036854775808 ≤ c) (hc1 : c ≤ 9223372036854775807) :
    Calls Tryz.prog 12 #[.string s, .int .i64 c] w fun e w' => e = .returned (.bool true) ∧ w.grownBy w' none := by
  have HT := hide hT
  obtain ⟨fo, res, hres⟩ := Tw.open_tot s.data.toList
  have HRes := hide (hres fo (Nat.le_refl _))
  clear hT hres
  cases res with
  | fault k p =>
    have hk0 : k ≠ 0 := by
      have := unhide HRes
      unfold Tw.openS at this
      split at this
      · cases this; omega
      · exact fault_ne this
    have hki : ¬ (k : Int) = 0 := by omega
    have hkb : ((k : Int) != 0) = true := by simp; omega
    go_enter Tryz.func12, Tryz.ntmps12
    go_wp2_with fail
    refine (awake_any L.toLib4 (unhide HT) hG).mono ?_
    rintro e1 w1 ⟨rfl, hk⟩
    have K1 := hide hk.grown
    clear hk
    go_wp2_with fail
    refine (Open_any L.ib L.pi L.it (unhide HRes) w1).mono ?_
    rintro e1 w2 ⟨rfl, hk⟩
    have K2 := hide (grown_trans (unhide K1) hk.grown)
    clear hk
    go_wp2_with fail
    go_ret
    exact ⟨rfl, unhide K2⟩
  | fine t sh =>
    have hl := (Tw.fine_parts (unhide HRes)).1
    rw [show s.data.toList.length = s.size from Array.length_toList] at hl
    obtain ⟨body, hop⟩ := opened_of (unhide HRes)
    have HOP := hide hop
    have hnn := nodes_fine (unhide HRes)
    clear hop
    go_enter Tryz.func12, Tryz.ntmps12
    go_wp2_with fail
    refine (awake_any L.toLib4 (unhide HT) hG).mono ?_
    rintro e1 w1 ⟨rfl, hk⟩
    have K1 := hide hk.grown
    clear hk
    go_wp2_with fail
    refine (Open_new L.ib L.pi L.it (unhide HRes) w1).mono ?_
    rintro e1 w2 ⟨bt, rfl, hX, hg, hbt⟩
    have X2 := hide hX
    have K2 := hide (grown_trans (unhide K1) hg)
    have hbw : w.heap.size ≤ bt := Nat.le_trans (unhide K1).size hbt
    clear hX hg hbt K1
    go_wp2_with fail
    refine (textBinders_any (unhide X2) (unhide HOP) hnn).mono ?_
    rintro e1 w3 ⟨⟨v, rfl, hB⟩, hg⟩
    have X3 := hide ((unhide X2).grown hg)
    have K3 := hide (grown_trans (unhide K2) hg)
    have B3 := hide hB
    have hNl : t.binds.length ≤ 300 := by
      have := (Tw.binds_pl t).length_le
      rw [List.length_map] at this
      exact Nat.le_trans this (unhide HOP).small
    have hsl : ∃ p cc, v = .slice p t.binds.length cc := by
      obtain ⟨E, e1, hr, _⟩ := hB
      obtain ⟨p, cc, e⟩ := row_slice hr
      exact ⟨p, cc, by rw [e, ← e1, List.length_map]⟩
    obtain ⟨p, cc, rfl⟩ := hsl
    clear hB hg X2 K2
    by_cases hN : t.binds.length = 0
    · have hNi : (t.binds.length : Int) = 0 := by omega
      go_wp2_with fail
      go_ret
      exact ⟨rfl, unhide K3⟩
    · have hNi : ¬ (t.binds.length : Int) = 0 := by omega
      obtain ⟨i, hi, hpick⟩ := pick_det c t.binds.length hc0 hc1 (by omega) (by omega)
      obtain ⟨n, hn⟩ : ∃ n, t.binds[i]? = some n := ⟨_, List.getElem?_eq_getElem hi⟩
      obtain ⟨g, cc', u, e1, cn, ca, cu, hu⟩ := (unhide B3).get hn
      cases e1
      have HP := hide hpick
      have HU := hide hu
      obtain ⟨pu, cu2, rfl, hug⟩ := hu.get
      have hii : (i : Int) < t.binds.length := by omega
      clear hpick hu hug
      go_wp2_with fail
      refine (unhide HP w3).mono ?_
      rintro e1 w4 ⟨rfl, rfl⟩
      go_wp2_with fail
      go_loopg [13] (s.size + 1) (fun j kv wr => ∃ q : Nat, j + q = s.size + 1 ∧ q ≤ s.size ∧ kv = .int .i64 q ∧ wr = w3 ∧ Hid (∀ k, k < q → k + 3 ≤ s.size → Tw.piece s.data.toList k (k + 3) ≠ Tw.zq9))
      case atStart => exact ⟨0, by omega, by omega, rfl, rfl, fun k hk => by omega⟩
      case round =>
        obtain ⟨q, hj, hq, rfl, rfl, HF⟩ := hrel
        by_cases h3 : q + 3 ≤ s.size
        · have h3i : (q : Int) + 3 ≤ (s.size : Int) := by omega
          by_cases he : Tw.piece s.data.toList q (q + 3) = Tw.zq9
          · have he2 : ((s.extract q (q + 3)).toList == [122, 113, 57]) = true := by rw [piece_list, he]; rfl
            go_wp2_with fail
            go_ret
            exact ⟨rfl, unhide K3⟩
          · have he2 : ((s.extract q (q + 3)).toList == [122, 113, 57]) = false := by
              rw [piece_list]
              simpa [Tw.zq9] using he
            go_wp2_with fail
            go_roundg (gk - 1)
            case measure => omega
            case rel => exact ⟨q + 1, by omega, by omega, by go_num, rfl, fun k hk hk3 => by
              rcases Nat.lt_or_ge k q with h | h
              · exact unhide HF k h hk3
              · obtain rfl : k = q := by omega
                exact he⟩
        · have h3i : ¬ (q : Int) + 3 ≤ (s.size : Int) := by omega
          have HFr : Hid (∀ k, k + 3 ≤ s.data.toList.length → Tw.piece s.data.toList k (k + 3) ≠ Tw.zq9) := fun k hk => by
            have hs : s.data.toList.length = s.size := Array.length_toList
            exact unhide HF k (by omega) (by omega)
          have hmem : n ∈ t.binds := List.mem_of_getElem? hn
          have hul : n.useS.length ≤ 300 := by
            have hR := Tw.hit_reps (unhide HOP).text (unhide HOP).lex (Tw.hit_of_mem t (unhide HOP).nd n hmem)
            have := inc_len (N := s.data.toList.length) (d := 0) hR.1 (fun f hf => by
              obtain ⟨k, hk, rfl, _, _⟩ := hR.2 f hf
              have := (((unhide HOP).lex.toks).1 k hk).lt
              have := (((unhide HOP).lex.toks).1 k hk).high
              omega) (by omega)
            have := (unhide HOP).len
            simp only [List.length_cons] at *
            omega
          clear HF
          by_cases hlen : 300 < s.size + 2 * (n.useS.length + 1)
          · have hli : (300 : Int) < (s.size : Int) + 2 * ((n.useS.length : Int) + 1) := by omega
            go_wp2_with fail
            go_ret
            exact ⟨rfl, unhide K3⟩
          · have hli : ¬ (300 : Int) < (s.size : Int) + 2 * ((n.useS.length : Int) + 1) := by omega
            obtain ⟨l', t', n', BO⟩ := Tw.back_plain (unhide HRes) hmem (unhide HFr) (by
              have hs : s.data.toList.length = s.size := Array.length_toList
              omega)
            have HBO := hide BO
            obtain ⟨body', hop'⟩ := opened_of BO.opens
            have HOP' := hide hop'
            have hnn' := nodes_fine BO.opens
            have hne := List.length_pos_iff.2 BO.nm.ne
            have hq : (⟨(Tw.chgR 0 s.data.toList (Tw.chs n.bname.length (⟨#[122, 113, 57]⟩ : ByteArray).data.toList (n.bpl :: n.useS))).toArray⟩ : ByteArray) = ⟨l'.toArray⟩ := by rw [BO.eq]; rfl
            have HR1 := hide (textRename_fine (name := ⟨#[122, 113, 57]⟩) (a := (n.bpl : Int)) L.ib L.pi L.it L.bd (unhide X3) (unhide HOP) hmem (Int.le_refl _) (by omega) Tw.zq9_nm (fun h => BO.capt h.2) (by rw [show (⟨#[122, 113, 57]⟩ : ByteArray).data.toList = Tw.zq9 from rfl, ← BO.eq]; exact BO.opens))
            rw [hq] at HR1
            clear BO hop' hq HFr
            go_wp2_with fail
            refine (unhide HR1).mono ?_
            rintro e1 w5 ⟨rfl, hX, hg⟩
            have X5 := hide hX
            have B5 := hide ((unhide B3).text (unhide X3) hg)
            have K5 := hide (grown_new (unhide K3) hg hbw)
            clear hX hg X3 B3 K3 HR1 cn ca cu
            go_wp2_with fail
            refine (textBinders_any (unhide X5) (unhide HOP') hnn').mono ?_
            rintro e1 w6 ⟨⟨v', rfl, hB⟩, hg⟩
            have X6 := hide ((unhide X5).grown hg)
            have K6 := hide (grown_trans (unhide K5) hg)
            obtain ⟨g6, c6, u6, e1, cn6, ca6, cu6, hu6⟩ := ((unhide B5).grown hg).get hn
            cases e1
            obtain ⟨pu6, cc6, rfl, _⟩ := hu6.get
            obtain ⟨g', c', u', rfl, cn', ca', cu', hu'⟩ := hB.get ((unhide HBO).at_ i hn)
            obtain ⟨pu', cc7, rfl, hug'⟩ := hu'.get
            have HUG := hide hug'
            have eL := (unhide HBO).binds
            have eU := (unhide HBO).uses
            rw [eL]
            rw [(unhide HBO).name] at cn'
            rw [eU] at cu'
            have cn2 : w6.cell? ⟨g', i * 3, none⟩ = some (.string ⟨#[122, 113, 57]⟩) := cn'
            clear hB hg X5 K5 B5 hug' hu' hu6 cn'
            go_wp2_with fail
            go_region_held3 (fun W => W.cell? ⟨g', i * 3, none⟩ = some (.string ⟨#[122, 113, 57]⟩) ∧ W.cell? ⟨g', i * 3 + 2, none⟩ = some (.slice pu' n.useS.length cc7) ∧ W.cell? ⟨g, i * 3 + 2, none⟩ = some (.slice pu6 n.useS.length cc6)) (go_keep) (fail)
            have D6 : w6.grownBy w6.drew none := grown_drew (grown_refl _)
            have X7 := hide ((unhide X6).grown D6)
            have K7 := hide (grown_trans (unhide K6) D6)
            have ca7 : w6.drew.cell? ⟨g', i * 3 + 1, none⟩ = some (.int .i64 n'.bpl) := ca'
            have cu7 : w6.drew.cell? ⟨g', i * 3 + 2, none⟩ = some (.slice pu' n.useS.length cc7) := cu'
            have HUG7 : Hid (∀ (k f : Nat), n'.useS[k]? = some f → ∃ g, pu' = some ⟨g, 0, none⟩ ∧ w6.drew.cell? ⟨g, k, none⟩ = some (.int .i64 f)) := hide (unhide HUG)
            clear X6 K6 D6 HUG ca' cu' cu6 ca6 cn6 cn2
            generalize w6.drew = w7 at *
            go_wp2_with fail
            have hmem' : n' ∈ t'.binds := List.mem_of_getElem? ((unhide HBO).at_ i hn)
            have hb3 := (unhide HOP').bind hmem'
            have hb4 := hb3.2
            rw [(unhide HBO).name, show Tw.zq9.length = 3 from rfl] at hb4
            have hb5 : (n'.bpl : Int) ≤ 300 := by omega
            clear hb3
            go_loopg [16] n.useS.length (fun j kv wr => ∃ q d : Nat, j + q = n.useS.length ∧ q ≤ n.useS.length ∧ kv = .int .i64 q ∧ wr = w7.drewN d)
            case atStart => exact ⟨0, 0, by omega, by omega, rfl, rfl⟩
            case round =>
              obtain ⟨q2, d, hj2, hq2, rfl, rfl⟩ := hrel
              have ca8 : (w7.drewN d).cell? ⟨g', i * 3 + 1, none⟩ = some (.int .i64 n'.bpl) := ca7
              have cu8 : (w7.drewN d).cell? ⟨g', i * 3 + 2, none⟩ = some (.slice pu' n.useS.length cc7) := cu7
              by_cases hlt : q2 < n.useS.length
              · have hli2 : (q2 : Int) < (n.useS.length : Int) := by omega
                obtain ⟨f, hf⟩ : ∃ f, n'.useS[q2]? = some f := ⟨_, List.getElem?_eq_getElem (by omega)⟩
                obtain ⟨gu, rfl, cf⟩ := unhide HUG7 q2 f hf
                have cf8 : (w7.drewN d).cell? ⟨gu, q2, none⟩ = some (.int .i64 f) := cf
                have haf := (unhide HBO).after f (List.mem_of_getElem? hf)
                have hafi : ¬ (f : Int) < (n'.bpl : Int) := by omega
                clear ca7 cu7 cf haf
                go_wp2_with fail
                go_region_held3 (fun W => W.cell? ⟨g', i * 3 + 1, none⟩ = some (.int .i64 n'.bpl) ∧ W.cell? ⟨g', i * 3 + 2, none⟩ = some (.slice (some ⟨gu, 0, none⟩) n.useS.length cc7) ∧ W.cell? ⟨gu, q2, none⟩ = some (.int .i64 f)) (exact ⟨ca8, cu8, cf8⟩) (fail)
                go_wp2_with fail
                go_roundg (gk - 1)
                case measure => omega
                case rel => exact ⟨q2 + 1, d + 1, by omega, by omega, by go_num, rfl⟩
              · have hli2 : ¬ (q2 : Int) < (n.useS.length : Int) := by omega
                have D8 : w7.grownBy (w7.drewN d) none := grown_drewN w7 d
                have X8 := hide ((unhide X7).grown D8)
                have K8 := hide (grown_trans (unhide K7) D8)
                have nml := (unhide HBO).name
                have hq9 : n'.bname.length = 3 := by rw [nml]; rfl
                have hbk : Tw.chgR 0 (⟨l'.toArray⟩ : ByteArray).data.toList (Tw.chs n'.bname.length (⟨n.bname.toArray⟩ : ByteArray).data.toList (n'.bpl :: n'.useS)) = s.data.toList := by rw [hq9]; exact (unhide HBO).back
                have HR2 := hide (textRename_fine (name := ⟨n.bname.toArray⟩) (a := (n'.bpl : Int) + 2) L.ib L.pi L.it L.bd (unhide X8) (unhide HOP') hmem' (by omega) (by omega) (unhide HBO).nm (fun h => (unhide HBO).capt' h.2) (by rw [hbk]; exact unhide HRes))
                rw [hbk] at HR2
                have hse : (⟨s.data.toList.toArray⟩ : ByteArray) = s := rfl
                rw [hse] at HR2
                clear hbk hq9 nml hse
                generalize w7.drewN d = w8 at *
                go_wp2_with fail
                refine (unhide HR2).mono ?_
                rintro e1 w9 ⟨rfl, hX, hg⟩
                have X9 := hide hX
                have K9 := hide (grown_new (unhide K8) hg hbw)
                clear hX hg HR2
                go_wp2_with fail
                refine (Source_any (unhide X9)).mono ?_
                rintro e1 w10 ⟨rfl, rfl⟩
                go_wp2_with fail
                go_ret
                exact ⟨ret_bool (by simp), unhide K9⟩

end Go.Proofs.YtckhafpejefbbaaGreatDoor
