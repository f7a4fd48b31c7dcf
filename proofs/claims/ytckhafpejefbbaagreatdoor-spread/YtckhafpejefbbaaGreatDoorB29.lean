/- Texts of the proof, put together: TextBind, AltInl7, AltInl8. -/
import Derived.Test.YtckhafpejefbbaaGreatDoorB26
import Derived.Test.YtckhafpejefbbaaGreatDoorB14
import Derived.Test.YtckhafpejefbbaaGreatDoorB27
import Derived.Test.YtckhafpejefbbaaGreatDoorB28

/- Text.Binders. -/
namespace Go.Proofs.YtckhafpejefbbaaGreatDoor
open Go.RowKit Go.Shelf

theorem sa_alloc (l : Nat) (ρ : Operand → Value) (d : Option Tmp) (ty : TypeId) (p : String) (af : Array Edge) (g : Option (Nat × Bool)) (t : TypeId) : Oper.semAt (some l) ρ { dst := d, op := .alloc t, type := ty, pos := p, after := af, guard := g } = execOp ρ { dst := d, op := .alloc t, type := ty, pos := p, after := af, guard := g } := rfl
theorem sa_call (l : Nat) (ρ : Operand → Value) (d : Option Tmp) (ty : TypeId) (p : String) (af : Array Edge) (g : Option (Nat × Bool)) (f : Nat) (xs : Array Operand) (ts : Array TypeId) : Oper.semAt (some l) ρ { dst := d, op := .call { callee := .value (.func f), args := xs, argTypes := ts }, type := ty, pos := p, after := af, guard := g } = execOp ρ { dst := d, op := .call { callee := .value (.func f), args := xs, argTypes := ts }, type := ty, pos := p, after := af, guard := g } := rfl

attribute [local go_sem] sa_load sa_store sa_move sa_nil sa_field sa_build sa_slice sa_alloc sa_call

section
variable {P : Program} {α : Type} {n : Nat} {g : Operand} {ps : Array Tmp} {assign body : Code} {Q : Exit → Act → World → Prop} {a : Act} {w : World}
theorem range_oN1 {l₀ : Nat} {r₀ : Loop} (hl₀ : w.heap[l₀]? = some (.loop r₀)) {p d1 : Tmp} {gf : Nat} {lb : Array Value} (hg : a.eval g = .func (.func gf) #[] lb) (eg : ∀ args w, (callFunc gf args).run P w = .ok (.enter gf args) w)
    {e1 : α → Value} {Kp : World → World → Prop} {S Sp : List α → Prop} {N : Nat} {w0 : World} (hseq : SeqO P gf lb (fun x => #[e1 x]) Kp S Sp N w0)
    (hKt : ∀ {A B C : World}, Kp A B → Kp B C → Kp A C) (hKb : ∀ (W : World) (l : Nat) (o o' : Obj), w.heap.size ≤ l → W.heap[l]? = some o → o.isCells = false → o.isWalk = false → Kp W (W.putObj l o')) (hb0 : Below w0.heap.size w0 w)
    (I : List α → World → Prop) (Ix : Code → List α → World → Prop) (hI : OwnFrom w.heap.size I) (hIx : ∀ c, OwnFrom w.heap.size (Ix c)) (h0 : I [] w)
    (hassign : ∀ (l : Nat) (x : α) (W : World) (K : Act → World → Prop), K { tmps := (a.tmps.setIfInBounds p (e1 x)).setIfInBounds d1 (e1 x), defers := [] } W →
      assign.wpIn (Fence.wide.inRound l) 0 P (Exit.then K (fun _ _ _ => False)) { tmps := a.tmps.setIfInBounds p (e1 x), defers := [] } W)
    (hbody : ∀ (l : Nat) (pre : List α) (x : α) (W : World), w.heap.size ≤ l → (∃ r, W.heap[l]? = some (.loop r)) → I pre W → pre.length < N → body.wpIn (Fence.wide.inRound l) 0 P (ownPostG w.heap.size Kp I Ix (pre ++ [x]) W) { tmps := (a.tmps.setIfInBounds p (e1 x)).setIfInBounds d1 (e1 x), defers := [] } W)
    (hdone : ∀ (xs : List α) (W : World), S xs → I xs W → Q .normal a W)
    (hstop : ∀ (c : Code) (pre : List α) (W : World), Sp pre → Ix c pre W → c.wpIn (Fence.wide.inRound l₀) n P Q a W) :
    (Code.rangeFunc g #[p] assign body).wpIn (Fence.wide.inRound l₀) n P Q a w :=
  range_oN hl₀ hg eg hseq (fun _ _ _ _ _ hs _ _ => hs) (fun h k => hKt h k) hKb hb0 (fun _ => rfl) I Ix hI hIx h0 (fun x => { tmps := (a.tmps.setIfInBounds p (e1 x)).setIfInBounds d1 (e1 x), defers := [] })
    (fun l x W K hK => by simpa using hassign l x W K hK) (fun l pre x W h1 h2 h3 h4 _ => hbody l pre x W h1 h2 h3 h4) hdone hstop
end

theorem row_kept {X Y : World} {B B' : Nat} {e : TypeId} {size : Nat} {v : Value} {k : Nat} {xs : List Value} (h : X.ownsRow B e size v k xs) (hB : B' ≤ B) (hk : ∀ (g : Nat) (c : Array Value), X.heap[g]? = some (Obj.cells c e (0, 0)) → Y.heap[g]? = some (Obj.cells c e (0, 0))) : Y.ownsRow B' e size v k xs := by
  refine ⟨h.1, ?_⟩
  rcases h.2 with h | ⟨g, cap, cur, e1, hg, hb, r⟩
  · exact .inl h
  · exact .inr ⟨g, cap, cur, e1, Nat.le_trans hB hg, hk _ _ hb, r⟩

theorem row_slice {X : World} {B : Nat} {e : TypeId} {size : Nat} {v : Value} {k : Nat} {xs : List Value} (h : X.ownsRow B e size v k xs) : ∃ p c, v = .slice p k c := by
  rcases h.2 with ⟨rfl, rfl⟩ | ⟨g, cap, cur, rfl, _⟩
  · exact ⟨_, _, rfl⟩
  · exact ⟨_, _, rfl⟩

theorem row_appended {X w1 : World} {n₀ B : Nat} {t e : TypeId} {size : Nat} {v v' : Value} {k : Nat} {xs : List Value} {tmp : Obj} (hv : Boxed X B t v) (hrow : X.ownsRow n₀ e size v k xs) (hgrow : (X.alloc tmp).grownBy w1 v.ownBlock) {u : TypeId} (h1 : u ≠ t) (h2 : u ≠ e) {j : Nat} {c : Array Value} {m : Nat × Nat} (hj : X.heap[j]? = some (.cells c u m)) : (w1.setCell ⟨B, 0, none⟩ v').heap[j]? = some (.cells c u m) := by
  have hb : B ≠ j := by
    rintro rfl
    have : X.heap[B]? = _ := hv
    rw [hj] at this
    cases this
    exact h1 rfl
  have hlt := (Array.getElem?_eq_some_iff.1 hj).1
  rw [Below.heap_setCell _ _ _ _ hb.symm]
  rw [hgrow.block j (by simp; omega) ?_]
  · exact (Below.heap_alloc _ _ _ hlt).trans hj
  · intro e1
    rcases hrow.2 with ⟨rfl, _⟩ | ⟨g, cap, cur, rfl, _, hg, _⟩
    · cases e1
    · cases e1
      rw [hj] at hg
      cases hg
      exact h2 rfl

theorem row_grown {X w1 : World} {n₀ : Nat} {e : TypeId} {size : Nat} {v : Value} {k : Nat} {xs : List Value} {tmp : Obj} (hrow : X.ownsRow n₀ e size v k xs) (hgrow : (X.alloc tmp).grownBy w1 v.ownBlock) {u : TypeId} (h2 : u ≠ e) {j : Nat} {c : Array Value} {m : Nat × Nat} (hj : X.heap[j]? = some (.cells c u m)) : w1.heap[j]? = some (.cells c u m) := by
  have hlt := (Array.getElem?_eq_some_iff.1 hj).1
  rw [hgrow.block j (by simp; omega) ?_]
  · exact (Below.heap_alloc _ _ _ hlt).trans hj
  · intro e1
    rcases hrow.2 with ⟨rfl, _⟩ | ⟨g, cap, cur, rfl, _, hg, _⟩
    · cases e1
    · cases e1
      rw [hj] at hg
      cases hg
      exact h2 rfl

theorem wp_append_own {P : Program} (w : World) {o : Oper} {a : Act} {K : Act → World → Prop} {Q : Exit → Act → World → Prop}
    (s x : Operand) (t : TypeId) (hop : o.op = Op.call { callee := Callee.builtin Builtin.append, args := #[s, x], argTypes := #[t, t] })
    (base : Nat) (e : TypeId) (i : TypeInfo) (z : Value) (size bytes : Nat) (h1 : P.underlying t = some (.slice e)) (h2 : P.info? e = some i) (h3 : i.zero = some z) (h4 : i.size = size) (h5 : i.bytes = bytes) (h6 : z.cells.size = size) (h7 : 0 < size)
    (v : Value) (k : Nat) (xs : List Value) (hs : a.eval s = v) (hown : w.ownsRow base e size v k xs) (ad : Addr) (m c : Nat) (news : List Value) (hx : a.eval x = .slice (some ad) m c) (hn : news.length = m * size)
    (hc : ∀ j u, news[j]? = some u → w.cell? (ad.add j) = some u) (h1c : ∀ u ∈ news, u.oneCell' = true) (b1 : k + m ≤ maxLen) (b2 : (k + m) * bytes ≤ 140737488355328) (b3 : base ≤ w.heap.size)
    (hK : ∀ v' w', w'.ownsRow base e size v' (k + m) (xs ++ news) → w.grownBy w' v.ownBlock → K (a.put o.dst v') w') : Oper.wp P o a w K Q := by
  obtain ⟨v', w', hrun, r1, r2, _⟩ := run_append_own (P := P) w base t o.type e i z size bytes h1 h2 h3 h4 h5 h6 h7 v k xs hown ad m c news hn hc h1c b1 b2 b3
  unfold Oper.wp
  simp [execOp, hop, resolve, invoke, builtin, hs, hx, hrun, Result.andThen]
  exact hK _ _ r1 r2

def UsesAt (W : World) (v : Value) (l : List Nat) : Prop := W.ownsRow 0 3 1 v l.length (l.map fun f : Nat => Value.int .i64 f)

def bdCells (E : List (Tw.T × Value)) : List Value := E.flatMap fun e => [bytesV e.1.bname, .int .i64 e.1.bpl, e.2]

theorem bdCells_snoc (E : List (Tw.T × Value)) (t : Tw.T) (u : Value) : bdCells (E ++ [(t, u)]) = bdCells E ++ [bytesV t.bname, .int .i64 t.bpl, u] := by
  simp [bdCells]

def BdAt (W : World) (v : Value) (L : List Tw.T) : Prop := ∃ E : List (Tw.T × Value), E.map (·.1) = L ∧ W.ownsRow 0 48 3 v E.length (bdCells E) ∧ ∀ e ∈ E, UsesAt W e.2 e.1.useS

theorem cell_one_new' (w : World) (a : Value) (t : TypeId) : ∀ j u, [a][j]? = some u → (w.alloc (.cells #[a] t)).cell? ((⟨w.heap.size, 0, none⟩ : Addr).add j) = some u := by
  intro j u h
  cases j with
  | zero =>
    cases h
    exact (one_cell (new_block w _)).1
  | succ j => simp at h

theorem own_below {β : Type} (W1 : World) {B : Nat} (hB : W1.heap.size ≤ B) : OwnFrom B (fun (_ : β) X => Below W1.heap.size W1 X) := fun _ X Y row h2 hg hr =>
  ⟨hg.os.trans h2.os, hg.tape.trans h2.tape, hg.output.trans h2.output, Nat.le_trans h2.size hg.size, fun i hi => (hg.block i (by have := h2.size; omega) (fun e => by have := (hr i e.symm).1; omega)).trans (h2.block i hi)⟩

theorem below_keeps {B : Nat} {X Y : World} (h : Below X.heap.size X Y) : KeepsFrom B X Y := ⟨h.size, fun i _ _ ho _ => (h.block i (Array.getElem?_eq_some_iff.1 ho).1).trans ho⟩

theorem below_kp {X Y : World} (h : Below X.heap.size X Y) : Kp X Y := fun k _ _ _ hk _ => (h.block k (Array.getElem?_eq_some_iff.1 hk).1).trans hk

theorem below_grown {X Y : World} (h : X.grownBy Y none) : Below X.heap.size X Y := ⟨h.os, h.tape, h.output, h.size, fun i hi => h.block i hi (by simp)⟩

def Tw.T.nodes : Tw.T → Nat
  | .name .. | .int .. | .truth .. | .side .. => 1
  | .bracket _ _ i => 1 + i.nodes
  | .pair _ _ a b => 1 + a.nodes + b.nodes
  | .call _ _ a b => 1 + a.nodes + b.nodes
  | .binary _ _ _ a b => 1 + a.nodes + b.nodes
  | .cond _ _ a b c => 1 + a.nodes + b.nodes + c.nodes
  | .fn _ _ _ _ a => 1 + a.nodes
  | .lett _ _ _ _ _ a b => 1 + (a.nodes + b.nodes)

theorem Tw.nodes_weight : ∀ {t : Tw.T} {e : Tw.WEn} {w : Nat}, (∀ x k, e.look x = some k → 1 ≤ k) → Tw.weightS t e = some w → 1 ≤ w ∧ (w ≤ 2000 → t.nodes ≤ w)
  | .name _ _ x, e, w, he, h => by
    simp only [Tw.weightS] at h
    obtain ⟨k, h1, h⟩ := Option.bind_eq_some_iff.1 h
    cases h
    have := he x k h1
    simp only [Tw.T.nodes]
    omega
  | .int .., _, _, _, h => by cases h; simp [Tw.T.nodes]
  | .truth .., _, _, _, h => by cases h; simp [Tw.T.nodes]
  | .side .., _, _, _, h => by cases h; simp [Tw.T.nodes]
  | .bracket _ _ i, e, w, he, h => by
    simp only [Tw.weightS] at h
    obtain ⟨a, h1, h⟩ := Option.bind_eq_some_iff.1 h
    cases h
    have := nodes_weight he h1
    simp only [Tw.T.nodes]
    omega
  | .pair _ _ l r, e, w, he, h => by
    simp only [Tw.weightS] at h
    obtain ⟨a, h1, h⟩ := Option.bind_eq_some_iff.1 h
    obtain ⟨b, h2, h⟩ := Option.bind_eq_some_iff.1 h
    cases h
    have := nodes_weight he h1
    have := nodes_weight he h2
    simp only [Tw.T.nodes]
    omega
  | .call _ _ l r, e, w, he, h => by
    simp only [Tw.weightS] at h
    obtain ⟨a, h1, h⟩ := Option.bind_eq_some_iff.1 h
    obtain ⟨b, h2, h⟩ := Option.bind_eq_some_iff.1 h
    cases h
    have := nodes_weight he h1
    have := nodes_weight he h2
    simp only [Tw.T.nodes]
    omega
  | .binary _ _ _ l r, e, w, he, h => by
    simp only [Tw.weightS] at h
    obtain ⟨a, h1, h⟩ := Option.bind_eq_some_iff.1 h
    obtain ⟨b, h2, h⟩ := Option.bind_eq_some_iff.1 h
    cases h
    have := nodes_weight he h1
    have := nodes_weight he h2
    simp only [Tw.T.nodes]
    omega
  | .cond _ _ c l r, e, w, he, h => by
    simp only [Tw.weightS] at h
    obtain ⟨a, h1, h⟩ := Option.bind_eq_some_iff.1 h
    obtain ⟨b, h2, h⟩ := Option.bind_eq_some_iff.1 h
    obtain ⟨d, h3, h⟩ := Option.bind_eq_some_iff.1 h
    cases h
    have := nodes_weight he h1
    have := nodes_weight he h2
    have := nodes_weight he h3
    simp only [Tw.T.nodes]
    omega
  | .fn _ _ n _ b, e, w, he, h => by
    simp only [Tw.weightS] at h
    obtain ⟨a, h1, h⟩ := Option.bind_eq_some_iff.1 h
    cases h
    have := nodes_weight (e := .cons n 1 e) (fun x k hk => by
      simp only [Tw.WEn.look] at hk
      split at hk
      · cases hk; exact Nat.le_refl _
      · exact he x k hk) h1
    simp only [Tw.T.nodes]
    omega
  | .lett _ _ rc n _ d b, e, w, he, h => by
    simp only [Tw.weightS] at h
    obtain ⟨a, h1, h⟩ := Option.bind_eq_some_iff.1 h
    obtain ⟨c, h2, h⟩ := Option.bind_eq_some_iff.1 h
    cases h
    have ha := nodes_weight (e := if rc then .cons n 1 e else e) (fun x k hk => by
      cases rc with
      | false => exact he x k hk
      | true =>
        simp only [if_true, Tw.WEn.look] at hk
        split at hk
        · cases hk; exact Nat.le_refl _
        · exact he x k hk) h1
    have hc := nodes_weight (e := .cons n a e) (fun x k hk => by
      simp only [Tw.WEn.look] at hk
      split at hk
      · cases hk; exact ha.1
      · exact he x k hk) h2
    simp only [Tw.T.nodes]
    omega

theorem nodes_fine {fo : Nat} {l : List UInt8} {t : Tw.T} {sh : List UInt8} (h : Tw.openS 6100 fo l = some (.fine t sh)) : t.nodes ≤ 2000 := by
  obtain ⟨_, body, _, _, _, ht⟩ := Tw.fine_parts h
  obtain ⟨w, h1, h2⟩ := (Tw.tree_parts ht).2.2.1
  exact Nat.le_trans ((Tw.nodes_weight (e := .nil) (fun x k hk => by cases hk) h1).2 h2) h2

theorem NDL.len {w : World} {hi : Nat} : ∀ {t : Tw.T} {v : Value} {L : List TN}, NDL w hi t v L → L.length = t.nodes
  | .name .., _, _, ⟨_, e⟩ => by subst e; rfl
  | .int .., _, _, ⟨_, e⟩ => by subst e; rfl
  | .truth .., _, _, ⟨_, e⟩ => by subst e; rfl
  | .side .., _, _, ⟨_, e⟩ => by subst e; rfl
  | .bracket .., _, _, ⟨_, _, _, n1, e⟩ => by subst e; have := NDL.len n1; simp [Tw.T.nodes]; omega
  | .pair .., _, _, ⟨_, _, _, _, _, n1, n2, e⟩ => by subst e; have := NDL.len n1; have := NDL.len n2; simp [Tw.T.nodes]; omega
  | .call .., _, _, ⟨_, _, _, _, _, n1, n2, e⟩ => by subst e; have := NDL.len n1; have := NDL.len n2; simp [Tw.T.nodes]; omega
  | .binary .., _, _, ⟨_, _, _, _, _, n1, n2, e⟩ => by subst e; have := NDL.len n1; have := NDL.len n2; simp [Tw.T.nodes]; omega
  | .cond .., _, _, ⟨_, _, _, _, _, _, _, n1, n2, n3, e⟩ => by subst e; have := NDL.len n1; have := NDL.len n2; have := NDL.len n3; simp [Tw.T.nodes]; omega
  | .fn .., _, _, ⟨_, _, _, n1, e⟩ => by subst e; have := NDL.len n1; simp [Tw.T.nodes]; omega
  | .lett .., _, _, ⟨_, _, _, _, _, n1, n2, e⟩ => by subst e; have := NDL.len n1; have := NDL.len n2; simp [Tw.T.nodes]; omega

set_option maxRecDepth 100000 in
set_option maxHeartbeats 8000000 in
theorem textBinders_any {w : World} {bt : Nat} {s : ByteArray} {t : Tw.T} {body : List Tw.Tok} (hT : TextAt w bt s t) (hop : Opened s.data.toList t body) (hnn : t.nodes ≤ 2000) :
    Calls Tryz.prog 24 #[.pointer (some ⟨bt, 0, none⟩)] w fun e w' => (∃ v, e = .returned v ∧ BdAt w' v t.binds) ∧ w.grownBy w' none := by
  obtain ⟨hi, tv, hb, hr⟩ := hT
  obtain ⟨LN, hN⟩ := NDL.of_rep hr
  obtain ⟨L0, hL0⟩ := NL.of_rep .nil hr
  have hbd := hN.binds
  have hlen : L0.length ≤ 300 := Nat.le_trans hL0.len hop.small
  have hlenN : LN.length ≤ 2000 := by rw [hN.len]; exact hnn
  have hus : ∀ x ∈ bindL LN, ∀ A, x.bind = some A → (usesL A L0).map (·.fr) = x.t.useS := fun x hx A hA => by
    have := use_all w hi t hL0 hN hop.sp hop.nd (List.mem_filter.1 hx).1 hA (fun z => by simp [Tw.BEn.look])
    have h2 := congrArg (List.map Prod.fst) this
    rw [List.map_map, List.map_map] at h2
    have e1 : (Prod.fst ∘ useF) = fun x : NB => x.fr := rfl
    have e2 : (Prod.fst ∘ useG x.t.bname) = fun x : Nat => x := rfl
    rw [e1, e2, List.map_id'] at h2
    exact h2
  have hrepx : ∀ x ∈ bindL LN, Rep w 0 hi x.t x.v := fun x hx => hN.rep.2 x (List.mem_filter.1 hx).1
  have hcells := fun z hz => NL.block hL0 z hz
  obtain ⟨T0, n0, rfl⟩ := hr.iface
  refine (callsIn_wide (n := 3)).1 ?_
  refine callsIn_of_wp_marks Tryz.func24 rfl trivial ?_
  simp only [Tryz.ntmps24, List.size_toArray, List.length_cons, List.length_nil, Nat.reduceAdd, Nat.reduceSub, Array.replicate_succ, Array.replicate_zero, List.push_toArray, List.append_toArray, List.nil_append, List.cons_append]
  obtain ⟨W0, hW0⟩ : ∃ W0, w.alloc (.cells #[.pointer (some ⟨bt, 0, none⟩)] 26) = W0 := ⟨_, rfl⟩
  have G0 : w.grownBy W0 none := by rw [← hW0]; exact World.grownBy_alloc _ _ none
  have z0 : W0.heap.size = w.heap.size + 1 := by rw [← hW0]; simp
  have t0 : W0.heap[w.heap.size]? = some (.cells #[.pointer (some ⟨bt, 0, none⟩)] 26 (0, 0)) := by rw [← hW0]; exact new_block w _
  obtain ⟨W1, hW1⟩ : ∃ W1, W0.alloc (.cells #[.slice none 0 0] 45) = W1 := ⟨_, rfl⟩
  have G1 : W0.grownBy W1 none := by rw [← hW1]; exact World.grownBy_alloc _ _ none
  have z1 : W1.heap.size = w.heap.size + 2 := by rw [← hW1]; simp; omega
  have b1 : W1.heap[w.heap.size + 1]? = some (.cells #[.slice none 0 0] 45 (0, 0)) := by
    have := new_block W0 (.cells #[.slice none 0 0] 45)
    rw [z0] at this
    rw [← hW1]
    exact this
  have t1 := (G1.block _ (Array.getElem?_eq_some_iff.1 t0).1 (by simp)).trans t0
  have g1 := grown_trans G0 G1
  have x1 := (g1.block _ (Array.getElem?_eq_some_iff.1 hb).1 (by simp)).trans hb
  have ct1 := (one_cell t1).1
  have cx1 : W1.cell? ⟨bt, 1, none⟩ = some (.iface T0 (.pointer (some ⟨n0, 0, none⟩))) := by rw [cell_of_row _ _ _ _ _ _ x1]; rfl
  gi_wp2_with fail
  refine ⟨trivial, ?_⟩
  refine (callsIn_wide.2 (BindersIt_any W1 ⟨T0, n0, rfl⟩)).mono ?_
  rintro e1 w3 ⟨rfl, rfl⟩
  obtain ⟨W2, hW2⟩ : ∃ W2, W1.alloc (.cells #[.iface T0 (.pointer (some ⟨n0, 0, none⟩))] 68) = W2 := ⟨_, rfl⟩
  have G2 : W1.grownBy W2 none := by rw [← hW2]; exact World.grownBy_alloc _ _ none
  have z2 : W2.heap.size = w.heap.size + 3 := by rw [← hW2]; simp; omega
  have hne2 : W2.heap[w.heap.size + 2]? = some (.cells #[.iface T0 (.pointer (some ⟨n0, 0, none⟩))] 68 (0, 0)) := by
    have := new_block W1 (.cells #[.iface T0 (.pointer (some ⟨n0, 0, none⟩))] 68)
    rw [z1] at this
    rw [← hW2]
    exact this
  have b2 := (G2.block _ (Array.getElem?_eq_some_iff.1 b1).1 (by simp)).trans b1
  have g2 := grown_trans g1 G2
  have hN2 := hN.kp (Kp.of_grown g2)
  have HUS := hide hus
  have HRX := hide hrepx
  have HCE := hide hcells
  have HL0 := hide hL0
  rw [hW2, z1]
  clear hW0 hW1 hW2 ct1 cx1 hN hus hrepx hcells hr hL0
  gi_wp2_with fail
  refine range_o1 (p := 12) (d1 := 4) rfl (enters_of Tryz.func56 (by kernel_rfl) rfl) (binders_o hne2 hN2) (fun h k => h.trans k) kp_b (Below.refl _ _)
    (fun pre X => (∃ (E : List (Tw.T × Value)) (v : Value), E.map (·.1) = pre.map (fun y => y.1.t) ∧ Boxed X (w.heap.size + 1) 45 v ∧ X.ownsRow W0.heap.size 48 3 v E.length (bdCells E) ∧ ∀ e ∈ E, UsesAt X e.2 e.1.useS) ∧ Below W0.heap.size W0 X)
    (fun _ _ _ => False) ?own ?ownx ?start ?assign ?body ?done ?stop
  case own =>
    rintro s X Y row ⟨⟨E, v, h1, h2, h3, h4⟩, h5⟩ hg hr
    have kc : ∀ (k : Nat) (c : Array Value) (t : TypeId) (m : Nat × Nat), X.heap[k]? = some (Obj.cells c t m) → Y.heap[k]? = some (Obj.cells c t m) := fun k c t m h => ownFrom_cells (β := Unit) _ k c t m () X Y row h hg hr
    exact ⟨⟨E, v, h1, kc _ _ _ _ h2, row_kept h3 (Nat.le_refl _) (fun g c h => kc _ _ _ _ h), fun e he => row_kept (h4 e he) (Nat.le_refl _) (fun g c h => kc _ _ _ _ h)⟩, own_below (β := Unit) W0 (by omega) () X Y row h5 hg hr⟩
  case ownx => rintro c s X Y row h; exact h.elim
  case start => exact ⟨⟨[], _, rfl, b2, ⟨rfl, .inl ⟨rfl, rfl⟩⟩, fun e he => by cases he⟩, below_grown (grown_trans G1 G2)⟩
  case assign =>
    intro l x X K hK
    simp only [List.setIfInBounds_toArray, List.set_cons_zero, List.set_cons_succ] at hK ⊢
    gi_wp2
    exact hK
  case body =>
    rintro lr pre ⟨x, hx⟩ X hlr ⟨rl, hrl⟩ ⟨⟨E, v, hE, hv, hrow, huse⟩, hbel⟩ hlt
    obtain ⟨A, hA⟩ : ∃ A, x.bind = some A := Option.isSome_iff_exists.1 (List.mem_filter.1 hx).2
    obtain ⟨kb, o, cb, tb, hAe, hkb, hkt, hc0, hc1⟩ := bind_at hA (unhide HRX x hx)
    have up : ∀ {i : Nat} {ob : Obj}, w.heap[i]? = some ob → X.heap[i]? = some ob := fun {i ob} h => by
      have hi := (Array.getElem?_eq_some_iff.1 h).1
      exact (hbel.block i (by omega)).trans ((G0.block i hi (by simp)).trans h)
    have tX := (hbel.block _ (Array.getElem?_eq_some_iff.1 t0).1).trans t0
    have bX := up hb
    have ctX := (one_cell tX).1
    have cxX : X.cell? ⟨bt, 1, none⟩ = some (.iface T0 (.pointer (some ⟨n0, 0, none⟩))) := by rw [cell_of_row _ _ _ _ _ _ bX]; rfl
    obtain ⟨X1, hX1⟩ : ∃ X1, X.alloc (.cells #[.slice none 0 0] 33) = X1 := ⟨_, rfl⟩
    have GX1 : X.grownBy X1 none := by rw [← hX1]; exact World.grownBy_alloc _ _ none
    have zx1 : X1.heap.size = X.heap.size + 1 := by rw [← hX1]; simp
    have u1 : X1.heap[X.heap.size]? = some (.cells #[.slice none 0 0] 33 (0, 0)) := by rw [← hX1]; exact new_block X _
    have ct1 := (one_cell ((GX1.block _ (Array.getElem?_eq_some_iff.1 tX).1 (by simp)).trans tX)).1
    have cx1 : X1.cell? ⟨bt, 1, none⟩ = some (.iface T0 (.pointer (some ⟨n0, 0, none⟩))) := by rw [cell_of_row _ _ _ _ _ _ ((GX1.block _ (Array.getElem?_eq_some_iff.1 bX).1 (by simp)).trans bX)]; rfl
    have HROW := hide hrow
    have HBEL := hide hbel
    have HV := hide hv
    have HU := hide huse
    have HE := hide hE
    simp only [List.setIfInBounds_toArray, List.set_cons_zero, List.set_cons_succ, hA, hAe]
    clear hrow hbel hv huse hE ctX cxX
    gi_wp2_with fail
    refine ⟨trivial, rfl, ?_⟩
    refine (CallsIn.inRound lr (callsIn_wide.2 (Uses_any X1 ⟨T0, n0, rfl⟩ ⟨kb, o, none⟩))).mono ?_
    rintro e1 w4 ⟨rfl, rfl⟩
    gi_wp2_with fail
    obtain ⟨X2, hX2⟩ : ∃ X2, (X1.alloc (.cells #[.iface T0 (.pointer (some ⟨n0, 0, none⟩))] 68)).alloc (.cells #[.pointer (some ⟨kb, o, none⟩)] 79) = X2 := ⟨_, rfl⟩
    have g12 : X1.grownBy X2 none := by rw [← hX2]; exact grown_alloc (grown_alloc (grown_refl _) _) _
    have r2 : X2.heap[X1.heap.size]? = some (.cells #[.iface T0 (.pointer (some ⟨n0, 0, none⟩))] 68 (0, 0)) := by rw [← hX2]; exact (two_a X1 _ _).2
    have s2 : X2.heap[X1.heap.size + 1]? = some (.cells #[.pointer (some ⟨kb, o, none⟩)] 79 (0, 0)) := by rw [← hX2]; exact (two_a X1 _ _).1
    have gx2 : X.grownBy X2 none := grown_trans GX1 g12
    have zx2 : X2.heap.size = X.heap.size + 3 := by rw [← hX2]; simp; omega
    have kp2 : Kp w X2 := fun i c t m hi _ => (gx2.block i (Array.getElem?_eq_some_iff.1 (up hi)).1 (by simp)).trans (up hi)
    have nl2 := (unhide HL0).kp kp2
    have blk2 : BinBlk X2 ⟨kb, o, none⟩ := ⟨cb, tb, kp2 _ _ _ _ hkb hkt, hkt⟩
    have bu2 : Boxed X2 X.heap.size 33 (.slice none 0 0) := (g12.block _ (Array.getElem?_eq_some_iff.1 u1).1 (by simp)).trans u1
    have hrl2 : X2.heap[lr]? = some (.loop rl) := (gx2.block _ (Array.getElem?_eq_some_iff.1 hrl).1 (by simp)).trans hrl
    rw [zx1] at r2 s2
    rw [hX2]
    clear hX1 hX2 ct1 cx1 u1
    refine range_oN1 (p := 19) (d1 := 6) hrl2 rfl (enters_of Tryz.func59 (by kernel_rfl) rfl) (uses_o r2 s2 nl2 blk2) (fun h k => h.trans k) kp_b (Below.refl _ _)
      (fun ipre Y => (∃ u, Boxed Y X.heap.size 33 u ∧ Y.ownsRow X.heap.size 3 1 u ipre.length (ipre.map fun y => Value.int .i64 (y.1.fr : Nat)) ∧ True) ∧ Below X.heap.size X Y)
      (fun _ _ _ => False) ?iown ?iownx ?istart ?iassign ?ibody ?idone ?istop
    case iown =>
      rintro q Y Z row ⟨h1, h2⟩ hg hr
      exact ⟨holdsRow_own (β := List (UIn ⟨kb, o, none⟩ L0)) X.heap.size X.heap.size 33 3 1 (fun ipre => ipre.length) (fun ipre => ipre.map fun y => Value.int .i64 (y.1.fr : Nat)) (fun _ _ => True) q Y Z row h1 hg (fun r e => (hr r e).2), own_below (β := Unit) X (by omega) () Y Z row h2 hg hr⟩
    case iownx => rintro c q Y Z row h; exact h.elim
    case istart => exact ⟨⟨_, bu2, ⟨rfl, .inl ⟨rfl, rfl⟩⟩, trivial⟩, below_grown gx2⟩
    case iassign =>
      intro l x X K hK
      simp only [List.setIfInBounds_toArray, List.set_cons_zero, List.set_cons_succ] at hK ⊢
      gi_wp2
      exact hK
    case ibody =>
      rintro li ipre ⟨y, hy⟩ Y hli hreci ⟨⟨u, hu, hurow, _⟩, hubel⟩ hult
      have hyb := up (unhide HCE y (List.mem_filter.1 hy).1)
      have hyY := (hubel.block _ (Array.getElem?_eq_some_iff.1 hyb).1).trans hyb
      obtain ⟨y0, y1, y2, _, _, _⟩ := three_cells hyY
      have cu := hu.cell
      have hzy : y.nb < Y.heap.size := (Array.getElem?_eq_some_iff.1 hyY).1
      have hzu := hu.lt
      have hii : (Tryz.prog.info? 3).map (fun i => (i.zero, i.size, i.bytes)) = some (some (.int .i64 0), 1, 8) := by kernel_rfl
      obtain ⟨i0, hi0, hz0, hz1, hz3⟩ := info_parts hii
      obtain ⟨pu, ccu, rfl⟩ := row_slice hurow
      have HUR := hide hurow
      have HUB := hide hubel
      have HUV := hide hu
      simp only [List.setIfInBounds_toArray, List.set_cons_zero, List.set_cons_succ]
      clear hurow hubel hu
      gi_wp2_with fail
      have hmx : Tryz.prog.follows .mixedOrders = true := by kernel_rfl
      gi_region_with_o (first
        | (refine uponIn_append _ _ _ 33 rfl X.heap.size 3 i0 (.int .i64 0) 1 8 Tryz.underlying33 hi0 hz0 hz1 hz3 rfl (by decide) _ _ _ rfl (World.ownsRow.alloc (w := Y) (unhide HUR) _) ⟨Y.heap.size, 0, none⟩ 1 1 [.int .i64 y.fr] rfl rfl (cell_one_new' Y _ _) (by intro u hu; simp at hu; subst hu; rfl) (by unfold maxLen; omega) (by omega) (by have := HUB.out.size; simp; omega) ?_; intro v' w5 hown' hgrow
           have hgrow' : (Y.alloc (.cells #[.int .i64 y.fr] 3)).grownBy w5 (Value.slice pu ipre.length ccu).ownBlock := ⟨hgrow.os, hgrow.tape, hgrow.output, hgrow.size, hgrow.block⟩
           obtain ⟨g6, cap6, rfl⟩ := ownsRow_succ hown'
           have hap := Boxed.appended (unhide HUV) (by decide) (unhide HUR) HUB.out.size (Nat.le_refl _) hown' hgrow'
           have hc1 := hap.1.cell
           have hf1 := hap.1.frozen))
      all_goals exact ⟨hap.2.2.2.1.from _, kp_appended (unhide HUV) (unhide HUR) hgrow' (by decide) (by decide), ⟨_, hap.2.1, by simp only [List.map_append, List.map_cons, List.map_nil, List.length_append, List.length_cons, List.length_nil, Nat.zero_add]; exact hap.2.2.1, trivial⟩, (unhide HUB).trans hap.2.2.2.2⟩
    case idone =>
      rintro ys Y hys ⟨⟨u, hu, hurow, _⟩, hubel⟩
      have hfrs : ys.map (fun y => Value.int .i64 (y.1.fr : Nat)) = x.t.useS.map fun f : Nat => Value.int .i64 f := by
        have e1 := unhide HUS x hx A hA
        rw [hAe] at e1
        have e2 := congrArg (List.map (fun z : NB => z.fr)) hys
        rw [e1, List.map_map] at e2
        have e3 := congrArg (List.map (fun f : Nat => Value.int .i64 f)) e2
        rw [List.map_map] at e3
        exact e3
      have hlen2 : ys.length = x.t.useS.length := by
        have := congrArg List.length hfrs
        simpa using this
      rw [hfrs, hlen2] at hurow
      have upY : ∀ {i : Nat} {ob : Obj}, X.heap[i]? = some ob → Y.heap[i]? = some ob := fun {i ob} h => (hubel.block i (Array.getElem?_eq_some_iff.1 h).1).trans h
      have hkY := upY (up hkb)
      have cA0 : Y.cell? ⟨kb, o, none⟩ = some (bytesV x.t.bname) := by rw [cell_of_row _ _ _ _ _ _ hkY]; exact hc0
      have cA1 : Y.cell? ⟨kb, o + 1, none⟩ = some (.int .i64 x.t.bat) := by rw [cell_of_row _ _ _ _ _ _ hkY]; exact hc1
      have hvY : Boxed Y (w.heap.size + 1) 45 v := upY (unhide HV)
      have hrowY : Y.ownsRow W0.heap.size 48 3 v E.length (bdCells E) := row_kept (unhide HROW) (Nat.le_refl _) (fun g c h => upY h)
      have hElen : E.length = pre.length := by
        have := congrArg List.length (unhide HE)
        simpa using this
      rw [hElen] at hrowY
      have hpl : pre.length < 2000 := Nat.lt_of_lt_of_le hlt hlenN
      have cu := hu.cell
      have cv := hvY.cell
      have hzu := hu.lt
      have hzv := hvY.lt
      have hzk : kb < Y.heap.size := (Array.getElem?_eq_some_iff.1 hkY).1
      have hib : (Tryz.prog.info? 48).map (fun i => (i.zero, i.size, i.bytes)) = some (some (.agg #[.string ⟨#[]⟩, .int .i64 0, .slice none 0 0]), 3, 48) := by kernel_rfl
      obtain ⟨i0, hi0, hz0, hz1, hz3⟩ := info_parts hib
      obtain ⟨pu, ccu, rfl⟩ := row_slice hurow
      obtain ⟨pv, ccv, rfl⟩ := row_slice hrowY
      have zY := hubel.size
      have zX := HBEL.out.size
      have HUR := hide hurow
      have HUB := hide hubel
      have HVY := hide hvY
      have HRY := hide hrowY
      have HUV := hide hu
      clear hurow hubel hu hvY hrowY HV HROW
      gi_wp2_with fail
      have hmx : Tryz.prog.follows .mixedOrders = true := by kernel_rfl
      refine region_round lr (fun W => W.cell? ⟨kb, o, none⟩ = some (bytesV x.t.bname) ∧ W.cell? ⟨kb, o + 1, none⟩ = some (.int .i64 x.t.bat) ∧ W.cell? ⟨X.heap.size, 0, none⟩ = some (.slice pu x.t.useS.length ccu)) hmx (by kernel_rfl) ⟨cA0, cA1, cu⟩ ?_
      intro hSd
      refine wpAnyH_take (i := 1) (v := .pointer (some ⟨kb, o, none⟩)) rfl (by kernel_rfl) (by kernel_rfl) (by kernel_rfl) noPanic (Or.inl ⟨by rfl, fun W hSW => by obtain ⟨hSW1, hSW2, hSW3⟩ := hSW; go_simp⟩) hSd ?_
      refine wpAnyH_take (i := 2) (v := .pointer (some ⟨kb, o, none⟩)) rfl (by kernel_rfl) (by kernel_rfl) (by kernel_rfl) noPanic (Or.inl ⟨by rfl, fun W hSW => by obtain ⟨hSW1, hSW2, hSW3⟩ := hSW; go_simp⟩) hSd ?_
      refine wpAnyH_take (i := 3) (v := .pointer (some ⟨kb, o, none⟩)) rfl (by kernel_rfl) (by kernel_rfl) (by kernel_rfl) noPanic (Or.inl ⟨by rfl, fun W hSW => by obtain ⟨hSW1, hSW2, hSW3⟩ := hSW; go_simp⟩) hSd ?_
      refine wpAnyH_take (i := 4) (v := bytesV x.t.bname) rfl (by kernel_rfl) (by kernel_rfl) (by kernel_rfl) noPanic (Or.inl ⟨by rfl, fun W hSW => by obtain ⟨hSW1, hSW2, hSW3⟩ := hSW; go_simp⟩) hSd ?_
      refine wpAnyH_take (i := 5) (v := .pointer (some ⟨kb, o, none⟩)) rfl (by kernel_rfl) (by kernel_rfl) (by kernel_rfl) noPanic (Or.inl ⟨by rfl, fun W hSW => by obtain ⟨hSW1, hSW2, hSW3⟩ := hSW; go_simp⟩) hSd ?_
      refine wpAnyH_take (i := 6) (v := .pointer (some ⟨kb, o, none⟩)) rfl (by kernel_rfl) (by kernel_rfl) (by kernel_rfl) noPanic (Or.inl ⟨by rfl, fun W hSW => by obtain ⟨hSW1, hSW2, hSW3⟩ := hSW; go_simp⟩) hSd ?_
      refine wpAnyH_take (i := 7) (v := .pointer (some ⟨kb, o + 1, none⟩)) rfl (by kernel_rfl) (by kernel_rfl) (by kernel_rfl) noPanic (Or.inl ⟨by rfl, fun W hSW => by obtain ⟨hSW1, hSW2, hSW3⟩ := hSW; go_simp⟩) hSd ?_
      refine wpAnyH_take (i := 8) (v := .int .i64 x.t.bat) rfl (by kernel_rfl) (by kernel_rfl) (by kernel_rfl) noPanic (Or.inl ⟨by rfl, fun W hSW => by obtain ⟨hSW1, hSW2, hSW3⟩ := hSW; go_simp⟩) hSd ?_
      refine wpAnyH_take (i := 9) (v := .slice pu x.t.useS.length ccu) rfl (by kernel_rfl) (by kernel_rfl) (by kernel_rfl) noPanic (Or.inl ⟨by rfl, fun W hSW => by obtain ⟨hSW1, hSW2, hSW3⟩ := hSW; go_simp⟩) hSd ?_
      refine wpAnyH_take (i := 10) (v := .agg #[bytesV x.t.bname, .int .i64 x.t.bat, .slice pu x.t.useS.length ccu]) rfl (by kernel_rfl) (by kernel_rfl) (by kernel_rfl) noPanic (Or.inl ⟨by rfl, fun W hSW => by obtain ⟨hSW1, hSW2, hSW3⟩ := hSW; go_simp⟩) hSd ?_
      have htb : tb ≠ 48 ∧ tb ≠ 45 := by
        refine ⟨?_, ?_⟩ <;> (rintro rfl; revert hkt; decide)
      have tl : ∀ {W : World}, W.heap[kb]? = some (.cells cb tb (0, 0)) → W.heap[X.heap.size]? = some (.cells #[.slice pu x.t.useS.length ccu] 33 (0, 0)) → W.cell? ⟨kb, o, none⟩ = some (bytesV x.t.bname) ∧ W.cell? ⟨kb, o + 1, none⟩ = some (.int .i64 x.t.bat) ∧ W.cell? ⟨X.heap.size, 0, none⟩ = some (.slice pu x.t.useS.length ccu) := fun {W} h1 h2 =>
        ⟨by rw [cell_of_row _ _ _ _ _ _ h1]; exact hc0, by rw [cell_of_row _ _ _ _ _ _ h1]; exact hc1, (one_cell h2).1⟩
      have TL := hide (fun W => @tl W)
      have kA := (Below.heap_alloc Y (.cells #[bytesV x.t.bname, .int .i64 x.t.bat, .slice pu x.t.useS.length ccu] 48) _ hzk).trans hkY
      have uA := (Below.heap_alloc Y (.cells #[bytesV x.t.bname, .int .i64 x.t.bat, .slice pu x.t.useS.length ccu] 48) _ hzu).trans HUV.out
      have vA := (Below.heap_alloc Y (.cells #[bytesV x.t.bname, .int .i64 x.t.bat, .slice pu x.t.useS.length ccu] 48) _ hzv).trans HVY.out
      have KA := hide (And.intro kA uA)
      have cvA := (one_cell vA).1
      clear kA uA vA tl
      refine wpAnyH_ready (rs := [0, 11]) (by kernel_rfl) (by simp) ?_
      refine AllReadyH.cons rfl (fun K hK => ?_) (AllReadyH.cons rfl (fun K hK => ?_) AllReadyH.nil)
      · go_simp
        refine hK.out _ _ hSd (fun hSd => ?_)
        clear hK K
        refine wpAnyH_ready (rs := [11]) (by kernel_rfl) (by simp) ?_
        refine AllReadyH.cons rfl (fun K hK => ?_) AllReadyH.nil
        go_simp
        refine hK.out _ _ (unhide TL _ KA.out.1 KA.out.2) (fun hSd => ?_)
        clear hK K
        refine wpAnyH_ready (rs := [12]) (by kernel_rfl) (by simp) ?_
        refine AllReadyH.cons rfl (fun K hK => ?_) AllReadyH.nil
        rw [if_pos (by rfl)]
        refine wp_append_own _ _ _ 45 rfl W0.heap.size 48 i0 (.agg #[.string ⟨#[]⟩, .int .i64 0, .slice none 0 0]) 3 48 Tryz.underlying45 hi0 hz0 hz1 hz3 rfl (by decide) (.slice pv pre.length ccv) pre.length (bdCells E) rfl (World.ownsRow.alloc (w := Y) (unhide HRY) _) ⟨Y.heap.size, 0, none⟩ 1 1 [bytesV x.t.bname, .int .i64 x.t.bat, .slice pu x.t.useS.length ccu] rfl rfl (cell_three_new Y _ _ _ _) (by intro u hu; simp at hu; rcases hu with rfl | rfl | rfl <;> rfl) (by unfold maxLen; omega) (by omega) (by simp; omega) ?_
        intro v' w5 hown' hgrow
        have hgrow' : (Y.alloc (.cells #[bytesV x.t.bname, .int .i64 x.t.bat, .slice pu x.t.useS.length ccu] 48)).grownBy w5 (Value.slice pv pre.length ccv).ownBlock := ⟨hgrow.os, hgrow.tape, hgrow.output, hgrow.size, hgrow.block⟩
        obtain ⟨g6, cap6, rfl⟩ := ownsRow_succ hown'
        have hap := Boxed.appended (unhide HVY) (by decide) (unhide HRY) (Nat.le_trans zX zY) (by omega) hown' hgrow'
        have hc1' := hap.1.cell
        have hf1 := hap.1.frozen
        refine hK.out _ _ (unhide TL _ (row_grown (unhide HRY) hgrow' htb.1 hkY) (row_grown (unhide HRY) hgrow' (by decide) HUV.out)) (fun hSd => ?_)
        clear hK K
        refine wpAnyH_ready (rs := [13]) (by kernel_rfl) (by simp) ?_
        refine AllReadyH.cons rfl (fun K hK => ?_) AllReadyH.nil
        go_simp
        refine hK.out _ _ (unhide TL _ (row_appended (unhide HVY) (unhide HRY) hgrow' htb.2 htb.1 hkY) (row_appended (unhide HVY) (unhide HRY) hgrow' (by decide) (by decide) HUV.out)) (fun hSd => ?_)
        clear hK K
        refine wpAnyH_done (by kernel_rfl) ⟨rfl, ?_⟩ _
        refine ⟨keepsFrom_trans (below_keeps (unhide HUB)) (hap.2.2.2.1.from _), (below_kp (unhide HUB)).trans (kp_appended (unhide HVY) (unhide HRY) hgrow' (by decide) (by decide)), ⟨⟨E ++ [(x.t, .slice pu x.t.useS.length ccu)], _, ?_, hap.2.1, ?_, ?_⟩, ?_⟩⟩
        · rw [List.map_append, List.map_append, unhide HE]; rfl
        · rw [bdCells_snoc, List.length_append, hElen, ← bat_bpl]; exact hap.2.2.1
        · intro e he
          have third : ∀ (g : Nat) (c : Array Value), Y.heap[g]? = some (Obj.cells c 3 (0, 0)) → (w5.setCell ⟨w.heap.size + 1, 0, none⟩ (.slice (some ⟨g6, 0, none⟩) (pre.length + 1) cap6)).heap[g]? = some (Obj.cells c 3 (0, 0)) := fun g c h => row_appended (unhide HVY) (unhide HRY) hgrow' (by decide) (by decide) h
          rcases List.mem_append.1 he with he | he
          · exact row_kept (row_kept (unhide HU e he) (Nat.le_refl _) (fun g c h => upY h)) (Nat.le_refl _) third
          · rw [List.mem_singleton] at he
            subst he
            exact row_kept (unhide HUR) (Nat.zero_le _) third
        · exact (unhide HBEL).trans (((unhide HUB).mono zX).trans hap.2.2.2.2)
      · go_simp
        refine hK.out _ _ (unhide TL _ KA.out.1 KA.out.2) (fun hSd => ?_)
        clear hK K
        refine wpAnyH_ready (rs := [0]) (by kernel_rfl) (by simp) ?_
        refine AllReadyH.cons rfl (fun K hK => ?_) AllReadyH.nil
        go_simp
        refine hK.out _ _ hSd (fun hSd => ?_)
        clear hK K
        refine wpAnyH_ready (rs := [12]) (by kernel_rfl) (by simp) ?_
        refine AllReadyH.cons rfl (fun K hK => ?_) AllReadyH.nil
        rw [if_pos (by rfl)]
        refine wp_append_own _ _ _ 45 rfl W0.heap.size 48 i0 (.agg #[.string ⟨#[]⟩, .int .i64 0, .slice none 0 0]) 3 48 Tryz.underlying45 hi0 hz0 hz1 hz3 rfl (by decide) (.slice pv pre.length ccv) pre.length (bdCells E) rfl (World.ownsRow.alloc (w := Y) (unhide HRY) _) ⟨Y.heap.size, 0, none⟩ 1 1 [bytesV x.t.bname, .int .i64 x.t.bat, .slice pu x.t.useS.length ccu] rfl rfl (cell_three_new Y _ _ _ _) (by intro u hu; simp at hu; rcases hu with rfl | rfl | rfl <;> rfl) (by unfold maxLen; omega) (by omega) (by simp; omega) ?_
        intro v' w5 hown' hgrow
        have hgrow' : (Y.alloc (.cells #[bytesV x.t.bname, .int .i64 x.t.bat, .slice pu x.t.useS.length ccu] 48)).grownBy w5 (Value.slice pv pre.length ccv).ownBlock := ⟨hgrow.os, hgrow.tape, hgrow.output, hgrow.size, hgrow.block⟩
        obtain ⟨g6, cap6, rfl⟩ := ownsRow_succ hown'
        have hap := Boxed.appended (unhide HVY) (by decide) (unhide HRY) (Nat.le_trans zX zY) (by omega) hown' hgrow'
        have hc1' := hap.1.cell
        have hf1 := hap.1.frozen
        refine hK.out _ _ (unhide TL _ (row_grown (unhide HRY) hgrow' htb.1 hkY) (row_grown (unhide HRY) hgrow' (by decide) HUV.out)) (fun hSd => ?_)
        clear hK K
        refine wpAnyH_ready (rs := [13]) (by kernel_rfl) (by simp) ?_
        refine AllReadyH.cons rfl (fun K hK => ?_) AllReadyH.nil
        go_simp
        refine hK.out _ _ (unhide TL _ (row_appended (unhide HVY) (unhide HRY) hgrow' htb.2 htb.1 hkY) (row_appended (unhide HVY) (unhide HRY) hgrow' (by decide) (by decide) HUV.out)) (fun hSd => ?_)
        clear hK K
        refine wpAnyH_done (by kernel_rfl) ⟨rfl, ?_⟩ _
        refine ⟨keepsFrom_trans (below_keeps (unhide HUB)) (hap.2.2.2.1.from _), (below_kp (unhide HUB)).trans (kp_appended (unhide HVY) (unhide HRY) hgrow' (by decide) (by decide)), ⟨⟨E ++ [(x.t, .slice pu x.t.useS.length ccu)], _, ?_, hap.2.1, ?_, ?_⟩, ?_⟩⟩
        · rw [List.map_append, List.map_append, unhide HE]; rfl
        · rw [bdCells_snoc, List.length_append, hElen, ← bat_bpl]; exact hap.2.2.1
        · intro e he
          have third : ∀ (g : Nat) (c : Array Value), Y.heap[g]? = some (Obj.cells c 3 (0, 0)) → (w5.setCell ⟨w.heap.size + 1, 0, none⟩ (.slice (some ⟨g6, 0, none⟩) (pre.length + 1) cap6)).heap[g]? = some (Obj.cells c 3 (0, 0)) := fun g c h => row_appended (unhide HVY) (unhide HRY) hgrow' (by decide) (by decide) h
          rcases List.mem_append.1 he with he | he
          · exact row_kept (row_kept (unhide HU e he) (Nat.le_refl _) (fun g c h => upY h)) (Nat.le_refl _) third
          · rw [List.mem_singleton] at he
            subst he
            exact row_kept (unhide HUR) (Nat.zero_le _) third
        · exact (unhide HBEL).trans (((unhide HUB).mono zX).trans hap.2.2.2.2)
    case istop => rintro c pre X hpre h; exact h.elim
  case done =>
    rintro D xs X hD hxs ⟨⟨E, v, hE, hv, hrow, huse⟩, hbel⟩ hK
    obtain ⟨pv, ccv, rfl⟩ := row_slice hrow
    have cv := hv.cell
    have hput := grownBy_putObj' X D (.deferred none)
    have kc : ∀ (g : Nat) (e : TypeId) (c : Array Value), X.heap[g]? = some (Obj.cells c e (0, 0)) → (X.putObj D (.deferred none)).heap[g]? = some (Obj.cells c e (0, 0)) := fun g e c h => by
      rw [World.putObj_heap_other]
      · exact h
      · rintro rfl
        rw [hK] at h
        cases h
    have hEE : E.map (·.1) = t.binds := by
      have e2 := congrArg (List.map (fun z : TN => z.t)) hxs
      rw [hbd, List.map_map] at e2
      exact hE.trans e2
    have FIN : Hid (BdAt (X.putObj D (.deferred none)) (.slice pv E.length ccv) t.binds ∧ w.grownBy (X.putObj D (.deferred none)) none) := by
      refine ⟨⟨E, hEE, row_kept hrow (Nat.zero_le _) (fun g c h => kc g _ c h), fun e he => row_kept (huse e he) (Nat.le_refl _) (fun g c h => kc g _ c h)⟩, ?_⟩
      refine ⟨hput.os.trans (hbel.os.trans G0.os), hput.tape.trans (hbel.tape.trans G0.tape), hput.output.trans (hbel.output.trans G0.output), by have := hput.size; have := hbel.size; omega, fun i hi _ => ?_⟩
      exact (hput.block i (by have := hbel.size; omega) (fun e => by cases e; omega)).trans ((hbel.block i (by omega)).trans (G0.block i hi (by simp)))
    clear hrow huse hv hbel hput kc hE
    gi_wp2_with fail
    refine ⟨by simp, .inl ⟨_, _, rfl, run_takeDeferred hK, ?_⟩⟩
    refine ⟨.slice pv E.length ccv, ?_, ⟨_, rfl, FIN.out.1⟩, FIN.out.2⟩
    simp [results, Tryz.results24, go_sem]
  case stop => intro D c pre X hD hpre h; exact h.elim

end Go.Proofs.YtckhafpejefbbaaGreatDoor

/- alter.Inline. -/
namespace Go.Proofs.YtckhafpejefbbaaGreatDoor
open Go.RowKit Go.Shelf

theorem grown_newI {w w1 w2 : World} {b : Nat} (h : w.grownBy w1 none) (k : w1.grownBy w2 (some b)) (hb : w.heap.size ≤ b) : w.grownBy w2 none :=
  ⟨k.os.trans h.os, k.tape.trans h.tape, k.output.trans h.output, Nat.le_trans h.size k.size, fun i hi _ => (k.block i (Nat.lt_of_lt_of_le hi h.size) (fun e => by cases e; omega)).trans (h.block i hi (by simp))⟩

def inlCh (fr bf : Nat) (l : List UInt8) (d : Tw.T) (U : List NB) : List (Nat × Nat × List UInt8) := (fr, bf, []) :: U.map fun y => (y.fr, y.to, Tw.Inl.inText l d y.fr)

theorem inlCh_length (fr bf : Nat) (l : List UInt8) (d : Tw.T) (U : List NB) : (inlCh fr bf l d U).length = U.length + 1 := by simp [inlCh]

theorem inText_le (l : List UInt8) (d : Tw.T) (f : Nat) : (Tw.Inl.inText l d f).length ≤ l.length + 2 := by
  simp only [Tw.Inl.inText]
  split <;> simp [Tw.piece] <;> omega

theorem inlCh_snoc (fr bf : Nat) (l : List UInt8) (d : Tw.T) (U : List NB) (y : NB) : chCells (inlCh fr bf l d (U ++ [y])) = chCells (inlCh fr bf l d U) ++ [.int .i64 y.fr, .int .i64 y.to, bytesV (Tw.Inl.inText l d y.fr)] := by
  simp only [inlCh, chCells, List.map_append, List.flatMap_cons, List.flatMap_append, List.map_cons, List.map_nil, List.flatMap_nil, List.append_nil, List.append_assoc]

attribute [local go_sem] sa_load sa_store sa_move sa_nil sa_field sa_build sa_slice

set_option maxRecDepth 100000 in
set_option maxHeartbeats 4000000 in
theorem Inline_good (hB : Said.Builder) {w : World} {hi : Nat} {t : Tw.T} {tv : Value} {LN : List TN} {s : ByteArray} {a : Int} {fr to bat b : Nat} {bn : List UInt8} {d bo : Tw.T} {dv bv : Value} (hn : NDL w hi t tv LN) (hnear : ∀ x ∈ LN, x.t.near) (hit : hitL a LN = some ⟨.lett fr to false bn bat d bo, .iface 136 (.pointer (some ⟨b, 0, none⟩))⟩)
    (hb : w.heap[b]? = some (.cells #[.int .i64 fr, .int .i64 to, .bool false, bytesV bn, .int .i64 bat, dv, bv] 140 (0, 0)))
    (hd : Rep w 0 hi d dv) (hbo : Rep w 0 hi bo bv) {LU : List NB} (hnl : NL w hi (.lett fr to false bn bat d bo) (.iface 136 (.pointer (some ⟨b, 0, none⟩))) .nil LU) (hL : LU.length ≤ 300) (huse : ∀ y ∈ usesL ⟨b, 3, none⟩ LU, 0 < y.fr ∧ y.fr ≤ s.size) (hs : s.size ≤ 300) (hdf : d.fr ≤ d.to) (hdt : d.to ≤ s.size) (hok : ChOk s.size 0 (inlCh fr bo.fr s.data.toList d (usesL ⟨b, 3, none⟩ LU)))
    (hv : ∀ W, w.grownBy W none → Calls Tryz.prog 61 #[tv, dv] W fun r w' => r = .returned (.bool true) ∧ W.grownBy w' none)
    (hc : ∀ W, w.grownBy W none → Calls Tryz.prog 62 #[.pointer (some ⟨b, 0, none⟩)] W fun r w' => r = .returned (.bool false) ∧ W.grownBy w' none) :
    Calls Tryz.prog 38 #[.string s, tv, .int .i64 a] w fun e w' => e = .returned (.tuple #[.string ⟨(Tw.chgR 0 s.data.toList (inlCh fr bo.fr s.data.toList d (usesL ⟨b, 3, none⟩ LU))).toArray⟩, .int .i64 0]) ∧ w.grownBy w' none := by
  obtain ⟨T0, n0, rfl⟩ := hn.iface
  refine (callsIn_wide (n := 3)).1 ?_
  refine callsIn_of_wp_marks Tryz.func38 rfl trivial ?_
  simp only [Tryz.ntmps38, List.size_toArray, List.length_cons, List.length_nil, Nat.reduceAdd, Nat.reduceSub, Array.replicate_succ, Array.replicate_zero, List.push_toArray, List.append_toArray, List.nil_append, List.cons_append]
  have n0' := new_block w (.cells #[.string s] 9)
  have G0 : w.grownBy (w.alloc (.cells #[.string s] 9)) none := World.grownBy_alloc _ _ none
  have q6 := ta_Let_Let (some ⟨b, 0, none⟩)
  gi_wp2_with fail
  refine ⟨trivial, ?_⟩
  refine (callsIn_wide.2 (target_any (hn.kp (Kp.of_grown G0)) hnear a)).mono ?_
  rintro e1 w1 ⟨rfl, hg1⟩
  rw [hit]
  have G1 := hide (grown_trans G0 hg1)
  have T1 := hide ((hg1.block _ (Array.getElem?_eq_some_iff.1 n0').1 (by simp)).trans n0')
  have HV := hide hv
  have HC := hide hc
  obtain ⟨TD, nd, rfl⟩ := hd.iface
  obtain ⟨bb, _, _, rfl, _, _⟩ := hbo.node
  obtain ⟨W2, hW2⟩ : ∃ W2, w1.alloc (.cells #[.pointer (some ⟨b, 0, none⟩)] 136) = W2 := ⟨_, rfl⟩
  have G2 := hide (show w.grownBy W2 none from by rw [← hW2]; exact grown_alloc G1.out _)
  have l2 : W2.heap[w1.heap.size]? = some (.cells #[.pointer (some ⟨b, 0, none⟩)] 136 (0, 0)) := by rw [← hW2]; exact new_block w1 _
  have t2 : W2.heap[w.heap.size]? = some (.cells #[.string s] 9 (0, 0)) := by rw [← hW2]; exact (Below.heap_alloc _ _ _ (Array.getElem?_eq_some_iff.1 (unhide T1)).1).trans (unhide T1)
  have LB : Hid (∀ W, w.grownBy W none → W.heap[b]? = some (.cells #[.int .i64 fr, .int .i64 to, .bool false, bytesV bn, .int .i64 bat, .iface TD (.pointer (some ⟨nd, 0, none⟩)), .iface (ptrT bo) (.pointer (some ⟨bb, 0, none⟩))] 140 (0, 0))) := hide fun W hW => (hW.block _ (Array.getElem?_eq_some_iff.1 hb).1 (by simp)).trans hb
  have cl2 := (one_cell l2).1
  have cb2 : W2.cell? ⟨b, 2, none⟩ = some (.bool false) := by rw [cell_of_row _ _ _ _ _ _ (unhide LB _ G2.out)]; rfl
  have cb5 : W2.cell? ⟨b, 5, none⟩ = some (.iface TD (.pointer (some ⟨nd, 0, none⟩))) := by rw [cell_of_row _ _ _ _ _ _ (unhide LB _ G2.out)]; rfl
  have L2 := hide (And.intro l2 t2)
  have HBO := hide hbo
  have HD := hide hd
  simp only [nodeV]
  clear G0 hg1 n0' hb hv hc hit l2 t2 hd hbo
  gi_wp2_with fail
  refine ⟨trivial, ?_⟩
  refine (callsIn_wide.2 (unhide HV _ G2.out)).mono ?_
  rintro e1 w3 ⟨rfl, hg3⟩
  have G3 := hide (grown_trans G2.out hg3)
  have up3 : ∀ {i : Nat} {ob : Obj}, W2.heap[i]? = some ob → w3.heap[i]? = some ob := fun {i ob} h => (hg3.block i (Array.getElem?_eq_some_iff.1 h).1 (by simp)).trans h
  have L3 := hide (And.intro (up3 L2.out.1) (up3 L2.out.2))
  have cl3 := (one_cell L3.out.1).1
  clear hg3 up3 cl2 cb2 cb5 L2 hW2
  gi_wp2_with fail
  refine ⟨trivial, ?_⟩
  refine (callsIn_wide.2 (unhide HC _ G3.out)).mono ?_
  rintro e1 w4 ⟨rfl, hg4⟩
  have G4 := hide (grown_trans G3.out hg4)
  have up4 : ∀ {i : Nat} {ob : Obj}, w3.heap[i]? = some ob → w4.heap[i]? = some ob := fun {i ob} h => (hg4.block i (Array.getElem?_eq_some_iff.1 h).1 (by simp)).trans h
  have L4 := hide (And.intro (up4 L3.out.1) (up4 L3.out.2))
  clear hg4 up4 cl3 L3
  gi_wp2_with fail
  have hmx : Tryz.prog.follows .mixedOrders = true := by kernel_rfl
  have CE : Hid (∀ W, w4.grownBy W none → W.cell? ⟨w1.heap.size, 0, none⟩ = some (.pointer (some ⟨b, 0, none⟩)) ∧ W.cell? ⟨b, 0, none⟩ = some (.int .i64 fr) ∧ W.cell? ⟨b, 6, none⟩ = some (.iface (ptrT bo) (.pointer (some ⟨bb, 0, none⟩)))) := hide fun W hW => by
    have h1 := unhide LB W (grown_trans G4.out hW)
    exact ⟨(one_cell ((hW.block _ (Array.getElem?_eq_some_iff.1 L4.out.1).1 (by simp)).trans L4.out.1)).1, by rw [cell_of_row _ _ _ _ _ _ h1]; rfl, by rw [cell_of_row _ _ _ _ _ _ h1]; rfl⟩
  have HPL : Hid (∀ W, w4.grownBy W none → Sem.run Tryz.prog (method 517 (ptrT bo) (.pointer (some ⟨bb, 0, none⟩)) "Place") W = .ok (266, .agg #[.int .i64 bo.fr, .int .i64 bo.to]) W) := hide fun W hW => by
    obtain ⟨b', _, _, e, c0, c1⟩ := ((unhide HBO).kp (Kp.of_grown (grown_trans G4.out hW))).node
    cases e
    exact place_run bo bb W bo.fr bo.to c0 c1
  refine wpIn_mono (Q := Exit.then (fun a' W => ∃ bx, a' = { tmps := #[Value.string s, Value.iface T0 (Value.pointer (some { block := n0, off := 0 })), Value.int IntKind.i64 a, Value.pointer (some { block := w.heap.size, off := 0 }), undef, undef, Value.string { data := #[] }, Value.int IntKind.i64 0, Value.pointer (some { block := w1.heap.size, off := 0 }), Value.bool true, Value.pointer (some { block := bx, off := 0 }), undef, undef, Value.tuple #[Value.pointer (some { block := b, off := 0 }), Value.bool true], Value.iface T0 (Value.pointer (some { block := n0, off := 0 })), Value.int IntKind.i64 a, Value.iface 136 (Value.pointer (some { block := b, off := 0 })), Value.tuple #[Value.pointer (some { block := b, off := 0 }), Value.bool true], Value.pointer (some { block := b, off := 0 }), Value.bool true, Value.bool false, Value.bool true, Value.bool false, Value.bool false, Value.pointer (some { block := b, off := 0 }), Value.pointer (some { block := b, off := 0 }), Value.pointer (some { block := b, off := 2 }), Value.bool false, Value.bool false, Value.bool false, Value.iface T0 (Value.pointer (some { block := n0, off := 0 })), Value.pointer (some { block := b, off := 0 }), Value.pointer (some { block := b, off := 0 }), Value.pointer (some { block := b, off := 5 }), Value.iface TD (Value.pointer (some { block := nd, off := 0 })), Value.bool true, Value.bool false, Value.bool false, Value.pointer (some { block := b, off := 0 }), Value.bool false, Value.pointer (some { block := b, off := 0 }), Value.pointer (some { block := b, off := 0 }), Value.pointer (some { block := b, off := 0 }), Value.pointer (some { block := b, off := 0 }), Value.int IntKind.i64 ↑fr, Value.pointer (some { block := b, off := 0 }), Value.pointer (some { block := b, off := 0 }), Value.pointer (some { block := b, off := 6 }), Value.iface (ptrT bo) (Value.pointer (some { block := bb, off := 0 })), Value.agg #[Value.int IntKind.i64 ↑bo.fr, Value.int IntKind.i64 ↑bo.to], Value.int IntKind.i64 ↑bo.fr, Value.agg #[Value.int IntKind.i64 ↑fr, Value.int IntKind.i64 ↑bo.fr], undef, undef, undef, undef, undef, undef, undef, undef, undef, undef, undef, undef, undef, undef, undef, undef, undef, undef, undef, undef, undef, undef, undef, undef, undef, undef, undef, undef], defers := [] } ∧ W.heap[bx]? = some (.cells #[.int .i64 fr, .int .i64 bo.fr] 85 (0, 0)) ∧ w4.grownBy W none ∧ w4.heap.size ≤ bx) (fun _ _ _ => False)) ?_ ?_
  · refine region_wide (fun W => W.cell? ⟨w1.heap.size, 0, none⟩ = some (.pointer (some ⟨b, 0, none⟩)) ∧ W.cell? ⟨b, 0, none⟩ = some (.int .i64 fr) ∧ W.cell? ⟨b, 6, none⟩ = some (.iface (ptrT bo) (.pointer (some ⟨bb, 0, none⟩)))) hmx (unhide CE _ (grown_drew (grown_refl _))) ?_
    intro hSd
    refine wpAnyH_take (i := 0) (oi := { dst := some 40, op := Op.load 136 (Operand.tmp 8), type := 136, pos := "inline.go:21", after := #[], guard := none }) (v := .pointer (some ⟨b, 0, none⟩)) rfl (by kernel_rfl) (by kernel_rfl) (by kernel_rfl) noPanic (Or.inl ⟨by rfl, fun W hSW => by obtain ⟨hs1, hs2, hs3⟩ := hSW; go_simp⟩) hSd ?_
    simp only [Act.put, List.setIfInBounds_toArray, List.set_cons_zero, List.set_cons_succ]
    refine wpAnyH_take (i := 1) (oi := { dst := some 41, op := Op.nilCheck (Operand.tmp 40), type := 0, pos := "inline.go:21", after := #[{ on := 0, ground := Ground.data }], guard := none }) (v := .pointer (some ⟨b, 0, none⟩)) rfl (by kernel_rfl) (by kernel_rfl) (by kernel_rfl) noPanic (Or.inl ⟨by rfl, fun W hSW => by obtain ⟨hs1, hs2, hs3⟩ := hSW; go_simp⟩) hSd ?_
    simp only [Act.put, List.setIfInBounds_toArray, List.set_cons_zero, List.set_cons_succ]
    refine wpAnyH_take (i := 2) (oi := { dst := some 42, op := Op.fieldAddr 140 (Operand.tmp 41) 0, type := 0, pos := "inline.go:21", after := #[{ on := 1, ground := Ground.data }], guard := none }) (v := .pointer (some ⟨b, 0, none⟩)) rfl (by kernel_rfl) (by kernel_rfl) (by kernel_rfl) noPanic (Or.inl ⟨by rfl, fun W hSW => by obtain ⟨hs1, hs2, hs3⟩ := hSW; go_simp⟩) hSd ?_
    simp only [Act.put, List.setIfInBounds_toArray, List.set_cons_zero, List.set_cons_succ]
    refine wpAnyH_take (i := 3) (oi := { dst := some 43, op := Op.fieldAddr 85 (Operand.tmp 42) 0, type := 0, pos := "inline.go:21", after := #[{ on := 2, ground := Ground.data }], guard := none }) (v := .pointer (some ⟨b, 0, none⟩)) rfl (by kernel_rfl) (by kernel_rfl) (by kernel_rfl) noPanic (Or.inl ⟨by rfl, fun W hSW => by obtain ⟨hs1, hs2, hs3⟩ := hSW; go_simp⟩) hSd ?_
    simp only [Act.put, List.setIfInBounds_toArray, List.set_cons_zero, List.set_cons_succ]
    refine wpAnyH_take (i := 4) (oi := { dst := some 44, op := Op.load 3 (Operand.tmp 43), type := 3, pos := "inline.go:21", after := #[{ on := 3, ground := Ground.data }], guard := none }) (v := .int .i64 fr) rfl (by kernel_rfl) (by kernel_rfl) (by kernel_rfl) noPanic (Or.inl ⟨by rfl, fun W hSW => by obtain ⟨hs1, hs2, hs3⟩ := hSW; go_simp⟩) hSd ?_
    simp only [Act.put, List.setIfInBounds_toArray, List.set_cons_zero, List.set_cons_succ]
    refine wpAnyH_take (i := 5) (oi := { dst := some 45, op := Op.load 136 (Operand.tmp 8), type := 136, pos := "inline.go:21", after := #[], guard := none }) (v := .pointer (some ⟨b, 0, none⟩)) rfl (by kernel_rfl) (by kernel_rfl) (by kernel_rfl) noPanic (Or.inl ⟨by rfl, fun W hSW => by obtain ⟨hs1, hs2, hs3⟩ := hSW; go_simp⟩) hSd ?_
    simp only [Act.put, List.setIfInBounds_toArray, List.set_cons_zero, List.set_cons_succ]
    refine wpAnyH_take (i := 6) (oi := { dst := some 46, op := Op.nilCheck (Operand.tmp 45), type := 0, pos := "inline.go:21", after := #[{ on := 5, ground := Ground.data }], guard := none }) (v := .pointer (some ⟨b, 0, none⟩)) rfl (by kernel_rfl) (by kernel_rfl) (by kernel_rfl) noPanic (Or.inl ⟨by rfl, fun W hSW => by obtain ⟨hs1, hs2, hs3⟩ := hSW; go_simp⟩) hSd ?_
    simp only [Act.put, List.setIfInBounds_toArray, List.set_cons_zero, List.set_cons_succ]
    refine wpAnyH_take (i := 7) (oi := { dst := some 47, op := Op.fieldAddr 140 (Operand.tmp 46) 4, type := 0, pos := "inline.go:21", after := #[{ on := 6, ground := Ground.data }], guard := none }) (v := .pointer (some ⟨b, 6, none⟩)) rfl (by kernel_rfl) (by kernel_rfl) (by kernel_rfl) noPanic (Or.inl ⟨by rfl, fun W hSW => by obtain ⟨hs1, hs2, hs3⟩ := hSW; go_simp⟩) hSd ?_
    simp only [Act.put, List.setIfInBounds_toArray, List.set_cons_zero, List.set_cons_succ]
    refine wpAnyH_take (i := 8) (oi := { dst := some 48, op := Op.load 68 (Operand.tmp 47), type := 68, pos := "inline.go:21", after := #[{ on := 7, ground := Ground.data }], guard := none }) (v := .iface (ptrT bo) (.pointer (some ⟨bb, 0, none⟩))) rfl (by kernel_rfl) (by kernel_rfl) (by kernel_rfl) noPanic (Or.inl ⟨by rfl, fun W hSW => by obtain ⟨hs1, hs2, hs3⟩ := hSW; go_simp⟩) hSd ?_
    simp only [Act.put, List.setIfInBounds_toArray, List.set_cons_zero, List.set_cons_succ]
    refine wpAnyH_ready (rs := [9, 12]) (by kernel_rfl) (by simp) ?_
    refine AllReadyH.cons (o := { dst := some 49, op := Op.call { callee := Callee.invoke (Operand.tmp 48) "Place", args := #[], argTypes := #[] }, type := 85, pos := "inline.go:21", after := #[{ on := 8, ground := Ground.data }], guard := none }) rfl (fun K hK => ?_) (AllReadyH.cons (o := { dst := some 10, op := Op.alloc 85, type := 0, pos := "inline.go:21", after := #[], guard := none }) rfl (fun K hK => ?_) AllReadyH.nil)
    · have hp := unhide HPL w4.drew (grown_drew (grown_refl _))
      go_simp
      refine (Place_any _ _ _).mono ?_
      rintro e1 X2 ⟨rfl, hg⟩
      have GX := hide (grown_trans (grown_drew (grown_refl w4)) hg)
      refine hK.out _ _ (unhide CE _ GX.out) (fun hSd => ?_)
      clear hK K hg hp
      refine wpAnyH_take (i := 10) (oi := { dst := some 50, op := Op.field 85 (Operand.tmp 49) 0, type := 3, pos := "inline.go:21", after := #[{ on := 9, ground := Ground.data }], guard := none }) (v := .int .i64 bo.fr) rfl (by kernel_rfl) (by kernel_rfl) (by kernel_rfl) noPanic (Or.inl ⟨by rfl, fun W _ => by kernel_rfl⟩) hSd ?_
      simp only [Act.put, List.setIfInBounds_toArray, List.set_cons_zero, List.set_cons_succ]
      refine wpAnyH_take (i := 11) (oi := { dst := some 51, op := Op.build 85 #[(0, Operand.tmp 44), (1, Operand.tmp 50)], type := 85, pos := "inline.go:21", after := #[{ on := 4, ground := Ground.data }, { on := 10, ground := Ground.data }], guard := none }) (v := .agg #[.int .i64 fr, .int .i64 bo.fr]) rfl (by kernel_rfl) (by kernel_rfl) (by kernel_rfl) noPanic (Or.inl ⟨by rfl, fun W hSW => by obtain ⟨hs1, hs2, hs3⟩ := hSW; go_simp⟩) hSd ?_
      simp only [Act.put, List.setIfInBounds_toArray, List.set_cons_zero, List.set_cons_succ]
      refine wpAnyH_ready (rs := [12]) (by kernel_rfl) (by simp) ?_
      refine AllReadyH.cons (o := { dst := some 10, op := Op.alloc 85, type := 0, pos := "inline.go:21", after := #[], guard := none }) rfl (fun K hK => ?_) AllReadyH.nil
      go_simp
      refine hK.out _ _ (unhide CE _ (grown_alloc GX.out _)) (fun hSd => ?_)
      clear hK K
      refine wpAnyH_ready (rs := [13]) (by kernel_rfl) (by simp) ?_
      refine AllReadyH.cons (o := { dst := none, op := Op.store 85 (Operand.tmp 10) (Operand.tmp 51), type := 0, pos := "inline.go:21", after := #[{ on := 12, ground := Ground.data }, { on := 11, ground := Ground.data }, { on := 9, ground := Ground.chain }, { on := 0, ground := Ground.phase }, { on := 1, ground := Ground.phase }, { on := 2, ground := Ground.phase }, { on := 3, ground := Ground.phase }, { on := 4, ground := Ground.phase }, { on := 5, ground := Ground.phase }, { on := 6, ground := Ground.phase }, { on := 7, ground := Ground.phase }, { on := 8, ground := Ground.phase }, { on := 9, ground := Ground.phase }, { on := 10, ground := Ground.phase }, { on := 11, ground := Ground.phase }, { on := 12, ground := Ground.phase }], guard := none }) rfl (fun K hK => ?_) AllReadyH.nil
      go_simp
      refine hK.out _ _ (unhide CE _ (grown_alloc GX.out _)) (fun hSd => ?_)
      clear hK K
      refine wpAnyH_done (by kernel_rfl) ⟨rfl, ⟨_, rfl, new_block X2 _, grown_alloc GX.out _, GX.out.size⟩⟩ _
    · go_simp
      refine hK.out _ _ (unhide CE _ (grown_drew (grown_alloc (grown_refl _) _))) (fun hSd => ?_)
      clear hK K
      refine wpAnyH_ready (rs := [9]) (by kernel_rfl) (by simp) ?_
      refine AllReadyH.cons (o := { dst := some 49, op := Op.call { callee := Callee.invoke (Operand.tmp 48) "Place", args := #[], argTypes := #[] }, type := 85, pos := "inline.go:21", after := #[{ on := 8, ground := Ground.data }], guard := none }) rfl (fun K hK => ?_) AllReadyH.nil
      have hp := unhide HPL (w4.alloc (.cells #[.int .i64 0, .int .i64 0] 85)).drew (grown_drew (grown_alloc (grown_refl _) _))
      go_simp
      refine (Place_any _ _ _).mono ?_
      rintro e1 X2 ⟨rfl, hg⟩
      have GX := hide (grown_trans (grown_drew (grown_alloc (grown_refl w4) _)) hg)
      have x0 : X2.heap[w4.heap.size]? = some (.cells #[.int .i64 0, .int .i64 0] 85 (0, 0)) := (hg.block _ (by simp [World.drew]) (by simp)).trans (new_block w4 _)
      obtain ⟨x1, x2, x3, x4⟩ := two_cells x0
      have x5 := two_set (u' := .int .i64 fr) (v' := .int .i64 bo.fr) x0
      have GY := hide (grown_newI GX.out x5.2 (Nat.le_refl _))
      refine hK.out _ _ (unhide CE _ GX.out) (fun hSd => ?_)
      clear hK K hg hp x0
      refine wpAnyH_take (i := 10) (oi := { dst := some 50, op := Op.field 85 (Operand.tmp 49) 0, type := 3, pos := "inline.go:21", after := #[{ on := 9, ground := Ground.data }], guard := none }) (v := .int .i64 bo.fr) rfl (by kernel_rfl) (by kernel_rfl) (by kernel_rfl) noPanic (Or.inl ⟨by rfl, fun W _ => by kernel_rfl⟩) hSd ?_
      simp only [Act.put, List.setIfInBounds_toArray, List.set_cons_zero, List.set_cons_succ]
      refine wpAnyH_take (i := 11) (oi := { dst := some 51, op := Op.build 85 #[(0, Operand.tmp 44), (1, Operand.tmp 50)], type := 85, pos := "inline.go:21", after := #[{ on := 4, ground := Ground.data }, { on := 10, ground := Ground.data }], guard := none }) (v := .agg #[.int .i64 fr, .int .i64 bo.fr]) rfl (by kernel_rfl) (by kernel_rfl) (by kernel_rfl) noPanic (Or.inl ⟨by rfl, fun W hSW => by obtain ⟨hs1, hs2, hs3⟩ := hSW; go_simp⟩) hSd ?_
      simp only [Act.put, List.setIfInBounds_toArray, List.set_cons_zero, List.set_cons_succ]
      refine wpAnyH_ready (rs := [13]) (by kernel_rfl) (by simp) ?_
      refine AllReadyH.cons (o := { dst := none, op := Op.store 85 (Operand.tmp 10) (Operand.tmp 51), type := 0, pos := "inline.go:21", after := #[{ on := 12, ground := Ground.data }, { on := 11, ground := Ground.data }, { on := 9, ground := Ground.chain }, { on := 0, ground := Ground.phase }, { on := 1, ground := Ground.phase }, { on := 2, ground := Ground.phase }, { on := 3, ground := Ground.phase }, { on := 4, ground := Ground.phase }, { on := 5, ground := Ground.phase }, { on := 6, ground := Ground.phase }, { on := 7, ground := Ground.phase }, { on := 8, ground := Ground.phase }, { on := 9, ground := Ground.phase }, { on := 10, ground := Ground.phase }, { on := 11, ground := Ground.phase }, { on := 12, ground := Ground.phase }], guard := none }) rfl (fun K hK => ?_) AllReadyH.nil
      go_simp
      refine hK.out _ _ (unhide CE _ GY.out) (fun hSd => ?_)
      clear hK K
      refine wpAnyH_done (by kernel_rfl) ⟨rfl, ⟨_, rfl, x5.1, GY.out, Nat.le_refl _⟩⟩ _
  · rintro e a' W5 h
    cases e with
    | normal =>
      obtain ⟨bx, rfl, a5, g5, hbx⟩ := h
      clear CE HPL
      obtain ⟨ca0, ca1, _, _⟩ := two_cells a5
      have g05 := grown_trans G4.out g5
      obtain ⟨W6, hW6⟩ : ∃ W6, (W5.alloc (.cells #[.int .i64 fr, .int .i64 bo.fr, .string ⟨#[]⟩] 145)).alloc (.cells #[.slice (some ⟨W5.heap.size, 0, none⟩) 1 1] 146) = W6 := ⟨_, rfl⟩
      have g6 : W5.grownBy W6 none := by rw [← hW6]; exact grown_alloc (grown_alloc (grown_refl _) _) _
      have ch6 : W6.heap[W5.heap.size]? = some (.cells #[.int .i64 fr, .int .i64 bo.fr, .string ⟨#[]⟩] 145 (0, 0)) := by rw [← hW6]; exact (two_a W5 _ _).2
      have bx6 : W6.heap[W5.heap.size + 1]? = some (.cells #[.slice (some ⟨W5.heap.size, 0, none⟩) 1 1] 146 (0, 0)) := by rw [← hW6]; exact (two_a W5 _ _).1
      have l5 := (g5.block _ (Array.getElem?_eq_some_iff.1 L4.out.1).1 (by simp)).trans L4.out.1
      have t5 := (g5.block _ (Array.getElem?_eq_some_iff.1 L4.out.2).1 (by simp)).trans L4.out.2
      have l6 := (g6.block _ (Array.getElem?_eq_some_iff.1 l5).1 (by simp)).trans l5
      have hz1 : w1.heap.size < W5.heap.size := (Array.getElem?_eq_some_iff.1 l5).1
      have hz0 : w.heap.size < W5.heap.size := (Array.getElem?_eq_some_iff.1 t5).1
      have CL : Hid (∀ W, W6.grownBy W none → W.cell? ⟨w1.heap.size, 0, none⟩ = some (.pointer (some ⟨b, 0, none⟩))) := hide fun W hW => (one_cell ((hW.block _ (Array.getElem?_eq_some_iff.1 l6).1 (by simp)).trans l6)).1
      have H5 := hide (And.intro l5 t5)
      have HX6 := hide (And.intro ch6 bx6)
      clear l6 l5 t5 ch6 bx6
      gi_wp2_with fail

      refine region_wide (fun W => W.cell? ⟨w1.heap.size, 0, none⟩ = some (.pointer (some ⟨b, 0, none⟩))) hmx (unhide CL _ (grown_drew (grown_refl _))) ?_
      intro hSd
      refine wpAnyH_take (i := 0) (oi := { dst := some 55, op := Op.load 136 (Operand.tmp 8), type := 136, pos := "inline.go:23", after := #[], guard := none }) (v := .pointer (some ⟨b, 0, none⟩)) rfl (by kernel_rfl) (by kernel_rfl) (by kernel_rfl) noPanic (Or.inl ⟨by rfl, fun W hSW => by go_simp⟩) hSd ?_
      simp only [Act.put, List.setIfInBounds_toArray, List.set_cons_zero, List.set_cons_succ]
      refine wpAnyH_take (i := 1) (oi := { dst := some 56, op := Op.makeInterface 136 (Operand.tmp 55), type := 68, pos := "inline.go:23", after := #[{ on := 0, ground := Ground.data }], guard := none }) (v := .iface 136 (.pointer (some ⟨b, 0, none⟩))) rfl (by kernel_rfl) (by kernel_rfl) (by kernel_rfl) noPanic (Or.inl ⟨by rfl, fun W _ => by go_simp⟩) hSd ?_
      simp only [Act.put, List.setIfInBounds_toArray, List.set_cons_zero, List.set_cons_succ]
      refine wpAnyH_take (i := 2) (oi := { dst := some 57, op := Op.load 136 (Operand.tmp 8), type := 136, pos := "inline.go:23", after := #[], guard := none }) (v := .pointer (some ⟨b, 0, none⟩)) rfl (by kernel_rfl) (by kernel_rfl) (by kernel_rfl) noPanic (Or.inl ⟨by rfl, fun W hSW => by go_simp⟩) hSd ?_
      simp only [Act.put, List.setIfInBounds_toArray, List.set_cons_zero, List.set_cons_succ]
      refine wpAnyH_take (i := 3) (oi := { dst := some 58, op := Op.nilCheck (Operand.tmp 57), type := 0, pos := "inline.go:23", after := #[{ on := 2, ground := Ground.data }], guard := none }) (v := .pointer (some ⟨b, 0, none⟩)) rfl (by kernel_rfl) (by kernel_rfl) (by kernel_rfl) noPanic (Or.inl ⟨by rfl, fun W _ => by go_simp⟩) hSd ?_
      simp only [Act.put, List.setIfInBounds_toArray, List.set_cons_zero, List.set_cons_succ]
      refine wpAnyH_take (i := 4) (oi := { dst := some 59, op := Op.fieldAddr 140 (Operand.tmp 58) 2, type := 0, pos := "inline.go:23", after := #[{ on := 3, ground := Ground.data }], guard := none }) (v := .pointer (some ⟨b, 3, none⟩)) rfl (by kernel_rfl) (by kernel_rfl) (by kernel_rfl) noPanic (Or.inl ⟨by rfl, fun W _ => by go_simp⟩) hSd ?_
      simp only [Act.put, List.setIfInBounds_toArray, List.set_cons_zero, List.set_cons_succ]
      refine wpAnyH_ready (rs := [5]) (by kernel_rfl) (by simp) ?_
      refine AllReadyH.cons (o := { dst := some 60, op := Op.call { callee := Callee.value (Operand.func 36), args := #[Operand.tmp 56, Operand.tmp 59], argTypes := #[68, 79] }, type := 81, pos := "inline.go:23", after := #[{ on := 1, ground := Ground.data }, { on := 4, ground := Ground.data }], guard := none }) rfl (fun K hK => ?_) AllReadyH.nil
      go_simp
      refine (Uses_any W6.drew ⟨_, _, rfl⟩ ⟨b, 3, none⟩).mono ?_
      rintro e1 w7 ⟨rfl, rfl⟩
      obtain ⟨W7, hW7⟩ : ∃ W7, (W6.drew.alloc (.cells #[.iface 136 (.pointer (some ⟨b, 0, none⟩))] 68)).alloc (.cells #[.pointer (some ⟨b, 3, none⟩)] 79) = W7 := ⟨_, rfl⟩
      have g7 : W6.grownBy W7 none := by rw [← hW7]; exact grown_alloc (grown_alloc (grown_drew (grown_refl _)) _) _
      have r7 : W7.heap[W6.drew.heap.size]? = some (.cells #[.iface 136 (.pointer (some ⟨b, 0, none⟩))] 68 (0, 0)) := by rw [← hW7]; exact (two_a W6.drew _ _).2
      have s7 : W7.heap[W6.drew.heap.size + 1]? = some (.cells #[.pointer (some ⟨b, 3, none⟩)] 79 (0, 0)) := by rw [← hW7]; exact (two_a W6.drew _ _).1
      rw [hW7]
      refine hK.out _ _ (unhide CL _ g7) (fun _ => ?_)
      clear hK K hSd CL
      refine wpAnyH_done (by kernel_rfl) ⟨rfl, ?_⟩ _
      have g57 := grown_trans g6 g7
      have kp7 : Kp w W7 := Kp.of_grown (grown_trans g05 g57)
      have nl7 := hnl.kp kp7
      have blk7 : BinBlk W7 ⟨b, 3, none⟩ := ⟨_, _, unhide LB _ (grown_trans g05 g57), by decide⟩
      have bx7 : Boxed W7 (W5.heap.size + 1) 146 (.slice (some ⟨W5.heap.size, 0, none⟩) 1 1) := (g7.block _ (Array.getElem?_eq_some_iff.1 HX6.out.2).1 (by simp)).trans HX6.out.2
      have ch7 := (g7.block _ (Array.getElem?_eq_some_iff.1 HX6.out.1).1 (by simp)).trans HX6.out.1
      have HCE := hide (fun z hz => NL.block hnl z hz)
      have HUSE := hide huse
      have z7 := g57.size
      have z67 := g7.size
      have z6 : W6.heap.size = W5.heap.size + 2 := by rw [← hW6]; simp
      have z0w := G4.out.size
      clear hW6 hW7 hnl huse HX6 ca0 ca1
      gi_wp2_with fail
      refine range_o1 (p := 61) (d1 := 12) rfl (enters_of Tryz.func59 (by kernel_rfl) rfl) (uses_o r7 s7 nl7 blk7) (fun h k => h.trans k) kp_b (Below.refl _ _)
        (fun pre X => (∃ v, Boxed X (W5.heap.size + 1) 146 v ∧ X.ownsRow W5.heap.size 145 3 v (pre.length + 1) (chCells (inlCh fr bo.fr s.data.toList d (pre.map (·.1)))) ∧ True) ∧ Below W5.heap.size W5 X)
        (fun _ _ _ => False) ?own ?ownx ?start ?assign ?body ?done ?stop
      case own =>
        rintro q X Y row ⟨h1, h2⟩ hg hr
        exact ⟨holdsRow_own (β := List (UIn ⟨b, 3, none⟩ LU)) W5.heap.size (W5.heap.size + 1) 146 145 3 (fun pre => pre.length + 1) (fun pre => chCells (inlCh fr bo.fr s.data.toList d (pre.map (·.1)))) (fun _ _ => True) q X Y row h1 hg (fun r e => (hr r e).2), own_below (β := Unit) W5 z7 () X Y row h2 hg hr⟩
      case ownx => rintro c q X Y row h; exact h.elim
      case start => exact ⟨⟨_, bx7, ⟨by rw [chCells_length, inlCh_length]; rfl, .inr ⟨W5.heap.size, 1, _, rfl, Nat.le_refl _, ch7, Nat.le_refl _, by decide, rfl, rfl⟩⟩, trivial⟩, below_grown g57⟩
      case assign =>
        intro l x X K hK
        simp only [List.setIfInBounds_toArray, List.set_cons_zero, List.set_cons_succ] at hK ⊢
        gi_wp2
        exact hK
      case body =>
        rintro lr pre ⟨y, hy⟩ X hlr hrec ⟨⟨v, hv', hrow, _⟩, hbel⟩ hlt
        obtain ⟨pv, ccv, rfl⟩ := row_slice hrow
        have up : ∀ {i : Nat} {ob : Obj}, W5.heap[i]? = some ob → X.heap[i]? = some ob := fun {i ob} h => (hbel.block i (Array.getElem?_eq_some_iff.1 h).1).trans h
        have upw : ∀ {i : Nat} {ob : Obj}, w.heap[i]? = some ob → X.heap[i]? = some ob := fun {i ob} h => up ((g05.block i (Array.getElem?_eq_some_iff.1 h).1 (by simp)).trans h)
        have hyX := upw (unhide HCE y (List.mem_filter.1 hy).1)
        have bX := up (unhide LB _ g05)
        have lX := up H5.out.1
        have tX := up H5.out.2
        have kpX : Kp w X := fun i c t m hi _ => upw hi
        have huy := unhide HUSE y hy
        have HIP : Hid (∀ Z, X.grownBy Z none → Calls Tryz.prog 63 #[.pointer (some ⟨y.nb, 0, none⟩), .iface TD (.pointer (some ⟨nd, 0, none⟩)), .string s] Z fun r w' => r = .returned (bytesV (Tw.Inl.inText s.data.toList d y.fr)) ∧ Z.grownBy w' none) := hide fun Z hZ => inPlaceOf_any ((unhide HD).kp (kpX.trans (Kp.of_grown hZ))) ((hZ.block _ (Array.getElem?_eq_some_iff.1 hyX).1 (by simp)).trans hyX) huy.1 huy.2 hs hdf hdt
        have CB : Hid (∀ (Z Z' : World), X.grownBy Z none → (∀ (j : Nat) (c : Array Value) (u : TypeId) (m : Nat × Nat), Z.heap[j]? = some (.cells c u m) → u ≠ 145 → u ≠ 146 → Z'.heap[j]? = some (.cells c u m)) → Z'.cell? ⟨y.nb, 0, none⟩ = some (.int .i64 y.fr) ∧ Z'.cell? ⟨y.nb, 1, none⟩ = some (.int .i64 y.to) ∧ Z'.cell? ⟨w1.heap.size, 0, none⟩ = some (.pointer (some ⟨b, 0, none⟩)) ∧ Z'.cell? ⟨b, 5, none⟩ = some (.iface TD (.pointer (some ⟨nd, 0, none⟩))) ∧ Z'.cell? ⟨w.heap.size, 0, none⟩ = some (.string s)) := hide fun Z Z' hZ hk => by
          have u2 : ∀ {i : Nat} {c : Array Value} {u : TypeId} {m : Nat × Nat}, X.heap[i]? = some (.cells c u m) → u ≠ 145 → u ≠ 146 → Z'.heap[i]? = some (.cells c u m) := fun h h1 h2 => hk _ _ _ _ ((hZ.block _ (Array.getElem?_eq_some_iff.1 h).1 (by simp)).trans h) h1 h2
          obtain ⟨q0, q1, _, _, _, _⟩ := three_cells (u2 hyX (by decide) (by decide))
          exact ⟨q0, q1, (one_cell (u2 lX (by decide) (by decide))).1, by rw [cell_of_row _ _ _ _ _ _ (u2 bX (by decide) (by decide))]; rfl, (one_cell (u2 tX (by decide) (by decide))).1⟩
        have CE : Hid (∀ Z, X.grownBy Z none → Z.cell? ⟨y.nb, 0, none⟩ = some (.int .i64 y.fr) ∧ Z.cell? ⟨y.nb, 1, none⟩ = some (.int .i64 y.to) ∧ Z.cell? ⟨w1.heap.size, 0, none⟩ = some (.pointer (some ⟨b, 0, none⟩)) ∧ Z.cell? ⟨b, 5, none⟩ = some (.iface TD (.pointer (some ⟨nd, 0, none⟩))) ∧ Z.cell? ⟨w.heap.size, 0, none⟩ = some (.string s)) := hide fun Z hZ => unhide CB Z Z hZ (fun _ _ _ _ h _ _ => h)
        have hic : (Tryz.prog.info? 145).map (fun i => (i.zero, i.size, i.bytes)) = some (some (.agg #[.int .i64 0, .int .i64 0, .string ⟨#[]⟩]), 3, 32) := by kernel_rfl
        obtain ⟨i0, hi0, hz0', hz1', hz3'⟩ := info_parts hic
        have HROW := hide hrow
        have HBEL := hide hbel
        have HV := hide hv'
        have hpl : pre.length < 300 := Nat.lt_of_lt_of_le hlt hL
        have cv1 := hv'.cell
        simp only [List.setIfInBounds_toArray, List.set_cons_zero, List.set_cons_succ]
        clear hrow hbel hv' up upw hyX bX lX tX kpX huy hic
        gi_wp2_with fail
        refine region_round lr (fun W => W.cell? ⟨y.nb, 0, none⟩ = some (.int .i64 y.fr) ∧ W.cell? ⟨y.nb, 1, none⟩ = some (.int .i64 y.to) ∧ W.cell? ⟨w1.heap.size, 0, none⟩ = some (.pointer (some ⟨b, 0, none⟩)) ∧ W.cell? ⟨b, 5, none⟩ = some (.iface TD (.pointer (some ⟨nd, 0, none⟩))) ∧ W.cell? ⟨w.heap.size, 0, none⟩ = some (.string s)) hmx (by kernel_rfl) (unhide CE _ (grown_drew (grown_refl _))) ?_
        intro hSd
        refine wpAnyH_take (i := 1) (oi := { dst := some 63, op := Op.move (Operand.tmp 12), type := 83, pos := "inline.go:24", after := #[], guard := none }) (v := .pointer (some ⟨y.nb, 0, none⟩)) rfl (by kernel_rfl) (by kernel_rfl) (by kernel_rfl) noPanic (Or.inl ⟨by rfl, fun W hSW => by obtain ⟨hs1, hs2, hs3, hs4, hs5⟩ := hSW; go_simp⟩) hSd ?_
        simp only [Act.put, List.setIfInBounds_toArray, List.set_cons_zero, List.set_cons_succ]
        refine wpAnyH_take (i := 2) (oi := { dst := some 64, op := Op.nilCheck (Operand.tmp 63), type := 0, pos := "inline.go:24", after := #[{ on := 1, ground := Ground.data }], guard := none }) (v := .pointer (some ⟨y.nb, 0, none⟩)) rfl (by kernel_rfl) (by kernel_rfl) (by kernel_rfl) noPanic (Or.inl ⟨by rfl, fun W hSW => by obtain ⟨hs1, hs2, hs3, hs4, hs5⟩ := hSW; go_simp⟩) hSd ?_
        simp only [Act.put, List.setIfInBounds_toArray, List.set_cons_zero, List.set_cons_succ]
        refine wpAnyH_take (i := 3) (oi := { dst := some 65, op := Op.fieldAddr 87 (Operand.tmp 64) 0, type := 0, pos := "inline.go:24", after := #[{ on := 2, ground := Ground.data }], guard := none }) (v := .pointer (some ⟨y.nb, 0, none⟩)) rfl (by kernel_rfl) (by kernel_rfl) (by kernel_rfl) noPanic (Or.inl ⟨by rfl, fun W hSW => by obtain ⟨hs1, hs2, hs3, hs4, hs5⟩ := hSW; go_simp⟩) hSd ?_
        simp only [Act.put, List.setIfInBounds_toArray, List.set_cons_zero, List.set_cons_succ]
        refine wpAnyH_take (i := 4) (oi := { dst := some 66, op := Op.load 85 (Operand.tmp 65), type := 85, pos := "inline.go:24", after := #[{ on := 3, ground := Ground.data }], guard := none }) (v := .agg #[.int .i64 y.fr, .int .i64 y.to]) rfl (by kernel_rfl) (by kernel_rfl) (by kernel_rfl) noPanic (Or.inl ⟨by rfl, fun W hSW => by obtain ⟨hs1, hs2, hs3, hs4, hs5⟩ := hSW; go_simp⟩) hSd ?_
        simp only [Act.put, List.setIfInBounds_toArray, List.set_cons_zero, List.set_cons_succ]
        refine wpAnyH_take (i := 5) (oi := { dst := some 67, op := Op.move (Operand.tmp 12), type := 83, pos := "inline.go:24", after := #[], guard := none }) (v := .pointer (some ⟨y.nb, 0, none⟩)) rfl (by kernel_rfl) (by kernel_rfl) (by kernel_rfl) noPanic (Or.inl ⟨by rfl, fun W hSW => by obtain ⟨hs1, hs2, hs3, hs4, hs5⟩ := hSW; go_simp⟩) hSd ?_
        simp only [Act.put, List.setIfInBounds_toArray, List.set_cons_zero, List.set_cons_succ]
        refine wpAnyH_take (i := 6) (oi := { dst := some 68, op := Op.load 136 (Operand.tmp 8), type := 136, pos := "inline.go:24", after := #[], guard := none }) (v := .pointer (some ⟨b, 0, none⟩)) rfl (by kernel_rfl) (by kernel_rfl) (by kernel_rfl) noPanic (Or.inl ⟨by rfl, fun W hSW => by obtain ⟨hs1, hs2, hs3, hs4, hs5⟩ := hSW; go_simp⟩) hSd ?_
        simp only [Act.put, List.setIfInBounds_toArray, List.set_cons_zero, List.set_cons_succ]
        refine wpAnyH_take (i := 7) (oi := { dst := some 69, op := Op.nilCheck (Operand.tmp 68), type := 0, pos := "inline.go:24", after := #[{ on := 6, ground := Ground.data }], guard := none }) (v := .pointer (some ⟨b, 0, none⟩)) rfl (by kernel_rfl) (by kernel_rfl) (by kernel_rfl) noPanic (Or.inl ⟨by rfl, fun W hSW => by obtain ⟨hs1, hs2, hs3, hs4, hs5⟩ := hSW; go_simp⟩) hSd ?_
        simp only [Act.put, List.setIfInBounds_toArray, List.set_cons_zero, List.set_cons_succ]
        refine wpAnyH_take (i := 8) (oi := { dst := some 70, op := Op.fieldAddr 140 (Operand.tmp 69) 3, type := 0, pos := "inline.go:24", after := #[{ on := 7, ground := Ground.data }], guard := none }) (v := .pointer (some ⟨b, 5, none⟩)) rfl (by kernel_rfl) (by kernel_rfl) (by kernel_rfl) noPanic (Or.inl ⟨by rfl, fun W hSW => by obtain ⟨hs1, hs2, hs3, hs4, hs5⟩ := hSW; go_simp⟩) hSd ?_
        simp only [Act.put, List.setIfInBounds_toArray, List.set_cons_zero, List.set_cons_succ]
        refine wpAnyH_take (i := 9) (oi := { dst := some 71, op := Op.load 68 (Operand.tmp 70), type := 68, pos := "inline.go:24", after := #[{ on := 8, ground := Ground.data }], guard := none }) (v := .iface TD (.pointer (some ⟨nd, 0, none⟩))) rfl (by kernel_rfl) (by kernel_rfl) (by kernel_rfl) noPanic (Or.inl ⟨by rfl, fun W hSW => by obtain ⟨hs1, hs2, hs3, hs4, hs5⟩ := hSW; go_simp⟩) hSd ?_
        simp only [Act.put, List.setIfInBounds_toArray, List.set_cons_zero, List.set_cons_succ]
        refine wpAnyH_take (i := 10) (oi := { dst := some 72, op := Op.load 9 (Operand.tmp 3), type := 9, pos := "inline.go:24", after := #[], guard := none }) (v := .string s) rfl (by kernel_rfl) (by kernel_rfl) (by kernel_rfl) noPanic (Or.inl ⟨by rfl, fun W hSW => by obtain ⟨hs1, hs2, hs3, hs4, hs5⟩ := hSW; go_simp⟩) hSd ?_
        simp only [Act.put, List.setIfInBounds_toArray, List.set_cons_zero, List.set_cons_succ]
        refine wpAnyH_ready (rs := [0, 11]) (by kernel_rfl) (by simp) ?_
        refine AllReadyH.cons (o := { dst := some 62, op := Op.load 146 (Operand.tmp 11), type := 146, pos := "inline.go:24", after := #[], guard := none }) rfl (fun K hK => ?_) (AllReadyH.cons (o := { dst := some 73, op := Op.call { callee := Callee.value (Operand.func 63), args := #[Operand.tmp 67, Operand.tmp 71, Operand.tmp 72], argTypes := #[83, 68, 9] }, type := 9, pos := "inline.go:24", after := #[{ on := 5, ground := Ground.data }, { on := 9, ground := Ground.data }, { on := 10, ground := Ground.data }], guard := none }) rfl (fun K hK => ?_) AllReadyH.nil)
        · go_simp
          refine hK.out _ _ hSd (fun hSd => ?_)
          clear hK K
          refine wpAnyH_ready (rs := [11]) (by kernel_rfl) (by simp) ?_
          refine AllReadyH.cons (o := { dst := some 73, op := Op.call { callee := Callee.value (Operand.func 63), args := #[Operand.tmp 67, Operand.tmp 71, Operand.tmp 72], argTypes := #[83, 68, 9] }, type := 9, pos := "inline.go:24", after := #[{ on := 5, ground := Ground.data }, { on := 9, ground := Ground.data }, { on := 10, ground := Ground.data }], guard := none }) rfl (fun K hK => ?_) AllReadyH.nil
          go_simp
          refine (unhide HIP _ (grown_drew (grown_refl _))).mono ?_
          rintro e1 X2 ⟨rfl, hg2⟩
          have G2 := hide (grown_trans (grown_drew (grown_refl X)) hg2)
          have v2 : Boxed X2 (W5.heap.size + 1) 146 (.slice pv (pre.length + 1) ccv) := (G2.out.block _ (unhide HV).lt (by simp)).trans (unhide HV)
          have row2 : X2.ownsRow W5.heap.size 145 3 (.slice pv (pre.length + 1) ccv) (pre.length + 1) (chCells (inlCh fr bo.fr s.data.toList d (pre.map (·.1)))) := row_kept (unhide HROW) (Nat.le_refl _) (fun g c h => (G2.out.block _ (Array.getElem?_eq_some_iff.1 h).1 (by simp)).trans h)
          have V2 := hide v2
          have ROW2 := hide row2
          have hzv := v2.lt
          have cv2 := v2.cell
          have cv3 := (one_cell ((Below.heap_alloc X2 (.cells #[.int .i64 y.fr, .int .i64 y.to, bytesV (Tw.Inl.inText s.data.toList d y.fr)] 145) _ hzv).trans v2)).1
          refine hK.out _ _ (unhide CE _ G2.out) (fun hSd => ?_)
          clear hK K hg2 v2 row2
          refine wpAnyH_take (i := 12) (oi := { dst := some 74, op := Op.build 145 #[(0, Operand.tmp 66), (1, Operand.tmp 73)], type := 145, pos := "inline.go:24", after := #[{ on := 4, ground := Ground.data }, { on := 11, ground := Ground.data }], guard := none }) (v := .agg #[.int .i64 y.fr, .int .i64 y.to, bytesV (Tw.Inl.inText s.data.toList d y.fr)]) rfl (by kernel_rfl) (by kernel_rfl) (by kernel_rfl) noPanic (Or.inl ⟨by rfl, fun W _ => by go_simp⟩) hSd ?_
          simp only [Act.put, List.setIfInBounds_toArray, List.set_cons_zero, List.set_cons_succ]
          refine wpAnyH_ready (rs := [13]) (by kernel_rfl) (by simp) ?_
          refine AllReadyH.cons (o := { dst := some 75, op := Op.buildSlice 146 1 #[(0, Operand.tmp 74)], type := 146, pos := "inline.go:24", after := #[{ on := 12, ground := Ground.data }], guard := none }) rfl (fun K hK => ?_) AllReadyH.nil
          go_simp
          refine hK.out _ _ (unhide CE _ (grown_alloc G2.out _)) (fun hSd => ?_)
          clear hK K
          refine wpAnyH_ready (rs := [14]) (by kernel_rfl) (by simp) ?_
          refine AllReadyH.cons (o := { dst := some 76, op := Op.call { callee := Callee.builtin Builtin.append, args := #[Operand.tmp 62, Operand.tmp 75], argTypes := #[146, 146] }, type := 146, pos := "inline.go:24", after := #[{ on := 0, ground := Ground.data }, { on := 13, ground := Ground.data }, { on := 11, ground := Ground.chain }], guard := none }) rfl (fun K hK => ?_) AllReadyH.nil
          rw [if_pos (by rfl)]
          refine wp_append_own _ _ _ 146 rfl W5.heap.size 145 i0 (.agg #[.int .i64 0, .int .i64 0, .string ⟨#[]⟩]) 3 32 Tryz.underlying146 hi0 hz0' hz1' hz3' rfl (by decide) (.slice pv (pre.length + 1) ccv) (pre.length + 1) (chCells (inlCh fr bo.fr s.data.toList d (pre.map (·.1)))) rfl (World.ownsRow.alloc (w := X2) (unhide ROW2) _) ⟨X2.heap.size, 0, none⟩ 1 1 [.int .i64 y.fr, .int .i64 y.to, bytesV (Tw.Inl.inText s.data.toList d y.fr)] rfl rfl (cell_three_new X2 _ _ _ _) (by intro u hu; simp at hu; rcases hu with rfl | rfl | rfl <;> rfl) (by unfold maxLen; omega) (by omega) (by have := G2.out.size; have := HBEL.out.size; simp; omega) ?_
          intro v' w5 hown' hgrow
          have hgrow' : (X2.alloc (.cells #[.int .i64 y.fr, .int .i64 y.to, bytesV (Tw.Inl.inText s.data.toList d y.fr)] 145)).grownBy w5 (Value.slice pv (pre.length + 1) ccv).ownBlock := ⟨hgrow.os, hgrow.tape, hgrow.output, hgrow.size, hgrow.block⟩
          obtain ⟨g6', cap6, rfl⟩ := ownsRow_succ hown'
          have hap := Boxed.appended (unhide V2) (by decide) (unhide ROW2) (Nat.le_trans HBEL.out.size G2.out.size) (Nat.le_succ _) hown' hgrow'
          have hc1 := hap.1.cell
          have hf1 := hap.1.frozen
          have kk := kp_appended (v' := .slice (some ⟨g6', 0, none⟩) (pre.length + 1 + 1) cap6) (unhide V2) (unhide ROW2) hgrow' (by decide) (by decide)
          have CA := unhide CB X2 w5 G2.out (fun j c u m h1 h2 h3 => row_grown (unhide ROW2) hgrow' h2 h1)
          have CZ := unhide CB X2 (w5.setCell ⟨W5.heap.size + 1, 0, none⟩ (.slice (some ⟨g6', 0, none⟩) (pre.length + 1 + 1) cap6)) G2.out (fun j c u m h1 h2 h3 => row_appended (unhide V2) (unhide ROW2) hgrow' h3 h2 h1)
          refine hK.out _ _ CA (fun hSd => ?_)
          clear hK K
          refine wpAnyH_ready (rs := [15]) (by kernel_rfl) (by simp) ?_
          refine AllReadyH.cons (o := { dst := none, op := Op.store 146 (Operand.tmp 11) (Operand.tmp 76), type := 0, pos := "inline.go:24", after := #[{ on := 14, ground := Ground.data }, { on := 14, ground := Ground.chain }, { on := 0, ground := Ground.phase }, { on := 1, ground := Ground.phase }, { on := 2, ground := Ground.phase }, { on := 3, ground := Ground.phase }, { on := 4, ground := Ground.phase }, { on := 5, ground := Ground.phase }, { on := 6, ground := Ground.phase }, { on := 7, ground := Ground.phase }, { on := 8, ground := Ground.phase }, { on := 9, ground := Ground.phase }, { on := 10, ground := Ground.phase }, { on := 11, ground := Ground.phase }, { on := 12, ground := Ground.phase }, { on := 13, ground := Ground.phase }, { on := 14, ground := Ground.phase }], guard := none }) rfl (fun K hK => ?_) AllReadyH.nil
          go_simp
          refine hK.out _ _ CZ (fun hSd => ?_)
          clear hK K
          refine wpAnyH_done (by kernel_rfl) ⟨rfl, ?_⟩ _
          refine ⟨keepsFrom_trans (keepsFrom_grown G2.out) (hap.2.2.2.1.from _), (Kp.of_grown G2.out).trans kk, ⟨_, hap.2.1, by simp only [List.map_append, List.map_cons, List.map_nil, List.length_append, List.length_cons, List.length_nil, Nat.zero_add]; rw [inlCh_snoc]; exact hap.2.2.1, trivial⟩, (unhide HBEL).trans (((below_grown G2.out).mono HBEL.out.size).trans hap.2.2.2.2)⟩
        · skip
          go_simp
          refine (unhide HIP _ (grown_drew (grown_refl _))).mono ?_
          rintro e1 X2 ⟨rfl, hg2⟩
          have G2 := hide (grown_trans (grown_drew (grown_refl X)) hg2)
          have v2 : Boxed X2 (W5.heap.size + 1) 146 (.slice pv (pre.length + 1) ccv) := (G2.out.block _ (unhide HV).lt (by simp)).trans (unhide HV)
          have row2 : X2.ownsRow W5.heap.size 145 3 (.slice pv (pre.length + 1) ccv) (pre.length + 1) (chCells (inlCh fr bo.fr s.data.toList d (pre.map (·.1)))) := row_kept (unhide HROW) (Nat.le_refl _) (fun g c h => (G2.out.block _ (Array.getElem?_eq_some_iff.1 h).1 (by simp)).trans h)
          have V2 := hide v2
          have ROW2 := hide row2
          have hzv := v2.lt
          have cv2 := v2.cell
          have cv3 := (one_cell ((Below.heap_alloc X2 (.cells #[.int .i64 y.fr, .int .i64 y.to, bytesV (Tw.Inl.inText s.data.toList d y.fr)] 145) _ hzv).trans v2)).1
          refine hK.out _ _ (unhide CE _ G2.out) (fun hSd => ?_)
          clear hK K hg2 v2 row2
          refine wpAnyH_take (i := 12) (oi := { dst := some 74, op := Op.build 145 #[(0, Operand.tmp 66), (1, Operand.tmp 73)], type := 145, pos := "inline.go:24", after := #[{ on := 4, ground := Ground.data }, { on := 11, ground := Ground.data }], guard := none }) (v := .agg #[.int .i64 y.fr, .int .i64 y.to, bytesV (Tw.Inl.inText s.data.toList d y.fr)]) rfl (by kernel_rfl) (by kernel_rfl) (by kernel_rfl) noPanic (Or.inl ⟨by rfl, fun W _ => by go_simp⟩) hSd ?_
          simp only [Act.put, List.setIfInBounds_toArray, List.set_cons_zero, List.set_cons_succ]
          refine wpAnyH_ready (rs := [0, 13]) (by kernel_rfl) (by simp) ?_
          refine AllReadyH.cons (o := { dst := some 62, op := Op.load 146 (Operand.tmp 11), type := 146, pos := "inline.go:24", after := #[], guard := none }) rfl (fun K hK => ?_) (AllReadyH.cons (o := { dst := some 75, op := Op.buildSlice 146 1 #[(0, Operand.tmp 74)], type := 146, pos := "inline.go:24", after := #[{ on := 12, ground := Ground.data }], guard := none }) rfl (fun K hK => ?_) AllReadyH.nil)
          · go_simp
            refine hK.out _ _ hSd (fun hSd => ?_)
            clear hK K
            refine wpAnyH_ready (rs := [13]) (by kernel_rfl) (by simp) ?_
            refine AllReadyH.cons (o := { dst := some 75, op := Op.buildSlice 146 1 #[(0, Operand.tmp 74)], type := 146, pos := "inline.go:24", after := #[{ on := 12, ground := Ground.data }], guard := none }) rfl (fun K hK => ?_) AllReadyH.nil
            go_simp
            refine hK.out _ _ (unhide CE _ (grown_alloc G2.out _)) (fun hSd => ?_)
            clear hK K
            refine wpAnyH_ready (rs := [14]) (by kernel_rfl) (by simp) ?_
            refine AllReadyH.cons (o := { dst := some 76, op := Op.call { callee := Callee.builtin Builtin.append, args := #[Operand.tmp 62, Operand.tmp 75], argTypes := #[146, 146] }, type := 146, pos := "inline.go:24", after := #[{ on := 0, ground := Ground.data }, { on := 13, ground := Ground.data }, { on := 11, ground := Ground.chain }], guard := none }) rfl (fun K hK => ?_) AllReadyH.nil
            rw [if_pos (by rfl)]
            refine wp_append_own _ _ _ 146 rfl W5.heap.size 145 i0 (.agg #[.int .i64 0, .int .i64 0, .string ⟨#[]⟩]) 3 32 Tryz.underlying146 hi0 hz0' hz1' hz3' rfl (by decide) (.slice pv (pre.length + 1) ccv) (pre.length + 1) (chCells (inlCh fr bo.fr s.data.toList d (pre.map (·.1)))) rfl (World.ownsRow.alloc (w := X2) (unhide ROW2) _) ⟨X2.heap.size, 0, none⟩ 1 1 [.int .i64 y.fr, .int .i64 y.to, bytesV (Tw.Inl.inText s.data.toList d y.fr)] rfl rfl (cell_three_new X2 _ _ _ _) (by intro u hu; simp at hu; rcases hu with rfl | rfl | rfl <;> rfl) (by unfold maxLen; omega) (by omega) (by have := G2.out.size; have := HBEL.out.size; simp; omega) ?_
            intro v' w5 hown' hgrow
            have hgrow' : (X2.alloc (.cells #[.int .i64 y.fr, .int .i64 y.to, bytesV (Tw.Inl.inText s.data.toList d y.fr)] 145)).grownBy w5 (Value.slice pv (pre.length + 1) ccv).ownBlock := ⟨hgrow.os, hgrow.tape, hgrow.output, hgrow.size, hgrow.block⟩
            obtain ⟨g6', cap6, rfl⟩ := ownsRow_succ hown'
            have hap := Boxed.appended (unhide V2) (by decide) (unhide ROW2) (Nat.le_trans HBEL.out.size G2.out.size) (Nat.le_succ _) hown' hgrow'
            have hc1 := hap.1.cell
            have hf1 := hap.1.frozen
            have kk := kp_appended (v' := .slice (some ⟨g6', 0, none⟩) (pre.length + 1 + 1) cap6) (unhide V2) (unhide ROW2) hgrow' (by decide) (by decide)
            have CA := unhide CB X2 w5 G2.out (fun j c u m h1 h2 h3 => row_grown (unhide ROW2) hgrow' h2 h1)
            have CZ := unhide CB X2 (w5.setCell ⟨W5.heap.size + 1, 0, none⟩ (.slice (some ⟨g6', 0, none⟩) (pre.length + 1 + 1) cap6)) G2.out (fun j c u m h1 h2 h3 => row_appended (unhide V2) (unhide ROW2) hgrow' h3 h2 h1)
            refine hK.out _ _ CA (fun hSd => ?_)
            clear hK K
            refine wpAnyH_ready (rs := [15]) (by kernel_rfl) (by simp) ?_
            refine AllReadyH.cons (o := { dst := none, op := Op.store 146 (Operand.tmp 11) (Operand.tmp 76), type := 0, pos := "inline.go:24", after := #[{ on := 14, ground := Ground.data }, { on := 14, ground := Ground.chain }, { on := 0, ground := Ground.phase }, { on := 1, ground := Ground.phase }, { on := 2, ground := Ground.phase }, { on := 3, ground := Ground.phase }, { on := 4, ground := Ground.phase }, { on := 5, ground := Ground.phase }, { on := 6, ground := Ground.phase }, { on := 7, ground := Ground.phase }, { on := 8, ground := Ground.phase }, { on := 9, ground := Ground.phase }, { on := 10, ground := Ground.phase }, { on := 11, ground := Ground.phase }, { on := 12, ground := Ground.phase }, { on := 13, ground := Ground.phase }, { on := 14, ground := Ground.phase }], guard := none }) rfl (fun K hK => ?_) AllReadyH.nil
            go_simp
            refine hK.out _ _ CZ (fun hSd => ?_)
            clear hK K
            refine wpAnyH_done (by kernel_rfl) ⟨rfl, ?_⟩ _
            refine ⟨keepsFrom_trans (keepsFrom_grown G2.out) (hap.2.2.2.1.from _), (Kp.of_grown G2.out).trans kk, ⟨_, hap.2.1, by simp only [List.map_append, List.map_cons, List.map_nil, List.length_append, List.length_cons, List.length_nil, Nat.zero_add]; rw [inlCh_snoc]; exact hap.2.2.1, trivial⟩, (unhide HBEL).trans (((below_grown G2.out).mono HBEL.out.size).trans hap.2.2.2.2)⟩
          · go_simp
            refine hK.out _ _ (unhide CE _ (grown_alloc G2.out _)) (fun hSd => ?_)
            clear hK K
            refine wpAnyH_ready (rs := [0]) (by kernel_rfl) (by simp) ?_
            refine AllReadyH.cons (o := { dst := some 62, op := Op.load 146 (Operand.tmp 11), type := 146, pos := "inline.go:24", after := #[], guard := none }) rfl (fun K hK => ?_) AllReadyH.nil
            go_simp
            refine hK.out _ _ hSd (fun hSd => ?_)
            clear hK K
            refine wpAnyH_ready (rs := [14]) (by kernel_rfl) (by simp) ?_
            refine AllReadyH.cons (o := { dst := some 76, op := Op.call { callee := Callee.builtin Builtin.append, args := #[Operand.tmp 62, Operand.tmp 75], argTypes := #[146, 146] }, type := 146, pos := "inline.go:24", after := #[{ on := 0, ground := Ground.data }, { on := 13, ground := Ground.data }, { on := 11, ground := Ground.chain }], guard := none }) rfl (fun K hK => ?_) AllReadyH.nil
            rw [if_pos (by rfl)]
            refine wp_append_own _ _ _ 146 rfl W5.heap.size 145 i0 (.agg #[.int .i64 0, .int .i64 0, .string ⟨#[]⟩]) 3 32 Tryz.underlying146 hi0 hz0' hz1' hz3' rfl (by decide) (.slice pv (pre.length + 1) ccv) (pre.length + 1) (chCells (inlCh fr bo.fr s.data.toList d (pre.map (·.1)))) rfl (World.ownsRow.alloc (w := X2) (unhide ROW2) _) ⟨X2.heap.size, 0, none⟩ 1 1 [.int .i64 y.fr, .int .i64 y.to, bytesV (Tw.Inl.inText s.data.toList d y.fr)] rfl rfl (cell_three_new X2 _ _ _ _) (by intro u hu; simp at hu; rcases hu with rfl | rfl | rfl <;> rfl) (by unfold maxLen; omega) (by omega) (by have := G2.out.size; have := HBEL.out.size; simp; omega) ?_
            intro v' w5 hown' hgrow
            have hgrow' : (X2.alloc (.cells #[.int .i64 y.fr, .int .i64 y.to, bytesV (Tw.Inl.inText s.data.toList d y.fr)] 145)).grownBy w5 (Value.slice pv (pre.length + 1) ccv).ownBlock := ⟨hgrow.os, hgrow.tape, hgrow.output, hgrow.size, hgrow.block⟩
            obtain ⟨g6', cap6, rfl⟩ := ownsRow_succ hown'
            have hap := Boxed.appended (unhide V2) (by decide) (unhide ROW2) (Nat.le_trans HBEL.out.size G2.out.size) (Nat.le_succ _) hown' hgrow'
            have hc1 := hap.1.cell
            have hf1 := hap.1.frozen
            have kk := kp_appended (v' := .slice (some ⟨g6', 0, none⟩) (pre.length + 1 + 1) cap6) (unhide V2) (unhide ROW2) hgrow' (by decide) (by decide)
            have CA := unhide CB X2 w5 G2.out (fun j c u m h1 h2 h3 => row_grown (unhide ROW2) hgrow' h2 h1)
            have CZ := unhide CB X2 (w5.setCell ⟨W5.heap.size + 1, 0, none⟩ (.slice (some ⟨g6', 0, none⟩) (pre.length + 1 + 1) cap6)) G2.out (fun j c u m h1 h2 h3 => row_appended (unhide V2) (unhide ROW2) hgrow' h3 h2 h1)
            refine hK.out _ _ CA (fun hSd => ?_)
            clear hK K
            refine wpAnyH_ready (rs := [15]) (by kernel_rfl) (by simp) ?_
            refine AllReadyH.cons (o := { dst := none, op := Op.store 146 (Operand.tmp 11) (Operand.tmp 76), type := 0, pos := "inline.go:24", after := #[{ on := 14, ground := Ground.data }, { on := 14, ground := Ground.chain }, { on := 0, ground := Ground.phase }, { on := 1, ground := Ground.phase }, { on := 2, ground := Ground.phase }, { on := 3, ground := Ground.phase }, { on := 4, ground := Ground.phase }, { on := 5, ground := Ground.phase }, { on := 6, ground := Ground.phase }, { on := 7, ground := Ground.phase }, { on := 8, ground := Ground.phase }, { on := 9, ground := Ground.phase }, { on := 10, ground := Ground.phase }, { on := 11, ground := Ground.phase }, { on := 12, ground := Ground.phase }, { on := 13, ground := Ground.phase }, { on := 14, ground := Ground.phase }], guard := none }) rfl (fun K hK => ?_) AllReadyH.nil
            go_simp
            refine hK.out _ _ CZ (fun hSd => ?_)
            clear hK K
            refine wpAnyH_done (by kernel_rfl) ⟨rfl, ?_⟩ _
            refine ⟨keepsFrom_trans (keepsFrom_grown G2.out) (hap.2.2.2.1.from _), (Kp.of_grown G2.out).trans kk, ⟨_, hap.2.1, by simp only [List.map_append, List.map_cons, List.map_nil, List.length_append, List.length_cons, List.length_nil, Nat.zero_add]; rw [inlCh_snoc]; exact hap.2.2.1, trivial⟩, (unhide HBEL).trans (((below_grown G2.out).mono HBEL.out.size).trans hap.2.2.2.2)⟩
      case done =>
        rintro D xs X hD hxs ⟨⟨v, hv, hrow, _⟩, hbel⟩ hK
        have hlx : (usesL ⟨b, 3, none⟩ LU).length = xs.length := by rw [← hxs]; simp
        rw [hxs] at hrow
        have hrl := inlCh_length fr bo.fr s.data.toList d (usesL ⟨b, 3, none⟩ LU)
        rw [hlx] at hrl
        rw [← hrl] at hrow
        obtain ⟨g8, cap8, rfl, _, hg8, hch⟩ := chAt_of (by simp [inlCh]) hrow
        have cv := hv.cell
        have hul : xs.length ≤ 300 := by
          rw [← hlx]
          exact Nat.le_trans (List.length_filter_le _ _) hL
        have hsz : s.data.toList.length = s.size := Array.length_toList
        have HCH := hide (changed_any hB (cap := cap8) hs hch hg8 hok (by rw [hrl]; omega) (by
          intro c hc
          simp only [inlCh, List.mem_cons, List.mem_map] at hc
          rcases hc with rfl | ⟨_, _, rfl⟩
          · simp
          · exact Nat.le_trans (inText_le _ _ _) (by omega)))
        rw [hrl] at HCH
        have HBEL := hide hbel
        have HK := hide hK
        have tX := (one_cell ((hbel.block _ (Array.getElem?_eq_some_iff.1 H5.out.2).1).trans H5.out.2)).1
        clear hrow hv hbel hch hxs hok
        gi_wp2_with fail
        refine ⟨trivial, ?_⟩
        refine (callsIn_wide.2 (unhide HCH)).mono ?_
        rintro e1 X2 ⟨rfl, hgX⟩
        have hK2 : X2.heap[D]? = some (.deferred (some [])) := (hgX.block _ (Array.getElem?_eq_some_iff.1 (unhide HK)).1 (by simp)).trans (unhide HK)
        gi_wp2_with fail
        refine ⟨by simp, .inl ⟨_, _, rfl, run_takeDeferred hK2, ?_⟩⟩
        obtain ⟨out, hout⟩ : ∃ out : ByteArray, (⟨(Tw.chgR 0 s.data.toList (inlCh fr bo.fr s.data.toList d (usesL ⟨b, 3, none⟩ LU))).toArray⟩ : ByteArray) = out := ⟨_, rfl⟩
        rw [hout]
        refine ⟨.tuple #[.string out, .int .i64 0], ?_, rfl, ?_⟩
        · simp [results, Tryz.results38, go_sem]
        · have hput := grownBy_putObj' X2 D (.deferred none)
          have hb := HBEL.out
          have hz := g05.size
          refine ⟨hput.os.trans (hgX.os.trans (hb.os.trans g05.os)), hput.tape.trans (hgX.tape.trans (hb.tape.trans g05.tape)), hput.output.trans (hgX.output.trans (hb.output.trans g05.output)), by have := hput.size; have := hgX.size; have := hb.size; omega, fun i hi _ => ?_⟩
          have hi2 : i < W5.heap.size := by omega
          have hiX : i < X.heap.size := by have := hb.size; omega
          exact (hput.block i (by have := hgX.size; omega) (fun e => by cases e; omega)).trans ((hgX.block i hiX (by simp)).trans ((hb.block i hi2).trans (g05.block i hi (by simp))))
      case stop => intro D c pre X hD hpre h; exact h.elim
    | _ => exact h.elim

end Go.Proofs.YtckhafpejefbbaaGreatDoor

/- What is found in memory by Inline is what the tree says. -/
namespace Go.Proofs.YtckhafpejefbbaaGreatDoor
open Go.RowKit

theorem look_some (x : List UInt8) (e : Tw.BEn) : (e.look x).isSome = true ↔ x ∈ BEn.names e := by
  have := BEn.look_names x e
  cases h : e.look x with
  | none => rw [h] at this; simp; exact this.1 rfl
  | some a => rw [h] at this; simp at this; simp [this]

theorem NL.freeIn (z : List UInt8) {w : World} {hi : Nat} : ∀ {t : Tw.T} {v : Value} {e : Tw.BEn} {L : List NB}, NL w hi t v e L → ((freeL L).any (fun y => decide (y.tx = z)) = true ↔ Tw.Inl.freeIn z t (BEn.names e))
  | .name fr to x, _, e, _, ⟨b, _, rfl⟩ => by
    simp only [Tw.Inl.freeIn]
    have hk : (NB.k ⟨b, fr, to, x, e⟩ = none) ↔ x ∉ BEn.names e := BEn.look_names x e
    by_cases hx : x ∈ BEn.names e
    · have : ¬ NB.k ⟨b, fr, to, x, e⟩ = none := fun q => hk.1 q hx
      simp only [freeL, List.filter_cons, this, decide_false, Bool.false_eq_true, if_false, List.filter_nil, List.any_nil, false_iff, not_and, Decidable.not_not]
      exact fun q => q ▸ hx
    · have : NB.k ⟨b, fr, to, x, e⟩ = none := hk.2 hx
      simp only [freeL, List.filter_cons, this, decide_true, if_true, List.filter_nil, List.any_cons, List.any_nil, Bool.or_false, decide_eq_true_eq]
      exact ⟨fun q => ⟨q, q ▸ hx⟩, fun q => q.1⟩
  | .int .., _, _, _, ⟨_, rfl⟩ => by simp [freeL, Tw.Inl.freeIn]
  | .truth .., _, _, _, ⟨_, rfl⟩ => by simp [freeL, Tw.Inl.freeIn]
  | .side .., _, _, _, ⟨_, rfl⟩ => by simp [freeL, Tw.Inl.freeIn]
  | .bracket .., _, _, _, ⟨_, _, r1⟩ => by have h := NL.freeIn z r1; exact h
  | .pair .., _, _, _, ⟨_, _, _, _, _, r1, r2, rfl⟩ => by rw [any_append_free, Bool.or_eq_true, NL.freeIn z r1, NL.freeIn z r2]; rfl
  | .call .., _, _, _, ⟨_, _, _, _, _, r1, r2, rfl⟩ => by rw [any_append_free, Bool.or_eq_true, NL.freeIn z r1, NL.freeIn z r2]; rfl
  | .binary .., _, _, _, ⟨_, _, _, _, _, r1, r2, rfl⟩ => by rw [any_append_free, Bool.or_eq_true, NL.freeIn z r1, NL.freeIn z r2]; rfl
  | .cond .., _, _, _, ⟨_, _, _, _, _, _, _, r1, r2, r3, rfl⟩ => by
    rw [any_append_free, any_append_free, Bool.or_eq_true, Bool.or_eq_true, NL.freeIn z r1, NL.freeIn z r2, NL.freeIn z r3]
    simp only [Tw.Inl.freeIn, or_assoc]
  | .fn .., _, _, _, ⟨_, _, _, r1⟩ => by have h := NL.freeIn z r1; exact h
  | .lett _ _ rc _ _ _ _, _, _, _, ⟨_, _, _, _, _, _, r1, r2, rfl⟩ => by
    rw [any_append_free, Bool.or_eq_true, NL.freeIn z r1, NL.freeIn z r2]
    cases rc <;> rfl

theorem NL.captD (x : List UInt8) {w : World} {hi : Nat} {d : Tw.T} {dv : Value} {LD : List NB} (hd : NL w hi d dv .nil LD) : ∀ {t : Tw.T} {v : Value} {e : Tw.BEn} {L : List NB}, NL w hi t v e L → ((freeL L).any (capD x LD) = true ↔ Tw.Inl.captD x d t (BEn.names e))
  | .name fr to z, _, e, _, ⟨b, _, rfl⟩ => by
    simp only [Tw.Inl.captD]
    have hk : (NB.k ⟨b, fr, to, z, e⟩ = none) ↔ z ∉ BEn.names e := BEn.look_names z e
    have hy : ((freeL LD).any fun y => (e.look y.tx).isSome) = true ↔ ∃ y, Tw.Inl.freeIn y d [] ∧ y ∈ BEn.names e := by
      rw [List.any_eq_true]
      constructor
      · rintro ⟨y, hy, h⟩
        exact ⟨y.tx, (NL.freeIn y.tx hd).1 (List.any_eq_true.2 ⟨y, hy, by simp⟩), (look_some _ _).1 h⟩
      · rintro ⟨y, hy, h⟩
        obtain ⟨q, hq, e1⟩ := List.any_eq_true.1 ((NL.freeIn y hd).2 hy)
        have e2 : q.tx = y := by simpa using e1
        exact ⟨q, hq, by rw [e2]; exact (look_some _ _).2 h⟩
    by_cases hx : z ∈ BEn.names e
    · have : ¬ NB.k ⟨b, fr, to, z, e⟩ = none := fun q => hk.1 q hx
      simp only [freeL, List.filter_cons, this, decide_false, Bool.false_eq_true, if_false, List.filter_nil, List.any_nil, false_iff, not_and]
      exact fun q r => absurd (q ▸ hx) r
    · have : NB.k ⟨b, fr, to, z, e⟩ = none := hk.2 hx
      have e0 : freeL [(⟨b, fr, to, z, e⟩ : NB)] = [⟨b, fr, to, z, e⟩] := by simp [freeL, this]
      rw [e0]
      simp only [List.any_cons, List.any_nil, Bool.or_false, capD, Bool.and_eq_true, decide_eq_true_eq]
      rw [hy]
      exact ⟨fun q => ⟨q.1, q.1 ▸ hx, q.2⟩, fun q => ⟨q.1, q.2.2⟩⟩
  | .int .., _, _, _, ⟨_, rfl⟩ => by simp [freeL, Tw.Inl.captD]
  | .truth .., _, _, _, ⟨_, rfl⟩ => by simp [freeL, Tw.Inl.captD]
  | .side .., _, _, _, ⟨_, rfl⟩ => by simp [freeL, Tw.Inl.captD]
  | .bracket .., _, _, _, ⟨_, _, r1⟩ => by have h := NL.captD x hd r1; exact h
  | .pair .., _, _, _, ⟨_, _, _, _, _, r1, r2, rfl⟩ => by rw [any_append_free, Bool.or_eq_true, NL.captD x hd r1, NL.captD x hd r2]; rfl
  | .call .., _, _, _, ⟨_, _, _, _, _, r1, r2, rfl⟩ => by rw [any_append_free, Bool.or_eq_true, NL.captD x hd r1, NL.captD x hd r2]; rfl
  | .binary .., _, _, _, ⟨_, _, _, _, _, r1, r2, rfl⟩ => by rw [any_append_free, Bool.or_eq_true, NL.captD x hd r1, NL.captD x hd r2]; rfl
  | .cond .., _, _, _, ⟨_, _, _, _, _, _, _, r1, r2, r3, rfl⟩ => by
    rw [any_append_free, any_append_free, Bool.or_eq_true, Bool.or_eq_true, NL.captD x hd r1, NL.captD x hd r2, NL.captD x hd r3]
    simp only [Tw.Inl.captD, or_assoc]
  | .fn .., _, _, _, ⟨_, _, _, r1⟩ => by have h := NL.captD x hd r1; exact h
  | .lett _ _ rc _ _ _ _, _, _, _, ⟨_, _, _, _, _, _, r1, r2, rfl⟩ => by
    rw [any_append_free, Bool.or_eq_true, NL.captD x hd r1, NL.captD x hd r2]
    cases rc <;> rfl

def nf (y : NB) : Nat × Nat := (y.nb, y.fr)

theorem fun_inj {w : World} {hi fr to k k' bat bat' : Nat} {v v1 v1' : Value} {bn bn' : List UInt8} (h : k < hi ∧ v = .iface 215 (.pointer (some ⟨k, 0, none⟩)) ∧ w.heap[k]? = some (.cells #[.int .i64 fr, .int .i64 to, bytesV bn, .int .i64 bat, v1] 235 (0, 0))) (h' : k' < hi ∧ v = .iface 215 (.pointer (some ⟨k', 0, none⟩)) ∧ w.heap[k']? = some (.cells #[.int .i64 fr, .int .i64 to, bytesV bn', .int .i64 bat', v1'] 235 (0, 0))) : v1 = v1' := by
  obtain ⟨_, rfl, h1⟩ := h
  obtain ⟨_, e, h2⟩ := h'
  cases e
  rw [h1] at h2
  simp at h2
  exact h2.2.2

theorem let_inj {w : World} {hi fr to k k' bat bat' : Nat} {r r' : Bool} {v v1 v1' v2 v2' : Value} {bn bn' : List UInt8} (h : k < hi ∧ v = .iface 136 (.pointer (some ⟨k, 0, none⟩)) ∧ w.heap[k]? = some (.cells #[.int .i64 fr, .int .i64 to, .bool r, bytesV bn, .int .i64 bat, v1, v2] 140 (0, 0))) (h' : k' < hi ∧ v = .iface 136 (.pointer (some ⟨k', 0, none⟩)) ∧ w.heap[k']? = some (.cells #[.int .i64 fr, .int .i64 to, .bool r', bytesV bn', .int .i64 bat', v1', v2'] 140 (0, 0))) : v1 = v1' ∧ v2 = v2' := by
  obtain ⟨_, rfl, h1⟩ := h
  obtain ⟨_, e, h2⟩ := h'
  cases e
  rw [h1] at h2
  simp at h2
  exact ⟨h2.2.2.2.1, h2.2.2.2.2⟩

theorem NL.same {w : World} {hi : Nat} : ∀ {t : Tw.T} {v : Value} {e e' : Tw.BEn} {L L' : List NB}, NL w hi t v e L → NL w hi t v e' L' → L.map nf = L'.map nf
  | .name .., _, _, _, _, _, ⟨b, ⟨h1, _⟩, rfl⟩, ⟨b', ⟨h1', _⟩, rfl⟩ => by rw [h1] at h1'; cases h1'; rfl
  | .int .., _, _, _, _, _, ⟨_, rfl⟩, ⟨_, rfl⟩ => rfl
  | .truth .., _, _, _, _, _, ⟨_, rfl⟩, ⟨_, rfl⟩ => rfl
  | .side .., _, _, _, _, _, ⟨_, rfl⟩, ⟨_, rfl⟩ => rfl
  | .bracket .., _, _, _, _, _, ⟨_, h, r1⟩, ⟨_, h', r1'⟩ => by cases nodeAt.inj h h'; exact NL.same r1 r1'
  | .pair .., _, _, _, _, _, ⟨_, _, _, _, h, r1, r2, rfl⟩, ⟨_, _, _, _, h', r1', r2', rfl⟩ => by cases nodeAt.inj h h'; rw [List.map_append, List.map_append, NL.same r1 r1', NL.same r2 r2']
  | .call .., _, _, _, _, _, ⟨_, _, _, _, h, r1, r2, rfl⟩, ⟨_, _, _, _, h', r1', r2', rfl⟩ => by cases nodeAt.inj h h'; rw [List.map_append, List.map_append, NL.same r1 r1', NL.same r2 r2']
  | .binary .., _, _, _, _, _, ⟨_, _, _, _, h, r1, r2, rfl⟩, ⟨_, _, _, _, h', r1', r2', rfl⟩ => by cases nodeAt.inj h h'; rw [List.map_append, List.map_append, NL.same r1 r1', NL.same r2 r2']
  | .cond .., _, _, _, _, _, ⟨_, _, _, _, _, _, h, r1, r2, r3, rfl⟩, ⟨_, _, _, _, _, _, h', r1', r2', r3', rfl⟩ => by cases nodeAt.inj h h'; simp only [List.map_append, NL.same r1 r1', NL.same r2 r2', NL.same r3 r3']
  | .fn .., _, _, _, _, _, ⟨_, _, h, r1⟩, ⟨_, _, h', r1'⟩ => by cases fun_inj h h'; exact NL.same r1 r1'
  | .lett .., _, _, _, _, _, ⟨_, _, _, _, _, h, r1, r2, rfl⟩, ⟨_, _, _, _, _, h', r1', r2', rfl⟩ => by
    obtain ⟨e1, e2⟩ := let_inj h h'
    subst e1
    subst e2
    rw [List.map_append, List.map_append, NL.same r1 r1', NL.same r2 r2']

theorem node_fun {w : World} {hi fr to bat k : Nat} {v v1 v1' : Value} {bn : List UInt8} (h : k < hi ∧ v = .iface 215 (.pointer (some ⟨k, 0, none⟩)) ∧ w.heap[k]? = some (.cells #[.int .i64 fr, .int .i64 to, bytesV bn, .int .i64 bat, v1] 235 (0, 0))) (h' : nodeAt w 0 hi fr to [bytesV bn, .int .i64 bat, v1'] 215 235 v) : v1 = v1' := by
  obtain ⟨b, _, q, hv, hb⟩ := h'
  exact fun_inj h ⟨q, hv, hb⟩

theorem node_let {w : World} {hi fr to bat k : Nat} {r : Bool} {v v1 v1' v2 v2' : Value} {bn : List UInt8} (h : k < hi ∧ v = .iface 136 (.pointer (some ⟨k, 0, none⟩)) ∧ w.heap[k]? = some (.cells #[.int .i64 fr, .int .i64 to, .bool r, bytesV bn, .int .i64 bat, v1, v2] 140 (0, 0))) (h' : nodeAt w 0 hi fr to [.bool r, bytesV bn, .int .i64 bat, v1', v2'] 136 140 v) : v1 = v1' ∧ v2 = v2' := by
  obtain ⟨b, _, q, hv, hb⟩ := h'
  exact let_inj h ⟨q, hv, hb⟩

theorem NL.under {w : World} {hi : Nat} {x : TN} {e' : Tw.BEn} {L' : List NB} (hL' : NL w hi x.t x.v e' L') : ∀ {t : Tw.T} {v : Value} {e : Tw.BEn} {L : List NB} {M : List TN}, NL w hi t v e L → NDL w hi t v M → x ∈ M → ∀ p ∈ L'.map nf, p ∈ L.map nf
  | .name .., _, _, _, _, hN, ⟨_, rfl⟩, hx, p, hp => by simp only [List.mem_singleton] at hx; subst hx; rw [NL.same hN hL']; exact hp
  | .int .., _, _, _, _, hN, ⟨_, rfl⟩, hx, p, hp => by simp only [List.mem_singleton] at hx; subst hx; rw [NL.same hN hL']; exact hp
  | .truth .., _, _, _, _, hN, ⟨_, rfl⟩, hx, p, hp => by simp only [List.mem_singleton] at hx; subst hx; rw [NL.same hN hL']; exact hp
  | .side .., _, _, _, _, hN, ⟨_, rfl⟩, hx, p, hp => by simp only [List.mem_singleton] at hx; subst hx; rw [NL.same hN hL']; exact hp
  | .bracket .., _, _, _, _, hN, ⟨_, _, h', n1, rfl⟩, hx, p, hp => by
    rcases List.mem_cons.1 hx with rfl | hx
    · rw [NL.same hN hL']; exact hp
    · obtain ⟨_, h, r1⟩ := hN
      cases nodeAt.inj h h'
      exact NL.under hL' r1 n1 hx p hp
  | .pair .., _, _, _, _, hN, ⟨_, _, _, _, h', n1, n2, rfl⟩, hx, p, hp => by
    rcases List.mem_cons.1 hx with rfl | hx
    · rw [NL.same hN hL']; exact hp
    · obtain ⟨_, _, _, _, h, r1, r2, rfl⟩ := hN
      cases nodeAt.inj h h'
      rw [List.map_append, List.mem_append]
      exact (List.mem_append.1 hx).imp (fun hx => NL.under hL' r1 n1 hx p hp) (fun hx => NL.under hL' r2 n2 hx p hp)
  | .call .., _, _, _, _, hN, ⟨_, _, _, _, h', n1, n2, rfl⟩, hx, p, hp => by
    rcases List.mem_cons.1 hx with rfl | hx
    · rw [NL.same hN hL']; exact hp
    · obtain ⟨_, _, _, _, h, r1, r2, rfl⟩ := hN
      cases nodeAt.inj h h'
      rw [List.map_append, List.mem_append]
      exact (List.mem_append.1 hx).imp (fun hx => NL.under hL' r1 n1 hx p hp) (fun hx => NL.under hL' r2 n2 hx p hp)
  | .binary .., _, _, _, _, hN, ⟨_, _, _, _, h', n1, n2, rfl⟩, hx, p, hp => by
    rcases List.mem_cons.1 hx with rfl | hx
    · rw [NL.same hN hL']; exact hp
    · obtain ⟨_, _, _, _, h, r1, r2, rfl⟩ := hN
      cases nodeAt.inj h h'
      rw [List.map_append, List.mem_append]
      exact (List.mem_append.1 hx).imp (fun hx => NL.under hL' r1 n1 hx p hp) (fun hx => NL.under hL' r2 n2 hx p hp)
  | .cond .., _, _, _, _, hN, ⟨_, _, _, _, _, _, h', n1, n2, n3, rfl⟩, hx, p, hp => by
    rcases List.mem_cons.1 hx with rfl | hx
    · rw [NL.same hN hL']; exact hp
    · obtain ⟨_, _, _, _, _, _, h, r1, r2, r3, rfl⟩ := hN
      cases nodeAt.inj h h'
      rw [List.map_append, List.map_append, List.mem_append, List.mem_append]
      rcases List.mem_append.1 hx with hx | hx
      · exact .inl (.inl (NL.under hL' r1 n1 hx p hp))
      · exact (List.mem_append.1 hx).elim (fun hx => .inl (.inr (NL.under hL' r2 n2 hx p hp))) (fun hx => .inr (NL.under hL' r3 n3 hx p hp))
  | .fn .., _, _, _, _, hN, ⟨_, _, h', n1, rfl⟩, hx, p, hp => by
    rcases List.mem_cons.1 hx with rfl | hx
    · rw [NL.same hN hL']; exact hp
    · obtain ⟨_, _, h, r1⟩ := hN
      cases node_fun h h'
      exact NL.under hL' r1 n1 hx p hp
  | .lett .., _, _, _, _, hN, ⟨_, _, _, _, h', n1, n2, rfl⟩, hx, p, hp => by
    rcases List.mem_cons.1 hx with rfl | hx
    · rw [NL.same hN hL']; exact hp
    · obtain ⟨_, _, _, _, _, h, r1, r2, rfl⟩ := hN
      obtain ⟨e1, e2⟩ := node_let h h'
      subst e1
      subst e2
      rw [List.map_append, List.mem_append]
      exact (List.mem_append.1 hx).imp (fun hx => NL.under hL' r1 n1 hx p hp) (fun hx => NL.under hL' r2 n2 hx p hp)

theorem NL.frs {w : World} {hi : Nat} : ∀ {t : Tw.T} {v : Value} {e : Tw.BEn} {L : List NB}, NL w hi t v e L → (L.map (·.fr)).Sublist t.places
  | .name .., _, _, _, ⟨_, _, rfl⟩ => List.Sublist.refl _
  | .int .., _, _, _, ⟨_, rfl⟩ => List.nil_sublist _
  | .truth .., _, _, _, ⟨_, rfl⟩ => List.nil_sublist _
  | .side .., _, _, _, ⟨_, rfl⟩ => List.nil_sublist _
  | .bracket _ _ i, _, _, _, ⟨_, _, r1⟩ => NL.frs (t := i) r1
  | .pair .., _, _, _, ⟨_, _, _, _, _, r1, r2, rfl⟩ => by rw [List.map_append]; exact (NL.frs r1).append (NL.frs r2)
  | .call .., _, _, _, ⟨_, _, _, _, _, r1, r2, rfl⟩ => by rw [List.map_append]; exact (NL.frs r1).append (NL.frs r2)
  | .binary .., _, _, _, ⟨_, _, _, _, _, r1, r2, rfl⟩ => by rw [List.map_append]; exact (NL.frs r1).append (NL.frs r2)
  | .cond .., _, _, _, ⟨_, _, _, _, _, _, _, r1, r2, r3, rfl⟩ => by rw [List.map_append, List.map_append, List.append_assoc]; exact (NL.frs r1).append ((NL.frs r2).append (NL.frs r3))
  | .fn .., _, _, _, ⟨_, _, _, r1⟩ => (NL.frs r1).cons _
  | .lett .., _, _, _, ⟨_, _, _, _, _, _, r1, r2, rfl⟩ => by rw [List.map_append]; exact ((NL.frs r1).append (NL.frs r2)).cons _

theorem nf_inj {w : World} {hi : Nat} {t : Tw.T} {v : Value} {e : Tw.BEn} {L : List NB} (h : NL w hi t v e L) (hnd : t.places.Nodup) {a b f : Nat} (ha : (a, f) ∈ L.map nf) (hb : (b, f) ∈ L.map nf) : a = b := by
  obtain ⟨x, hx, ex⟩ := List.mem_map.1 ha
  obtain ⟨y, hy, ey⟩ := List.mem_map.1 hb
  simp only [nf, Prod.mk.injEq] at ex ey
  have := inj_of_nodup (f := fun z : NB => z.fr) (hnd.sublist (NL.frs h)) hx hy (by rw [ex.2, ey.2])
  rw [← ex.1, ← ey.1, this]

theorem any_filter_map {α β : Type} (p : α → Bool) (f : α → β) (q : β → Bool) : ∀ {L : List α} {g : α → Bool}, (∀ x ∈ L, g x = (p x && q (f x))) → L.any g = ((L.filter p).map f).any q
  | [], _, _ => rfl
  | x :: L, g, h => by
    rw [List.any_cons, h x (by simp), any_filter_map p f q (fun y hy => h y (by simp [hy])), List.filter_cons]
    cases p x <;> simp

theorem rep_head {w : World} {hi : Nat} {x : TN} {M : List TN} (h : NDL w hi x.t x.v M) (hb : x.bind.isSome = true) : (⟨x.t, x.v⟩ : TN) ∈ M := by
  obtain ⟨t, v⟩ := x
  cases t with
  | fn => obtain ⟨_, _, _, _, rfl⟩ := h; exact List.mem_cons_self
  | lett => obtain ⟨_, _, _, _, _, _, _, rfl⟩ := h; exact List.mem_cons_self
  | _ => simp [TN.bind] at hb

theorem own_link {w : World} {hi : Nat} {l : List UInt8} {t : Tw.T} {body : List Tw.Tok} (ho : Opened l t body) {tv : Value} {LN : List TN} (hN : NDL w hi t tv LN) {L0 : List NB} (h0 : NL w hi t tv .nil L0) {LX : TN → List NB} (hLX : ∀ x ∈ LN, NL w hi x.t x.v .nil (LX x)) {y : NB} (hy : nf y ∈ L0.map nf) (hyc : w.heap[y.nb]? = some (.cells #[.int .i64 y.fr, .int .i64 y.to, bytesV y.tx] 87 (0, 0))) :
    LN.any (ownT LX y.nb y.fr) = Tw.Inl.ownF t y.fr := by
  have hb := hN.binds
  unfold Tw.Inl.ownF
  rw [← hb]
  refine any_filter_map (fun x : TN => x.bind.isSome) (·.t) _ (fun x hx => ?_)
  have hxr := hN.rep.2 x hx
  have hxl := hLX x hx
  have hund := NL.under hxl h0 hN hx
  have hxh : ∀ {M : List TN}, NDL w hi x.t x.v M → x.bind.isSome = true → (⟨x.t, x.v⟩ : TN) ∈ M := rep_head
  have hxm : x.bind.isSome = true → x.t ∈ t.binds := fun h => by rw [← hb]; exact List.mem_map_of_mem (List.mem_filter.2 ⟨hx, h⟩)
  obtain ⟨M, hM⟩ := NDL.of_rep hxr
  obtain ⟨xt, xv⟩ := x
  cases xt with
  | lett fr to rc bn bat d b =>
    obtain ⟨v1, v2, ⟨k, _, _, rfl, hk⟩, _⟩ := hxr
    cases rc with
    | false => simp [ownT]
    | true =>
      have hbs : (⟨.lett fr to true bn bat d b, .iface 136 (.pointer (some ⟨k, 0, none⟩))⟩ : TN).bind = some ⟨k, 3, none⟩ := rfl
      have hs : (⟨.lett fr to true bn bat d b, .iface 136 (.pointer (some ⟨k, 0, none⟩))⟩ : TN).bind.isSome = true := rfl
      have hsub := Tw.binds_sub (hxm hs)
      have hu := use_all w hi _ hxl hM (fun s hs => ho.sp s (hsub.2 s hs)) (ho.nd.sublist hsub.1) (hxh hM hs) hbs (fun z => by simp [Tw.BEn.look])
      simp only [ownT, hs, Bool.true_and]
      congr 1
      rw [Bool.eq_iff_iff, List.any_eq_true, decide_eq_true_eq]
      constructor
      · rintro ⟨z, hz, e⟩
        have e : z.nb = y.nb := by simpa using e
        have hzc := NL.block hxl z (List.mem_filter.1 hz).1
        rw [e, hyc] at hzc
        simp at hzc
        have hm : useF z ∈ (usesL ⟨k, 3, none⟩ (LX _)).map useF := List.mem_map_of_mem hz
        rw [hu] at hm
        obtain ⟨f, hf, e2⟩ := List.mem_map.1 hm
        simp only [useG, useF, Prod.mk.injEq] at e2
        have : f = y.fr := by omega
        rw [← this]
        exact hf
      · intro hf
        have hm : useG bn y.fr ∈ (Tw.T.lett fr to true bn bat d b).useS.map (useG bn) := List.mem_map_of_mem hf
        have hu' := hu
        simp only [Tw.T.bname] at hu'
        rw [← hu'] at hm
        obtain ⟨z, hz, e2⟩ := List.mem_map.1 hm
        simp only [useG, useF, Prod.mk.injEq] at e2
        refine ⟨z, hz, ?_⟩
        have hzu := hund (nf z) (List.mem_map_of_mem (List.mem_filter.1 hz).1)
        have : z.nb = y.nb := nf_inj (f := y.fr) h0 ho.nd (by rw [← e2.1]; exact hzu) hy
        simpa using this
  | fn => simp [ownT]
  | _ => simp [ownT, TN.bind]

end Go.Proofs.YtckhafpejefbbaaGreatDoor
