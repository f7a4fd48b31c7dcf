/- Texts of the proof, put together: AltInl2, AltInl3, AltInl4, AltInl5, AltInl6. -/
import Derived.Test.YtckhafpejefbbaaGreatDoorB27

/- alter.definitionCaptured. -/
namespace Go.Proofs.YtckhafpejefbbaaGreatDoor
open Go.RowKit Go.Shelf

attribute [local go_sem] Oper.semAt_some

def capD (x : List UInt8) (LD : List NB) (z : NB) : Bool := decide (z.tx = x) && (freeL LD).any fun y => (z.e.look y.tx).isSome

set_option maxRecDepth 100000 in
set_option maxHeartbeats 4000000 in
theorem definitionCaptured_any {w : World} {hi b : Nat} {c0 c1 c2 c4 : Value} {x : List UInt8} {d bo : Tw.T} {dv bv : Value} {LD LB : List NB} (hb : w.heap[b]? = some (.cells #[c0, c1, c2, bytesV x, c4, dv, bv] 140 (0, 0))) (hd : NL w hi d dv .nil LD) (hbo : NL w hi bo bv .nil LB) :
    Calls Tryz.prog 62 #[.pointer (some ⟨b, 0, none⟩)] w fun r w' => r = .returned (.bool ((freeL LB).any (capD x LD))) ∧ w.grownBy w' none := by
  obtain ⟨T1, m1, rfl⟩ := hbo.iface
  obtain ⟨T2, m2, rfl⟩ := hd.iface
  refine (callsIn_wide (n := 3)).1 ?_
  refine callsIn_of_wp_marks Tryz.func62 rfl trivial ?_
  simp only [Tryz.ntmps62, List.size_toArray, List.length_cons, List.length_nil, Nat.reduceAdd, Nat.reduceSub, Array.replicate_succ, Array.replicate_zero, List.push_toArray, List.append_toArray, List.nil_append, List.cons_append]
  obtain ⟨W0, hW0⟩ : ∃ W0, (w.alloc (.cells #[.pointer (some ⟨b, 0, none⟩)] 136)).alloc (.cells #[.bool false] 4) = W0 := ⟨_, rfl⟩
  have G0 : w.grownBy W0 none := by rw [← hW0]; exact grown_alloc (grown_alloc (grown_refl _) _) _
  have z0 : W0.heap.size = w.heap.size + 2 := by rw [← hW0]; simp
  have l0 : W0.heap[w.heap.size]? = some (.cells #[.pointer (some ⟨b, 0, none⟩)] 136 (0, 0)) := by rw [← hW0]; exact (two_a w _ _).2
  have r0 : W0.heap[w.heap.size + 1]? = some (.cells #[.bool false] 4 (0, 0)) := by rw [← hW0]; exact (two_a w _ _).1
  have cl0 := (one_cell l0).1
  have b0 := (G0.block _ (Array.getElem?_eq_some_iff.1 hb).1 (by simp)).trans hb
  have cb6 : W0.cell? ⟨b, 6, none⟩ = some (.iface T1 (.pointer (some ⟨m1, 0, none⟩))) := by rw [cell_of_row _ _ _ _ _ _ b0]; rfl
  gi_wp2_with fail
  refine ⟨trivial, ?_⟩
  refine (callsIn_wide.2 (Free_any W0 ⟨T1, m1, rfl⟩)).mono ?_
  rintro e1 w3 ⟨rfl, rfl⟩
  gi_wp2_with fail
  obtain ⟨W1, hW1⟩ : ∃ W1, W0.alloc (.cells #[.iface T1 (.pointer (some ⟨m1, 0, none⟩))] 68) = W1 := ⟨_, rfl⟩
  have G1 : W0.grownBy W1 none := by rw [← hW1]; exact World.grownBy_alloc _ _ none
  have z1 : W1.heap.size = w.heap.size + 3 := by rw [← hW1]; simp; omega
  have hne : W1.heap[W0.heap.size]? = some (.cells #[.iface T1 (.pointer (some ⟨m1, 0, none⟩))] 68 (0, 0)) := by rw [← hW1]; exact new_block W0 _
  have l1 := (G1.block _ (Array.getElem?_eq_some_iff.1 l0).1 (by simp)).trans l0
  have r1 := (G1.block _ (Array.getElem?_eq_some_iff.1 r0).1 (by simp)).trans r0
  have g1 := grown_trans G0 G1
  have b1 := (g1.block _ (Array.getElem?_eq_some_iff.1 hb).1 (by simp)).trans hb
  have hn1 := hbo.kp (Kp.of_grown g1)
  have hd1 := hd.kp (Kp.of_grown g1)
  rw [z0] at hne
  rw [hW1]
  clear hW0 hW1 G0 G1 l0 r0 hbo hd cl0 cb6 b0
  refine range_ok2 (p := 10) (q := 11) (d1 := 3) (d2 := 4) rfl (enters_of Tryz.func185 (by kernel_rfl) rfl) (free_ok hne hn1) (fun x => FOk.own x _) (fun h k => h.trans k) kp_b (Below.refl _ _)
    (fun pre X => (∀ z ∈ pre, capD x LD z.1.1 = false) ∧ W1.grownBy X none)
    (fun c pre X => c = .ret ∧ ∃ init z, pre = init ++ [z] ∧ (∀ z ∈ init, capD x LD z.1.1 = false) ∧ capD x LD z.1.1 = true ∧ Set1 W1 (w.heap.size + 1) (.bool true) 4 X) ?own ?ownx ⟨by simp, grown_refl _⟩ ?assign ?body ?done ?stop
  case own =>
    rintro s X Y row ⟨h1, h2⟩ hg hr
    exact ⟨h1, ownFrom_grown (β := Unit) W1 (Nat.le_refl _) () X Y row h2 hg hr⟩
  case ownx =>
    rintro c s X Y row ⟨h0, init, x, h1, h2, h3, h4⟩ hg hr
    exact ⟨h0, init, x, h1, h2, h3, Set1.own (β := Unit) (Nat.le_refl _) (by omega) () X Y row h4 hg hr⟩
  case assign =>
    intro l x X K hK
    simp only [List.setIfInBounds_toArray, List.set_cons_zero, List.set_cons_succ] at hK ⊢
    gi_wp2
    exact hK
  case body =>
    rintro lr pre ⟨⟨z, ev⟩, hxf, hev⟩ X hlr hrec ⟨hpre, hgX⟩ hlt hok
    obtain ⟨a, ha⟩ := id hev
    obtain rfl : ev = .pointer a := ha
    obtain ⟨hbat, hnb⟩ := hok
    dsimp only at hbat hnb
    have lX := (hgX.block _ (Array.getElem?_eq_some_iff.1 l1).1 (by simp)).trans l1
    have bX := (hgX.block _ (Array.getElem?_eq_some_iff.1 b1).1 (by simp)).trans b1
    have rX := (hgX.block _ (Array.getElem?_eq_some_iff.1 r1).1 (by simp)).trans r1
    have cells : ∀ {W : World}, X.grownBy W none → W.cell? ⟨z.nb, 2, none⟩ = some (bytesV z.tx) ∧ W.cell? ⟨w.heap.size, 0, none⟩ = some (.pointer (some ⟨b, 0, none⟩)) ∧ W.cell? ⟨b, 3, none⟩ = some (bytesV x) ∧ W.cell? ⟨b, 5, none⟩ = some (.iface T2 (.pointer (some ⟨m2, 0, none⟩))) := fun {W} hW => by
      have up : ∀ {i : Nat} {ob : Obj}, X.heap[i]? = some ob → W.heap[i]? = some ob := fun {i ob} h => (hW.block i (Array.getElem?_eq_some_iff.1 h).1 (by simp)).trans h
      obtain ⟨_, _, q, _, _, _⟩ := three_cells (up hnb)
      exact ⟨q, (one_cell (up lX)).1, by rw [cell_of_row _ _ _ _ _ _ (up bX)]; rfl, by rw [cell_of_row _ _ _ _ _ _ (up bX)]; rfl⟩
    have CE := hide (fun W => @cells W)
    have HP := hide hpre
    have HG := hide hgX
    have HR := hide rX
    have HBF : Hid (∀ W, X.grownBy W none → Calls Tryz.prog 113 #[.iface T2 (.pointer (some ⟨m2, 0, none⟩)), .pointer a] W fun r w' => r = .returned (.bool ((freeL LD).any fun y => (z.e.look y.tx).isSome)) ∧ W.grownBy w' none) := hide fun W hW => bindsFreeOf_any (hd1.kp (Kp.of_grown (grown_trans hgX hW))) (hbat.grown hW)
    have hmx : Tryz.prog.follows .mixedOrders = true := by kernel_rfl
    have good : capD x LD z = false → Hid (∀ X', X.grownBy X' none → KeepsFrom W1.heap.size X X' ∧ Kp X X' ∧ (∀ y ∈ pre ++ [(⟨(z, .pointer a), hxf, hev⟩ : FIn LB)], capD x LD y.1.1 = false) ∧ W1.grownBy X' none) := fun hc X' hg' =>
      ⟨keepsFrom_grown hg', Kp.of_grown hg', fun y hy => (by
        rcases List.mem_append.1 hy with hy | hy
        · exact unhide HP y hy
        · simp only [List.mem_singleton] at hy
          subst hy
          exact hc), grown_trans (unhide HG) hg'⟩
    simp only [List.setIfInBounds_toArray, List.set_cons_zero, List.set_cons_succ]
    have HN1 := hide hn1
    have HD1 := hide hd1
    have HB1 := hide (And.intro l1 (And.intro b1 r1))
    clear hgX hpre lX bX rX hnb hbat cells hn1 hd1 l1 b1 r1 hb g1 hne
    by_cases h1 : z.tx = x
    · rw [h1] at CE
      obtain ⟨bl, hbl⟩ : ∃ bl, ((freeL LD).any fun y => (z.e.look y.tx).isSome) = bl := ⟨_, rfl⟩
      have hc : capD x LD z = bl := by simp [capD, h1, hbl]
      have HC := hide hc
      rw [hbl] at HBF
      clear h1 hc hbl
      gi_wp2_with fail
      refine region_round lr (fun W => W.cell? ⟨z.nb, 2, none⟩ = some (bytesV x) ∧ W.cell? ⟨w.heap.size, 0, none⟩ = some (.pointer (some ⟨b, 0, none⟩)) ∧ W.cell? ⟨b, 3, none⟩ = some (bytesV x) ∧ W.cell? ⟨b, 5, none⟩ = some (.iface T2 (.pointer (some ⟨m2, 0, none⟩)))) hmx (by kernel_rfl) (unhide CE _ (grown_drew (grown_refl _))) ?_
      intro hSd
      refine wpAnyH_take (i := 0) (oi := { dst := some 12, op := Op.move (Operand.tmp 3), type := 83, pos := "inline.go:67", after := #[], guard := none }) (v := .pointer (some ⟨z.nb, 0, none⟩)) rfl (by kernel_rfl) (by kernel_rfl) (by kernel_rfl) noPanic (Or.inl ⟨by rfl, fun W hSW => by obtain ⟨hs1, hs2, hs3, hs4⟩ := hSW; go_simp⟩) hSd ?_
      simp only [Act.put, List.setIfInBounds_toArray, List.set_cons_zero, List.set_cons_succ]
      refine wpAnyH_take (i := 1) (oi := { dst := some 13, op := Op.nilCheck (Operand.tmp 12), type := 0, pos := "inline.go:67", after := #[{ on := 0, ground := Ground.data }], guard := none }) (v := .pointer (some ⟨z.nb, 0, none⟩)) rfl (by kernel_rfl) (by kernel_rfl) (by kernel_rfl) noPanic (Or.inl ⟨by rfl, fun W hSW => by obtain ⟨hs1, hs2, hs3, hs4⟩ := hSW; go_simp⟩) hSd ?_
      simp only [Act.put, List.setIfInBounds_toArray, List.set_cons_zero, List.set_cons_succ]
      refine wpAnyH_take (i := 2) (oi := { dst := some 14, op := Op.fieldAddr 87 (Operand.tmp 13) 1, type := 0, pos := "inline.go:67", after := #[{ on := 1, ground := Ground.data }], guard := none }) (v := .pointer (some ⟨z.nb, 2, none⟩)) rfl (by kernel_rfl) (by kernel_rfl) (by kernel_rfl) noPanic (Or.inl ⟨by rfl, fun W hSW => by obtain ⟨hs1, hs2, hs3, hs4⟩ := hSW; go_simp⟩) hSd ?_
      simp only [Act.put, List.setIfInBounds_toArray, List.set_cons_zero, List.set_cons_succ]
      refine wpAnyH_take (i := 3) (oi := { dst := some 15, op := Op.load 9 (Operand.tmp 14), type := 9, pos := "inline.go:67", after := #[{ on := 2, ground := Ground.data }], guard := none }) (v := bytesV x) rfl (by kernel_rfl) (by kernel_rfl) (by kernel_rfl) noPanic (Or.inl ⟨by rfl, fun W hSW => by obtain ⟨hs1, hs2, hs3, hs4⟩ := hSW; go_simp⟩) hSd ?_
      simp only [Act.put, List.setIfInBounds_toArray, List.set_cons_zero, List.set_cons_succ]
      refine wpAnyH_take (i := 4) (oi := { dst := some 16, op := Op.load 136 (Operand.tmp 1), type := 136, pos := "inline.go:67", after := #[], guard := none }) (v := .pointer (some ⟨b, 0, none⟩)) rfl (by kernel_rfl) (by kernel_rfl) (by kernel_rfl) noPanic (Or.inl ⟨by rfl, fun W hSW => by obtain ⟨hs1, hs2, hs3, hs4⟩ := hSW; go_simp⟩) hSd ?_
      simp only [Act.put, List.setIfInBounds_toArray, List.set_cons_zero, List.set_cons_succ]
      refine wpAnyH_take (i := 5) (oi := { dst := some 17, op := Op.nilCheck (Operand.tmp 16), type := 0, pos := "inline.go:67", after := #[{ on := 4, ground := Ground.data }], guard := none }) (v := .pointer (some ⟨b, 0, none⟩)) rfl (by kernel_rfl) (by kernel_rfl) (by kernel_rfl) noPanic (Or.inl ⟨by rfl, fun W hSW => by obtain ⟨hs1, hs2, hs3, hs4⟩ := hSW; go_simp⟩) hSd ?_
      simp only [Act.put, List.setIfInBounds_toArray, List.set_cons_zero, List.set_cons_succ]
      refine wpAnyH_take (i := 6) (oi := { dst := some 18, op := Op.fieldAddr 140 (Operand.tmp 17) 2, type := 0, pos := "inline.go:67", after := #[{ on := 5, ground := Ground.data }], guard := none }) (v := .pointer (some ⟨b, 3, none⟩)) rfl (by kernel_rfl) (by kernel_rfl) (by kernel_rfl) noPanic (Or.inl ⟨by rfl, fun W hSW => by obtain ⟨hs1, hs2, hs3, hs4⟩ := hSW; go_simp⟩) hSd ?_
      simp only [Act.put, List.setIfInBounds_toArray, List.set_cons_zero, List.set_cons_succ]
      refine wpAnyH_take (i := 7) (oi := { dst := some 19, op := Op.fieldAddr 89 (Operand.tmp 18) 0, type := 0, pos := "inline.go:67", after := #[{ on := 6, ground := Ground.data }], guard := none }) (v := .pointer (some ⟨b, 3, none⟩)) rfl (by kernel_rfl) (by kernel_rfl) (by kernel_rfl) noPanic (Or.inl ⟨by rfl, fun W hSW => by obtain ⟨hs1, hs2, hs3, hs4⟩ := hSW; go_simp⟩) hSd ?_
      simp only [Act.put, List.setIfInBounds_toArray, List.set_cons_zero, List.set_cons_succ]
      refine wpAnyH_take (i := 8) (oi := { dst := some 20, op := Op.load 9 (Operand.tmp 19), type := 9, pos := "inline.go:67", after := #[{ on := 7, ground := Ground.data }], guard := none }) (v := bytesV x) rfl (by kernel_rfl) (by kernel_rfl) (by kernel_rfl) noPanic (Or.inl ⟨by rfl, fun W hSW => by obtain ⟨hs1, hs2, hs3, hs4⟩ := hSW; go_simp⟩) hSd ?_
      simp only [Act.put, List.setIfInBounds_toArray, List.set_cons_zero, List.set_cons_succ]
      refine wpAnyH_take (i := 9) (oi := { dst := some 21, op := Op.binOp BinOp.eql 9 (Operand.tmp 15) (Operand.tmp 20) 9, type := 4, pos := "inline.go:67", after := #[{ on := 3, ground := Ground.data }, { on := 8, ground := Ground.data }], guard := none }) (v := .bool true) rfl (by kernel_rfl) (by kernel_rfl) (by kernel_rfl) noPanic (Or.inl ⟨by rfl, fun W hSW => by obtain ⟨hs1, hs2, hs3, hs4⟩ := hSW; go_simp⟩) hSd ?_
      simp only [Act.put, List.setIfInBounds_toArray, List.set_cons_zero, List.set_cons_succ]
      refine wpAnyH_take (i := 10) (oi := { dst := some 22, op := Op.move (Operand.tmp 21), type := 4, pos := "inline.go:67", after := #[{ on := 9, ground := Ground.data }], guard := none }) (v := .bool true) rfl (by kernel_rfl) (by kernel_rfl) (by kernel_rfl) noPanic (Or.inl ⟨by rfl, fun W hSW => by obtain ⟨hs1, hs2, hs3, hs4⟩ := hSW; go_simp⟩) hSd ?_
      simp only [Act.put, List.setIfInBounds_toArray, List.set_cons_zero, List.set_cons_succ]
      refine wpAnyH_take (i := 11) (oi := { dst := some 23, op := Op.load 136 (Operand.tmp 1), type := 136, pos := "inline.go:67", after := #[{ on := 10, ground := Ground.guard }], guard := some (10, true) }) (v := .pointer (some ⟨b, 0, none⟩)) rfl (by kernel_rfl) (by kernel_rfl) (by kernel_rfl) noPanic (Or.inl ⟨by rfl, fun W hSW => by obtain ⟨hs1, hs2, hs3, hs4⟩ := hSW; go_simp⟩) hSd ?_
      simp only [Act.put, List.setIfInBounds_toArray, List.set_cons_zero, List.set_cons_succ]
      refine wpAnyH_take (i := 12) (oi := { dst := some 24, op := Op.nilCheck (Operand.tmp 23), type := 0, pos := "inline.go:67", after := #[{ on := 11, ground := Ground.data }, { on := 10, ground := Ground.guard }], guard := some (10, true) }) (v := .pointer (some ⟨b, 0, none⟩)) rfl (by kernel_rfl) (by kernel_rfl) (by kernel_rfl) noPanic (Or.inl ⟨by rfl, fun W hSW => by obtain ⟨hs1, hs2, hs3, hs4⟩ := hSW; go_simp⟩) hSd ?_
      simp only [Act.put, List.setIfInBounds_toArray, List.set_cons_zero, List.set_cons_succ]
      refine wpAnyH_take (i := 13) (oi := { dst := some 25, op := Op.fieldAddr 140 (Operand.tmp 24) 3, type := 0, pos := "inline.go:67", after := #[{ on := 12, ground := Ground.data }, { on := 10, ground := Ground.guard }], guard := some (10, true) }) (v := .pointer (some ⟨b, 5, none⟩)) rfl (by kernel_rfl) (by kernel_rfl) (by kernel_rfl) noPanic (Or.inl ⟨by rfl, fun W hSW => by obtain ⟨hs1, hs2, hs3, hs4⟩ := hSW; go_simp⟩) hSd ?_
      simp only [Act.put, List.setIfInBounds_toArray, List.set_cons_zero, List.set_cons_succ]
      refine wpAnyH_take (i := 14) (oi := { dst := some 26, op := Op.load 68 (Operand.tmp 25), type := 68, pos := "inline.go:67", after := #[{ on := 13, ground := Ground.data }, { on := 10, ground := Ground.guard }], guard := some (10, true) }) (v := .iface T2 (.pointer (some ⟨m2, 0, none⟩))) rfl (by kernel_rfl) (by kernel_rfl) (by kernel_rfl) noPanic (Or.inl ⟨by rfl, fun W hSW => by obtain ⟨hs1, hs2, hs3, hs4⟩ := hSW; go_simp⟩) hSd ?_
      simp only [Act.put, List.setIfInBounds_toArray, List.set_cons_zero, List.set_cons_succ]
      refine wpAnyH_take (i := 15) (oi := { dst := some 27, op := Op.move (Operand.tmp 4), type := 184, pos := "inline.go:67", after := #[{ on := 10, ground := Ground.guard }], guard := some (10, true) }) (v := .pointer a) rfl (by kernel_rfl) (by kernel_rfl) (by kernel_rfl) noPanic (Or.inl ⟨by rfl, fun W hSW => by obtain ⟨hs1, hs2, hs3, hs4⟩ := hSW; go_simp⟩) hSd ?_
      simp only [Act.put, List.setIfInBounds_toArray, List.set_cons_zero, List.set_cons_succ]
      refine wpAnyH_ready (rs := [16]) (by kernel_rfl) (by simp) ?_
      refine AllReadyH.cons (o := { dst := some 28, op := Op.call { callee := Callee.value (Operand.func 113), args := #[Operand.tmp 26, Operand.tmp 27], argTypes := #[68, 184] }, type := 4, pos := "inline.go:67", after := #[{ on := 14, ground := Ground.data }, { on := 15, ground := Ground.data }, { on := 10, ground := Ground.chain }, { on := 10, ground := Ground.guard }], guard := some (10, true) }) rfl (fun K hK => ?_) AllReadyH.nil
      go_simp
      refine (unhide HBF _ (grown_drew (grown_refl _))).mono ?_
      rintro e1 X2 ⟨rfl, hg2⟩
      have G2 := hide (grown_trans (grown_drew (grown_refl X)) hg2)
      refine hK.out _ _ (unhide CE _ G2.out) (fun hSd => ?_)
      clear hK K hg2
      refine wpAnyH_take (i := 17) (oi := { dst := some 29, op := Op.pick (Operand.tmp 22) (Operand.tmp 28) (Operand.const (Value.bool false)), type := 4, pos := "inline.go:67", after := #[{ on := 10, ground := Ground.data }, { on := 16, ground := Ground.data }], guard := none }) (v := .bool bl) rfl (by kernel_rfl) (by kernel_rfl) (by kernel_rfl) noPanic (Or.inl ⟨by rfl, fun W hSW => by go_simp⟩) hSd ?_
      simp only [Act.put, List.setIfInBounds_toArray, List.set_cons_zero, List.set_cons_succ]
      refine wpAnyH_done (by kernel_rfl) ⟨rfl, ?_⟩ _
      have rX2 := (G2.out.block _ (Array.getElem?_eq_some_iff.1 (unhide HR)).1 (by simp)).trans (unhide HR)
      obtain ⟨cr, fr⟩ := one_cell rX2
      cases bl with
      | true =>
        clear good
        gi_wp2_with fail
        exact ⟨keepsFrom_trans (keepsFrom_grown G2.out) (keepsFrom_cell _ _ _), rfl, pre, _, rfl, unhide HP, unhide HC, Set1.of_set (grown_trans (unhide HG) G2.out) rX2 _⟩
      | false =>
        have GD := good (unhide HC)
        clear good
        gi_wp2_with fail
        exact GD.out _ G2.out
    · have e1 : (z.tx == x) = false := by simpa using h1
      have hc : capD x LD z = false := by simp [capD, h1]
      have GD := good hc
      clear h1 hc good HBF
      gi_wp2_with fail
      refine region_round lr (fun W => W.cell? ⟨z.nb, 2, none⟩ = some (bytesV z.tx) ∧ W.cell? ⟨w.heap.size, 0, none⟩ = some (.pointer (some ⟨b, 0, none⟩)) ∧ W.cell? ⟨b, 3, none⟩ = some (bytesV x) ∧ W.cell? ⟨b, 5, none⟩ = some (.iface T2 (.pointer (some ⟨m2, 0, none⟩)))) hmx (by kernel_rfl) (unhide CE _ (grown_drew (grown_refl _))) ?_
      intro hSd
      refine wpAnyH_take (i := 0) (oi := { dst := some 12, op := Op.move (Operand.tmp 3), type := 83, pos := "inline.go:67", after := #[], guard := none }) (v := .pointer (some ⟨z.nb, 0, none⟩)) rfl (by kernel_rfl) (by kernel_rfl) (by kernel_rfl) noPanic (Or.inl ⟨by rfl, fun W hSW => by obtain ⟨hs1, hs2, hs3, hs4⟩ := hSW; go_simp⟩) hSd ?_
      simp only [Act.put, List.setIfInBounds_toArray, List.set_cons_zero, List.set_cons_succ]
      refine wpAnyH_take (i := 1) (oi := { dst := some 13, op := Op.nilCheck (Operand.tmp 12), type := 0, pos := "inline.go:67", after := #[{ on := 0, ground := Ground.data }], guard := none }) (v := .pointer (some ⟨z.nb, 0, none⟩)) rfl (by kernel_rfl) (by kernel_rfl) (by kernel_rfl) noPanic (Or.inl ⟨by rfl, fun W hSW => by obtain ⟨hs1, hs2, hs3, hs4⟩ := hSW; go_simp⟩) hSd ?_
      simp only [Act.put, List.setIfInBounds_toArray, List.set_cons_zero, List.set_cons_succ]
      refine wpAnyH_take (i := 2) (oi := { dst := some 14, op := Op.fieldAddr 87 (Operand.tmp 13) 1, type := 0, pos := "inline.go:67", after := #[{ on := 1, ground := Ground.data }], guard := none }) (v := .pointer (some ⟨z.nb, 2, none⟩)) rfl (by kernel_rfl) (by kernel_rfl) (by kernel_rfl) noPanic (Or.inl ⟨by rfl, fun W hSW => by obtain ⟨hs1, hs2, hs3, hs4⟩ := hSW; go_simp⟩) hSd ?_
      simp only [Act.put, List.setIfInBounds_toArray, List.set_cons_zero, List.set_cons_succ]
      refine wpAnyH_take (i := 3) (oi := { dst := some 15, op := Op.load 9 (Operand.tmp 14), type := 9, pos := "inline.go:67", after := #[{ on := 2, ground := Ground.data }], guard := none }) (v := bytesV z.tx) rfl (by kernel_rfl) (by kernel_rfl) (by kernel_rfl) noPanic (Or.inl ⟨by rfl, fun W hSW => by obtain ⟨hs1, hs2, hs3, hs4⟩ := hSW; go_simp⟩) hSd ?_
      simp only [Act.put, List.setIfInBounds_toArray, List.set_cons_zero, List.set_cons_succ]
      refine wpAnyH_take (i := 4) (oi := { dst := some 16, op := Op.load 136 (Operand.tmp 1), type := 136, pos := "inline.go:67", after := #[], guard := none }) (v := .pointer (some ⟨b, 0, none⟩)) rfl (by kernel_rfl) (by kernel_rfl) (by kernel_rfl) noPanic (Or.inl ⟨by rfl, fun W hSW => by obtain ⟨hs1, hs2, hs3, hs4⟩ := hSW; go_simp⟩) hSd ?_
      simp only [Act.put, List.setIfInBounds_toArray, List.set_cons_zero, List.set_cons_succ]
      refine wpAnyH_take (i := 5) (oi := { dst := some 17, op := Op.nilCheck (Operand.tmp 16), type := 0, pos := "inline.go:67", after := #[{ on := 4, ground := Ground.data }], guard := none }) (v := .pointer (some ⟨b, 0, none⟩)) rfl (by kernel_rfl) (by kernel_rfl) (by kernel_rfl) noPanic (Or.inl ⟨by rfl, fun W hSW => by obtain ⟨hs1, hs2, hs3, hs4⟩ := hSW; go_simp⟩) hSd ?_
      simp only [Act.put, List.setIfInBounds_toArray, List.set_cons_zero, List.set_cons_succ]
      refine wpAnyH_take (i := 6) (oi := { dst := some 18, op := Op.fieldAddr 140 (Operand.tmp 17) 2, type := 0, pos := "inline.go:67", after := #[{ on := 5, ground := Ground.data }], guard := none }) (v := .pointer (some ⟨b, 3, none⟩)) rfl (by kernel_rfl) (by kernel_rfl) (by kernel_rfl) noPanic (Or.inl ⟨by rfl, fun W hSW => by obtain ⟨hs1, hs2, hs3, hs4⟩ := hSW; go_simp⟩) hSd ?_
      simp only [Act.put, List.setIfInBounds_toArray, List.set_cons_zero, List.set_cons_succ]
      refine wpAnyH_take (i := 7) (oi := { dst := some 19, op := Op.fieldAddr 89 (Operand.tmp 18) 0, type := 0, pos := "inline.go:67", after := #[{ on := 6, ground := Ground.data }], guard := none }) (v := .pointer (some ⟨b, 3, none⟩)) rfl (by kernel_rfl) (by kernel_rfl) (by kernel_rfl) noPanic (Or.inl ⟨by rfl, fun W hSW => by obtain ⟨hs1, hs2, hs3, hs4⟩ := hSW; go_simp⟩) hSd ?_
      simp only [Act.put, List.setIfInBounds_toArray, List.set_cons_zero, List.set_cons_succ]
      refine wpAnyH_take (i := 8) (oi := { dst := some 20, op := Op.load 9 (Operand.tmp 19), type := 9, pos := "inline.go:67", after := #[{ on := 7, ground := Ground.data }], guard := none }) (v := bytesV x) rfl (by kernel_rfl) (by kernel_rfl) (by kernel_rfl) noPanic (Or.inl ⟨by rfl, fun W hSW => by obtain ⟨hs1, hs2, hs3, hs4⟩ := hSW; go_simp⟩) hSd ?_
      simp only [Act.put, List.setIfInBounds_toArray, List.set_cons_zero, List.set_cons_succ]
      refine wpAnyH_take (i := 9) (oi := { dst := some 21, op := Op.binOp BinOp.eql 9 (Operand.tmp 15) (Operand.tmp 20) 9, type := 4, pos := "inline.go:67", after := #[{ on := 3, ground := Ground.data }, { on := 8, ground := Ground.data }], guard := none }) (v := .bool false) rfl (by kernel_rfl) (by kernel_rfl) (by kernel_rfl) noPanic (Or.inl ⟨by rfl, fun W hSW => by obtain ⟨hs1, hs2, hs3, hs4⟩ := hSW; go_simp⟩) hSd ?_
      simp only [Act.put, List.setIfInBounds_toArray, List.set_cons_zero, List.set_cons_succ]
      refine wpAnyH_take (i := 10) (oi := { dst := some 22, op := Op.move (Operand.tmp 21), type := 4, pos := "inline.go:67", after := #[{ on := 9, ground := Ground.data }], guard := none }) (v := .bool false) rfl (by kernel_rfl) (by kernel_rfl) (by kernel_rfl) noPanic (Or.inl ⟨by rfl, fun W hSW => by obtain ⟨hs1, hs2, hs3, hs4⟩ := hSW; go_simp⟩) hSd ?_
      simp only [Act.put, List.setIfInBounds_toArray, List.set_cons_zero, List.set_cons_succ]
      refine wpAnyH_take (i := 11) (oi := { dst := some 23, op := Op.load 136 (Operand.tmp 1), type := 136, pos := "inline.go:67", after := #[{ on := 10, ground := Ground.guard }], guard := some (10, true) }) (v := undef) rfl (by kernel_rfl) (by kernel_rfl) (by kernel_rfl) noPanic (Or.inr ⟨by rfl, rfl⟩) hSd ?_
      simp only [Act.put, List.setIfInBounds_toArray, List.set_cons_zero, List.set_cons_succ]
      refine wpAnyH_take (i := 12) (oi := { dst := some 24, op := Op.nilCheck (Operand.tmp 23), type := 0, pos := "inline.go:67", after := #[{ on := 11, ground := Ground.data }, { on := 10, ground := Ground.guard }], guard := some (10, true) }) (v := undef) rfl (by kernel_rfl) (by kernel_rfl) (by kernel_rfl) noPanic (Or.inr ⟨by rfl, rfl⟩) hSd ?_
      simp only [Act.put, List.setIfInBounds_toArray, List.set_cons_zero, List.set_cons_succ]
      refine wpAnyH_take (i := 13) (oi := { dst := some 25, op := Op.fieldAddr 140 (Operand.tmp 24) 3, type := 0, pos := "inline.go:67", after := #[{ on := 12, ground := Ground.data }, { on := 10, ground := Ground.guard }], guard := some (10, true) }) (v := undef) rfl (by kernel_rfl) (by kernel_rfl) (by kernel_rfl) noPanic (Or.inr ⟨by rfl, rfl⟩) hSd ?_
      simp only [Act.put, List.setIfInBounds_toArray, List.set_cons_zero, List.set_cons_succ]
      refine wpAnyH_take (i := 14) (oi := { dst := some 26, op := Op.load 68 (Operand.tmp 25), type := 68, pos := "inline.go:67", after := #[{ on := 13, ground := Ground.data }, { on := 10, ground := Ground.guard }], guard := some (10, true) }) (v := undef) rfl (by kernel_rfl) (by kernel_rfl) (by kernel_rfl) noPanic (Or.inr ⟨by rfl, rfl⟩) hSd ?_
      simp only [Act.put, List.setIfInBounds_toArray, List.set_cons_zero, List.set_cons_succ]
      refine wpAnyH_take (i := 15) (oi := { dst := some 27, op := Op.move (Operand.tmp 4), type := 184, pos := "inline.go:67", after := #[{ on := 10, ground := Ground.guard }], guard := some (10, true) }) (v := undef) rfl (by kernel_rfl) (by kernel_rfl) (by kernel_rfl) noPanic (Or.inr ⟨by rfl, rfl⟩) hSd ?_
      simp only [Act.put, List.setIfInBounds_toArray, List.set_cons_zero, List.set_cons_succ]
      refine wpAnyH_take (i := 16) (oi := { dst := some 28, op := Op.call { callee := Callee.value (Operand.func 113), args := #[Operand.tmp 26, Operand.tmp 27], argTypes := #[68, 184] }, type := 4, pos := "inline.go:67", after := #[{ on := 14, ground := Ground.data }, { on := 15, ground := Ground.data }, { on := 10, ground := Ground.chain }, { on := 10, ground := Ground.guard }], guard := some (10, true) }) (v := undef) rfl (by kernel_rfl) (by kernel_rfl) (by kernel_rfl) noPanic (Or.inr ⟨by rfl, rfl⟩) hSd ?_
      simp only [Act.put, List.setIfInBounds_toArray, List.set_cons_zero, List.set_cons_succ]
      refine wpAnyH_take (i := 17) (oi := { dst := some 29, op := Op.pick (Operand.tmp 22) (Operand.tmp 28) (Operand.const (Value.bool false)), type := 4, pos := "inline.go:67", after := #[{ on := 10, ground := Ground.data }, { on := 16, ground := Ground.data }], guard := none }) (v := .bool false) rfl (by kernel_rfl) (by kernel_rfl) (by kernel_rfl) noPanic (Or.inl ⟨by rfl, fun W hSW => by obtain ⟨hs1, hs2, hs3, hs4⟩ := hSW; go_simp⟩) hSd ?_
      simp only [Act.put, List.setIfInBounds_toArray, List.set_cons_zero, List.set_cons_succ]
      refine wpAnyH_done (by kernel_rfl) ⟨rfl, ?_⟩ _
      gi_wp2_with fail
      exact GD.out _ (grown_drew (grown_refl _))
  case done =>
    rintro D xs X hD hxs ⟨hpre, hg⟩ hK
    have rX := (hg.block _ (Array.getElem?_eq_some_iff.1 r1).1 (by simp)).trans r1
    obtain ⟨cr, fr⟩ := one_cell rX
    gi_wp2_with fail
    have st := Set1.of_set hg rX (.bool false)
    have hK2 : (X.setCell ⟨w.heap.size + 1, 0, none⟩ (.bool false)).heap[D]? = some (.deferred (some [])) := (keepsFrom_cell (B := 0) X _ _).same D _ (Nat.zero_le _) hK rfl
    refine ⟨by simp, .inl ⟨_, _, rfl, run_takeDeferred hK2, ?_⟩⟩
    have st' := Set1.own (β := Unit) (Nat.le_refl _) (by omega) () _ _ (some D) st (grownBy_putObj' _ D (.deferred none)) (fun r e => by cases e; exact ⟨by omega, _, hK2, rfl⟩)
    obtain ⟨e0, _⟩ := one_cell st'.res
    refine ⟨.bool false, by simp [results, Tryz.results62, go_sem, e0], ?_, ?_⟩
    · have : (freeL LB).any (capD x LD) = false := by
        rw [List.any_eq_false]
        intro z hz
        rw [← hxs] at hz
        obtain ⟨y, hy, rfl⟩ := List.mem_map.1 hz
        rw [hpre y hy]
        simp
      rw [this]
    · refine ⟨st'.os.trans g1.os, st'.tape.trans g1.tape, st'.output.trans g1.output, by have := st'.size; omega, fun k hk _ => (st'.old k (by omega) (by omega)).trans (g1.block k hk (by simp))⟩
  case stop =>
    rintro D c pre X hD hpre ⟨rfl, init, z, h1, h2, h3, h4⟩ hK
    gi_wp2_with fail
    refine ⟨by simp, .inl ⟨_, _, rfl, run_takeDeferred hK, ?_⟩⟩
    have st' := Set1.own (β := Unit) (Nat.le_refl _) (by omega) () _ _ (some D) h4 (grownBy_putObj' _ D (.deferred none)) (fun r e => by cases e; exact ⟨by omega, _, hK, rfl⟩)
    obtain ⟨e0, _⟩ := one_cell st'.res
    refine ⟨.bool true, by simp [results, Tryz.results62, go_sem, e0], ?_, ?_⟩
    · have : (freeL LB).any (capD x LD) = true := by
        rw [List.any_eq_true]
        exact ⟨z.1.1, hpre.subset (by rw [h1]; simp), h3⟩
      rw [this]
    · refine ⟨st'.os.trans g1.os, st'.tape.trans g1.tape, st'.output.trans g1.output, by have := st'.size; omega, fun k hk _ => (st'.old k (by omega) (by omega)).trans (g1.block k hk (by simp))⟩

end Go.Proofs.YtckhafpejefbbaaGreatDoor

/- alter.isUse. -/
namespace Go.Proofs.YtckhafpejefbbaaGreatDoor
open Go.RowKit Go.Shelf

attribute [local go_sem] Oper.semAt_some

set_option maxRecDepth 100000 in
set_option maxHeartbeats 4000000 in
theorem isUse_any {w : World} {hi b nm : Nat} {n : Tw.T} {L : List NB} {cN : Array Value} {cL : Array Value} (hb : w.heap[b]? = some (.cells cL 140 (0, 0))) (hn : NL w hi n (.iface 136 (.pointer (some ⟨b, 0, none⟩))) .nil L) (hnm : w.heap[nm]? = some (.cells cN 87 (0, 0))) :
    Calls Tryz.prog 184 #[.pointer (some ⟨nm, 0, none⟩), .pointer (some ⟨b, 0, none⟩)] w fun r w' => r = .returned (.bool ((usesL ⟨b, 3, none⟩ L).any fun y => decide (y.nb = nm))) ∧ w.grownBy w' none := by
  refine (callsIn_wide (n := 3)).1 ?_
  refine callsIn_of_wp_marks Tryz.func184 rfl trivial ?_
  simp only [Tryz.ntmps184, List.size_toArray, List.length_cons, List.length_nil, Nat.reduceAdd, Nat.reduceSub, Array.replicate_succ, Array.replicate_zero, List.push_toArray, List.append_toArray, List.nil_append, List.cons_append]
  obtain ⟨W0, hW0⟩ : ∃ W0, (w.alloc (.cells #[.pointer (some ⟨nm, 0, none⟩)] 83)).alloc (.cells #[.bool false] 4) = W0 := ⟨_, rfl⟩
  have G0 : w.grownBy W0 none := by rw [← hW0]; exact grown_alloc (grown_alloc (grown_refl _) _) _
  have z0 : W0.heap.size = w.heap.size + 2 := by rw [← hW0]; simp
  have l0 : W0.heap[w.heap.size]? = some (.cells #[.pointer (some ⟨nm, 0, none⟩)] 83 (0, 0)) := by rw [← hW0]; exact (two_a w _ _).2
  have r0 : W0.heap[w.heap.size + 1]? = some (.cells #[.bool false] 4 (0, 0)) := by rw [← hW0]; exact (two_a w _ _).1
  gi_wp2_with fail
  refine ⟨trivial, ?_⟩
  refine (callsIn_wide.2 (Uses_any W0 ⟨_, _, rfl⟩ ⟨b, 3, none⟩)).mono ?_
  rintro e1 w3 ⟨rfl, rfl⟩
  gi_wp2_with fail
  obtain ⟨W1, hW1⟩ : ∃ W1, (W0.alloc (.cells #[.iface 136 (.pointer (some ⟨b, 0, none⟩))] 68)).alloc (.cells #[.pointer (some ⟨b, 3, none⟩)] 79) = W1 := ⟨_, rfl⟩
  have G1 : W0.grownBy W1 none := by rw [← hW1]; exact grown_alloc (grown_alloc (grown_refl _) _) _
  have z1 : W1.heap.size = w.heap.size + 4 := by rw [← hW1]; simp; omega
  have r4 : W1.heap[W0.heap.size]? = some (.cells #[.iface 136 (.pointer (some ⟨b, 0, none⟩))] 68 (0, 0)) := by rw [← hW1]; exact (two_a W0 _ _).2
  have s4 : W1.heap[W0.heap.size + 1]? = some (.cells #[.pointer (some ⟨b, 3, none⟩)] 79 (0, 0)) := by rw [← hW1]; exact (two_a W0 _ _).1
  have l1 := (G1.block _ (Array.getElem?_eq_some_iff.1 l0).1 (by simp)).trans l0
  have r1 := (G1.block _ (Array.getElem?_eq_some_iff.1 r0).1 (by simp)).trans r0
  have g1 := grown_trans G0 G1
  have n1 := (g1.block _ (Array.getElem?_eq_some_iff.1 hnm).1 (by simp)).trans hnm
  have b1 := (g1.block _ (Array.getElem?_eq_some_iff.1 hb).1 (by simp)).trans hb
  have hn1 := hn.kp (Kp.of_grown g1)
  have blk1 : BinBlk W1 ⟨b, 3, none⟩ := ⟨_, _, b1, by decide⟩
  have hcells := fun z hz => NL.block hn1 z hz
  have HCE := hide hcells
  rw [z0] at r4 s4
  rw [hW1]
  clear hW0 hW1 G0 G1 l0 r0 hn hb hnm hcells b1
  refine range_o1 (p := 12) (d1 := 5) rfl (enters_of Tryz.func59 (by kernel_rfl) rfl) (uses_o r4 s4 hn1 blk1) (fun h k => h.trans k) kp_b (Below.refl _ _)
    (fun pre X => (∀ z ∈ pre, decide (z.1.nb = nm) = false) ∧ W1.grownBy X none)
    (fun c pre X => c = .ret ∧ ∃ init z, pre = init ++ [z] ∧ (∀ z ∈ init, decide (z.1.nb = nm) = false) ∧ decide (z.1.nb = nm) = true ∧ Set1 W1 (w.heap.size + 1) (.bool true) 4 X) ?own ?ownx ⟨by simp, grown_refl _⟩ ?assign ?body ?done ?stop
  case own =>
    rintro s X Y row ⟨h1, h2⟩ hg hr
    exact ⟨h1, ownFrom_grown (β := Unit) W1 (Nat.le_refl _) () X Y row h2 hg hr⟩
  case ownx =>
    rintro c s X Y row ⟨h0, init, x, h1, h2, h3, h4⟩ hg hr
    exact ⟨h0, init, x, h1, h2, h3, Set1.own (β := Unit) (Nat.le_refl _) (by omega) () X Y row h4 hg hr⟩
  case assign =>
    intro l x X K hK
    simp only [List.setIfInBounds_toArray, List.set_cons_zero, List.set_cons_succ] at hK ⊢
    gi_wp2
    exact hK
  case body =>
    rintro lr pre ⟨z, hz⟩ X hlr hrec ⟨hpre, hgX⟩ hlt
    have zX := (hgX.block _ (Array.getElem?_eq_some_iff.1 (unhide HCE z (List.mem_filter.1 hz).1)).1 (by simp)).trans (unhide HCE z (List.mem_filter.1 hz).1)
    have nX := (hgX.block _ (Array.getElem?_eq_some_iff.1 n1).1 (by simp)).trans n1
    have lX := (hgX.block _ (Array.getElem?_eq_some_iff.1 l1).1 (by simp)).trans l1
    have rX := (hgX.block _ (Array.getElem?_eq_some_iff.1 r1).1 (by simp)).trans r1
    have cl := (one_cell lX).1
    obtain ⟨cr, fr⟩ := one_cell rX
    have HR := hide rX
    have HP := hide hpre
    have HG := hide hgX
    simp only [List.setIfInBounds_toArray, List.set_cons_zero, List.set_cons_succ]
    by_cases hk : z.nb = nm
    · have hq := eql_ptr_same X u_name i_name ⟨nm, 0, none⟩
      rw [hk]
      clear hgX hpre lX rX nX zX
      gi_wp2
      exact ⟨keepsFrom_cell _ _ _, rfl, pre, _, rfl, unhide HP, by simp [hk], Set1.of_set (unhide HG) (unhide HR) _⟩
    · have hq := eql_ptr_other X u_name i_name (by decide) (a := ⟨z.nb, 0, none⟩) (b := ⟨nm, 0, none⟩) (fun e => hk (by cases e; rfl)) zX nX
      clear hgX hpre lX rX nX zX
      gi_wp2
      exact ⟨KeepsFrom.refl _ _, Kp.refl _, fun y hy => (by
        rcases List.mem_append.1 hy with hy | hy
        · exact unhide HP y hy
        · simp only [List.mem_singleton] at hy
          subst hy
          simp [hk]), unhide HG⟩
  case done =>
    rintro D xs X hD hxs ⟨hpre, hg⟩ hK
    have rX := (hg.block _ (Array.getElem?_eq_some_iff.1 r1).1 (by simp)).trans r1
    obtain ⟨cr, fr⟩ := one_cell rX
    gi_wp2_with fail
    have st := Set1.of_set hg rX (.bool false)
    have hK2 : (X.setCell ⟨w.heap.size + 1, 0, none⟩ (.bool false)).heap[D]? = some (.deferred (some [])) := (keepsFrom_cell (B := 0) X _ _).same D _ (Nat.zero_le _) hK rfl
    refine ⟨by simp, .inl ⟨_, _, rfl, run_takeDeferred hK2, ?_⟩⟩
    have st' := Set1.own (β := Unit) (Nat.le_refl _) (by omega) () _ _ (some D) st (grownBy_putObj' _ D (.deferred none)) (fun r e => by cases e; exact ⟨by omega, _, hK2, rfl⟩)
    obtain ⟨e0, _⟩ := one_cell st'.res
    refine ⟨.bool false, by simp [results, Tryz.results184, go_sem, e0], ?_, ?_⟩
    · have : ((usesL ⟨b, 3, none⟩ L).any fun y => decide (y.nb = nm)) = false := by
        rw [List.any_eq_false]
        intro z hz
        rw [← hxs] at hz
        obtain ⟨y, hy, rfl⟩ := List.mem_map.1 hz
        rw [hpre y hy]
        simp
      rw [this]
    · refine ⟨st'.os.trans g1.os, st'.tape.trans g1.tape, st'.output.trans g1.output, by have := st'.size; omega, fun k hk _ => (st'.old k (by omega) (by omega)).trans (g1.block k hk (by simp))⟩
  case stop =>
    rintro D c pre X hD hpre ⟨rfl, init, z, h1, h2, h3, h4⟩ hK
    gi_wp2_with fail
    refine ⟨by simp, .inl ⟨_, _, rfl, run_takeDeferred hK, ?_⟩⟩
    have st' := Set1.own (β := Unit) (Nat.le_refl _) (by omega) () _ _ (some D) h4 (grownBy_putObj' _ D (.deferred none)) (fun r e => by cases e; exact ⟨by omega, _, hK, rfl⟩)
    obtain ⟨e0, _⟩ := one_cell st'.res
    refine ⟨.bool true, by simp [results, Tryz.results184, go_sem, e0], ?_, ?_⟩
    · have : ((usesL ⟨b, 3, none⟩ L).any fun y => decide (y.nb = nm)) = true := by
        rw [List.any_eq_true]
        exact ⟨z.1, hpre.subset (by rw [h1]; simp), h3⟩
      rw [this]
    · refine ⟨st'.os.trans g1.os, st'.tape.trans g1.tape, st'.output.trans g1.output, by have := st'.size; omega, fun k hk _ => (st'.old k (by omega) (by omega)).trans (g1.block k hk (by simp))⟩

end Go.Proofs.YtckhafpejefbbaaGreatDoor

/- alter.inOwnDefinition. -/
namespace Go.Proofs.YtckhafpejefbbaaGreatDoor
open Go.RowKit Go.Shelf

attribute [local go_sem] Oper.semAt_some

def ownT (LX : TN → List NB) (nm f : Nat) (x : TN) : Bool :=
  match x.t, x.v with
  | .lett _ _ true _ _ d _, .iface _ (.pointer (some a)) => decide (d.fr ≤ f ∧ f < d.to) && (usesL ⟨a.block, 3, none⟩ (LX x)).any fun y => decide (y.nb = nm)
  | _, _ => false

set_option maxRecDepth 100000 in
set_option maxHeartbeats 4000000 in
theorem inOwn_any {w : World} {hi nm f to : Nat} {tx : List UInt8} {t : Tw.T} {tv : Value} {L0 : List TN} {LX : TN → List NB} (hn : NDL w hi t tv L0) (hL : ∀ x ∈ L0, NL w hi x.t x.v .nil (LX x)) (hnm : w.heap[nm]? = some (.cells #[.int .i64 f, .int .i64 to, bytesV tx] 87 (0, 0))) :
    Calls Tryz.prog 111 #[tv, .pointer (some ⟨nm, 0, none⟩)] w fun r w' => r = .returned (.bool (L0.any (ownT LX nm f))) ∧ w.grownBy w' none := by
  have hrep := hn.rep.2
  obtain ⟨T0, n0, rfl⟩ := hn.iface
  refine (callsIn_wide (n := 3)).1 ?_
  refine callsIn_of_wp_marks Tryz.func111 rfl trivial ?_
  simp only [Tryz.ntmps111, List.size_toArray, List.length_cons, List.length_nil, Nat.reduceAdd, Nat.reduceSub, Array.replicate_succ, Array.replicate_zero, List.push_toArray, List.append_toArray, List.nil_append, List.cons_append]
  obtain ⟨W0, hW0⟩ : ∃ W0, (w.alloc (.cells #[.pointer (some ⟨nm, 0, none⟩)] 83)).alloc (.cells #[.bool false] 4) = W0 := ⟨_, rfl⟩
  have G0 : w.grownBy W0 none := by rw [← hW0]; exact grown_alloc (grown_alloc (grown_refl _) _) _
  have z0 : W0.heap.size = w.heap.size + 2 := by rw [← hW0]; simp
  have l0 : W0.heap[w.heap.size]? = some (.cells #[.pointer (some ⟨nm, 0, none⟩)] 83 (0, 0)) := by rw [← hW0]; exact (two_a w _ _).2
  have r0 : W0.heap[w.heap.size + 1]? = some (.cells #[.bool false] 4 (0, 0)) := by rw [← hW0]; exact (two_a w _ _).1
  gi_wp2_with fail
  refine ⟨trivial, ?_⟩
  refine (callsIn_wide.2 (Nodes_any W0 ⟨T0, n0, rfl⟩)).mono ?_
  rintro e1 w3 ⟨rfl, rfl⟩
  gi_wp2_with fail
  obtain ⟨W1, hW1⟩ : ∃ W1, W0.alloc (.cells #[.iface T0 (.pointer (some ⟨n0, 0, none⟩))] 68) = W1 := ⟨_, rfl⟩
  have G1 : W0.grownBy W1 none := by rw [← hW1]; exact World.grownBy_alloc _ _ none
  have z1 : W1.heap.size = w.heap.size + 3 := by rw [← hW1]; simp; omega
  have hne : W1.heap[W0.heap.size]? = some (.cells #[.iface T0 (.pointer (some ⟨n0, 0, none⟩))] 68 (0, 0)) := by rw [← hW1]; exact new_block W0 _
  have l1 := (G1.block _ (Array.getElem?_eq_some_iff.1 l0).1 (by simp)).trans l0
  have r1 := (G1.block _ (Array.getElem?_eq_some_iff.1 r0).1 (by simp)).trans r0
  have g1 := grown_trans G0 G1
  have m1 := (g1.block _ (Array.getElem?_eq_some_iff.1 hnm).1 (by simp)).trans hnm
  have hn1 := hn.kp (Kp.of_grown g1)
  have HL1 : Hid (∀ x ∈ L0, NL W1 hi x.t x.v .nil (LX x)) := hide fun x hx => (hL x hx).kp (Kp.of_grown g1)
  have HRP := hide hn1.rep.2
  rw [z0] at hne
  rw [hW1]
  clear hW0 hW1 G0 G1 l0 r0 hn hL hnm hrep
  refine range_o1 (p := 10) (d1 := 5) rfl (enters_of Tryz.func108 (by kernel_rfl) rfl) (seqO_of (n := 0) (nodes_stops hne hn1)) (fun h k => h.trans k) kp_b (Below.refl _ _)
    (fun pre X => (∀ z ∈ pre, ownT LX nm f z.1 = false) ∧ W1.grownBy X none)
    (fun c pre X => c = .ret ∧ ∃ init z, pre = init ++ [z] ∧ (∀ z ∈ init, ownT LX nm f z.1 = false) ∧ ownT LX nm f z.1 = true ∧ Set1 W1 (w.heap.size + 1) (.bool true) 4 X) ?own ?ownx ⟨by simp, grown_refl _⟩ ?assign ?body ?done ?stop
  case own =>
    rintro s X Y row ⟨h1, h2⟩ hg hr
    exact ⟨h1, ownFrom_grown (β := Unit) W1 (Nat.le_refl _) () X Y row h2 hg hr⟩
  case ownx =>
    rintro c s X Y row ⟨h0, init, x, h1, h2, h3, h4⟩ hg hr
    exact ⟨h0, init, x, h1, h2, h3, Set1.own (β := Unit) (Nat.le_refl _) (by omega) () X Y row h4 hg hr⟩
  case assign =>
    intro l x X K hK
    simp only [List.setIfInBounds_toArray, List.set_cons_zero, List.set_cons_succ] at hK ⊢
    gi_wp2
    exact hK
  case body =>
    rintro lr pre ⟨z, hz⟩ X hlr hrec ⟨hpre, hgX⟩ hlt
    have hrz := unhide HRP z hz
    have hnz := unhide HL1 z hz
    have lX := (hgX.block _ (Array.getElem?_eq_some_iff.1 l1).1 (by simp)).trans l1
    have mX := (hgX.block _ (Array.getElem?_eq_some_iff.1 m1).1 (by simp)).trans m1
    have rX := (hgX.block _ (Array.getElem?_eq_some_iff.1 r1).1 (by simp)).trans r1
    have HR := hide rX
    have hmx : Tryz.prog.follows .mixedOrders = true := by kernel_rfl
    have GOOD : ownT LX nm f z = false → Hid (∀ X', X.grownBy X' none → KeepsFrom W1.heap.size X X' ∧ Kp X X' ∧ (∀ y ∈ pre ++ [(⟨z, hz⟩ : TNIn L0)], ownT LX nm f y.1 = false) ∧ W1.grownBy X' none) := fun hc X' hg' =>
      ⟨keepsFrom_grown hg', Kp.of_grown hg', fun y hy => (by
        rcases List.mem_append.1 hy with hy | hy
        · exact hpre y hy
        · simp only [List.mem_singleton] at hy
          subst hy
          exact hc), grown_trans hgX hg'⟩
    have hcase : (∃ fr to rc bn bat d bo, z.t = .lett fr to rc bn bat d bo) ∨ (∃ T k, z.v = .iface T (.pointer (some ⟨k, 0, none⟩)) ∧ (∀ W, Sem.run Tryz.prog (Instr.typeAssert (.iface T (.pointer (some ⟨k, 0, none⟩))) 68 136 true) W = .ok (.tuple #[.pointer none, .bool false]) W) ∧ ownT LX nm f z = false) := by
      clear GOOD hmx HR rX mX lX hnz hlt hpre hgX
      obtain ⟨zt, zv⟩ := z
      cases zt with
      | name => obtain ⟨k, _, _, rfl, _⟩ := hrz; exact .inr ⟨_, k, rfl, ta_Name_Let _, rfl⟩
      | int => obtain ⟨k, _, _, rfl, _⟩ := hrz; exact .inr ⟨_, k, rfl, ta_Int_Let _, rfl⟩
      | truth => obtain ⟨k, _, _, rfl, _⟩ := hrz; exact .inr ⟨_, k, rfl, ta_Truth_Let _, rfl⟩
      | side => obtain ⟨k, _, _, rfl, _⟩ := hrz; exact .inr ⟨_, k, rfl, ta_Side_Let _, rfl⟩
      | bracket => obtain ⟨_, ⟨k, _, _, rfl, _⟩, _⟩ := hrz; exact .inr ⟨_, k, rfl, ta_Bracket_Let _, rfl⟩
      | pair => obtain ⟨_, _, ⟨k, _, _, rfl, _⟩, _⟩ := hrz; exact .inr ⟨_, k, rfl, ta_Pair_Let _, rfl⟩
      | call => obtain ⟨_, _, ⟨k, _, _, rfl, _⟩, _⟩ := hrz; exact .inr ⟨_, k, rfl, ta_Call_Let _, rfl⟩
      | binary => obtain ⟨_, _, ⟨k, _, _, rfl, _⟩, _⟩ := hrz; exact .inr ⟨_, k, rfl, ta_Binary_Let _, rfl⟩
      | cond => obtain ⟨_, _, _, ⟨k, _, _, rfl, _⟩, _⟩ := hrz; exact .inr ⟨_, k, rfl, ta_If_Let _, rfl⟩
      | fn => obtain ⟨_, ⟨k, _, _, rfl, _⟩, _⟩ := hrz; exact .inr ⟨_, k, rfl, ta_Fun_Let _, rfl⟩
      | lett => exact .inl ⟨_, _, _, _, _, _, _, rfl⟩
    rcases hcase with ⟨fr, to, rc, bn, bat, d, bo, hzt⟩ | ⟨T, k, hzv, hta, hno⟩
    · obtain ⟨zt, zv⟩ := z
      dsimp only at hzt
      subst hzt
      obtain ⟨dv, bv, ⟨b, _, _, rfl, hb⟩, hrd, _⟩ := hrz
      have bX := (hgX.block _ (Array.getElem?_eq_some_iff.1 hb).1 (by simp)).trans hb
      obtain ⟨bd, _, _, rfl, _, _⟩ := hrd.node
      have q6 := ta_Let_Let (some ⟨b, 0, none⟩) X
      have up : ∀ {W : World}, X.grownBy W none → ∀ {i : Nat} {ob : Obj}, X.heap[i]? = some ob → W.heap[i]? = some ob := fun {W} hW {i ob} h => (hW.block i (Array.getElem?_eq_some_iff.1 h).1 (by simp)).trans h
      have cells : ∀ {W : World}, X.grownBy W none → W.cell? ⟨w.heap.size, 0, none⟩ = some (.pointer (some ⟨nm, 0, none⟩)) ∧ W.cell? ⟨nm, 0, none⟩ = some (.int .i64 f) ∧ W.cell? ⟨b, 2, none⟩ = some (.bool rc) ∧ W.cell? ⟨b, 5, none⟩ = some (.iface (ptrT d) (.pointer (some ⟨bd, 0, none⟩))) := fun {W} hW => by
        obtain ⟨q, _, _, _, _, _⟩ := three_cells (up hW mX)
        exact ⟨(one_cell (up hW lX)).1, q, by rw [cell_of_row _ _ _ _ _ _ (up hW bX)]; rfl, by rw [cell_of_row _ _ _ _ _ _ (up hW bX)]; rfl⟩
      have CE := hide (fun W => @cells W)
      have HPL : Hid (∀ W, X.grownBy W none → Sem.run Tryz.prog (method 517 (ptrT d) (.pointer (some ⟨bd, 0, none⟩)) "Place") W = .ok (266, .agg #[.int .i64 d.fr, .int .i64 d.to]) W) := hide fun W hW => by
        obtain ⟨b', _, _, e, c0, c1⟩ := (hrd.kp (Kp.of_grown (grown_trans hgX hW))).node
        cases e
        exact place_run d bd W d.fr d.to c0 c1
      have HUS : Hid (∀ W, X.grownBy W none → Calls Tryz.prog 184 #[.pointer (some ⟨nm, 0, none⟩), .pointer (some ⟨b, 0, none⟩)] W fun r w' => r = .returned (.bool ((usesL ⟨b, 3, none⟩ (LX ⟨.lett fr to rc bn bat d bo, .iface 136 (.pointer (some ⟨b, 0, none⟩))⟩)).any fun y => decide (y.nb = nm))) ∧ W.grownBy w' none) := hide fun W hW => isUse_any (up hW bX) (hnz.kp (Kp.of_grown (grown_trans hgX hW))) (up hW mX)
      have HPre := hide hpre
      have HG := hide hgX
      simp only [List.setIfInBounds_toArray, List.set_cons_zero, List.set_cons_succ]
      clear up cells hnz hrd lX mX rX bX hb hpre hgX l1 m1 r1 g1 hn1 hne
      cases rc with
      | false =>
        have GD := GOOD rfl
        clear GOOD HPL HUS
        gi_wp2_with fail
        refine region_round lr (fun W => W.cell? ⟨w.heap.size, 0, none⟩ = some (.pointer (some ⟨nm, 0, none⟩)) ∧ W.cell? ⟨nm, 0, none⟩ = some (.int .i64 f) ∧ W.cell? ⟨b, 2, none⟩ = some (.bool false) ∧ W.cell? ⟨b, 5, none⟩ = some (.iface (ptrT d) (.pointer (some ⟨bd, 0, none⟩)))) hmx (by kernel_rfl) (unhide CE _ (grown_drew (grown_refl _))) ?_
        intro hSd
        refine wpAnyH_take (i := 0) (oi := { dst := some 16, op := Op.move (Operand.tmp 7), type := 4, pos := "inline.go:48", after := #[], guard := none }) (v := .bool true) rfl (by kernel_rfl) (by kernel_rfl) (by kernel_rfl) noPanic (Or.inl ⟨by rfl, fun W hSW => by obtain ⟨hs1, hs2, hs3, hs4⟩ := hSW; go_simp⟩) hSd ?_
        simp only [Act.put, List.setIfInBounds_toArray, List.set_cons_zero, List.set_cons_succ]
        refine wpAnyH_take (i := 1) (oi := { dst := some 17, op := Op.move (Operand.tmp 16), type := 4, pos := "inline.go:48", after := #[{ on := 0, ground := Ground.data }], guard := none }) (v := .bool true) rfl (by kernel_rfl) (by kernel_rfl) (by kernel_rfl) noPanic (Or.inl ⟨by rfl, fun W hSW => by obtain ⟨hs1, hs2, hs3, hs4⟩ := hSW; go_simp⟩) hSd ?_
        simp only [Act.put, List.setIfInBounds_toArray, List.set_cons_zero, List.set_cons_succ]
        refine wpAnyH_take (i := 2) (oi := { dst := some 18, op := Op.move (Operand.tmp 6), type := 136, pos := "inline.go:48", after := #[{ on := 1, ground := Ground.guard }], guard := some (1, true) }) (v := .pointer (some ⟨b, 0, none⟩)) rfl (by kernel_rfl) (by kernel_rfl) (by kernel_rfl) noPanic (Or.inl ⟨by rfl, fun W hSW => by obtain ⟨hs1, hs2, hs3, hs4⟩ := hSW; go_simp⟩) hSd ?_
        simp only [Act.put, List.setIfInBounds_toArray, List.set_cons_zero, List.set_cons_succ]
        refine wpAnyH_take (i := 3) (oi := { dst := some 19, op := Op.nilCheck (Operand.tmp 18), type := 0, pos := "inline.go:48", after := #[{ on := 2, ground := Ground.data }, { on := 1, ground := Ground.guard }], guard := some (1, true) }) (v := .pointer (some ⟨b, 0, none⟩)) rfl (by kernel_rfl) (by kernel_rfl) (by kernel_rfl) noPanic (Or.inl ⟨by rfl, fun W hSW => by obtain ⟨hs1, hs2, hs3, hs4⟩ := hSW; go_simp⟩) hSd ?_
        simp only [Act.put, List.setIfInBounds_toArray, List.set_cons_zero, List.set_cons_succ]
        refine wpAnyH_take (i := 4) (oi := { dst := some 20, op := Op.fieldAddr 140 (Operand.tmp 19) 1, type := 0, pos := "inline.go:48", after := #[{ on := 3, ground := Ground.data }, { on := 1, ground := Ground.guard }], guard := some (1, true) }) (v := .pointer (some ⟨b, 2, none⟩)) rfl (by kernel_rfl) (by kernel_rfl) (by kernel_rfl) noPanic (Or.inl ⟨by rfl, fun W hSW => by obtain ⟨hs1, hs2, hs3, hs4⟩ := hSW; go_simp⟩) hSd ?_
        simp only [Act.put, List.setIfInBounds_toArray, List.set_cons_zero, List.set_cons_succ]
        refine wpAnyH_take (i := 5) (oi := { dst := some 21, op := Op.load 4 (Operand.tmp 20), type := 4, pos := "inline.go:48", after := #[{ on := 4, ground := Ground.data }, { on := 1, ground := Ground.guard }], guard := some (1, true) }) (v := .bool false) rfl (by kernel_rfl) (by kernel_rfl) (by kernel_rfl) noPanic (Or.inl ⟨by rfl, fun W hSW => by obtain ⟨hs1, hs2, hs3, hs4⟩ := hSW; go_simp⟩) hSd ?_
        simp only [Act.put, List.setIfInBounds_toArray, List.set_cons_zero, List.set_cons_succ]
        refine wpAnyH_take (i := 6) (oi := { dst := some 22, op := Op.pick (Operand.tmp 17) (Operand.tmp 21) (Operand.const (Value.bool false)), type := 4, pos := "inline.go:48", after := #[{ on := 1, ground := Ground.data }, { on := 5, ground := Ground.data }], guard := none }) (v := .bool false) rfl (by kernel_rfl) (by kernel_rfl) (by kernel_rfl) noPanic (Or.inl ⟨by rfl, fun W hSW => by obtain ⟨hs1, hs2, hs3, hs4⟩ := hSW; go_simp⟩) hSd ?_
        simp only [Act.put, List.setIfInBounds_toArray, List.set_cons_zero, List.set_cons_succ]
        refine wpAnyH_take (i := 7) (oi := { dst := some 23, op := Op.move (Operand.tmp 22), type := 4, pos := "inline.go:48", after := #[{ on := 6, ground := Ground.data }, { on := 1, ground := Ground.chain }], guard := none }) (v := .bool false) rfl (by kernel_rfl) (by kernel_rfl) (by kernel_rfl) noPanic (Or.inl ⟨by rfl, fun W hSW => by obtain ⟨hs1, hs2, hs3, hs4⟩ := hSW; go_simp⟩) hSd ?_
        simp only [Act.put, List.setIfInBounds_toArray, List.set_cons_zero, List.set_cons_succ]
        refine wpAnyH_take (i := 8) (oi := { dst := some 24, op := Op.move (Operand.tmp 6), type := 136, pos := "inline.go:48", after := #[{ on := 7, ground := Ground.guard }], guard := some (7, true) }) (v := undef) rfl (by kernel_rfl) (by kernel_rfl) (by kernel_rfl) noPanic (Or.inr ⟨by rfl, rfl⟩) hSd ?_
        simp only [Act.put, List.setIfInBounds_toArray, List.set_cons_zero, List.set_cons_succ]
        refine wpAnyH_take (i := 9) (oi := { dst := some 25, op := Op.nilCheck (Operand.tmp 24), type := 0, pos := "inline.go:48", after := #[{ on := 8, ground := Ground.data }, { on := 7, ground := Ground.guard }], guard := some (7, true) }) (v := undef) rfl (by kernel_rfl) (by kernel_rfl) (by kernel_rfl) noPanic (Or.inr ⟨by rfl, rfl⟩) hSd ?_
        simp only [Act.put, List.setIfInBounds_toArray, List.set_cons_zero, List.set_cons_succ]
        refine wpAnyH_take (i := 10) (oi := { dst := some 26, op := Op.fieldAddr 140 (Operand.tmp 25) 3, type := 0, pos := "inline.go:48", after := #[{ on := 9, ground := Ground.data }, { on := 7, ground := Ground.guard }], guard := some (7, true) }) (v := undef) rfl (by kernel_rfl) (by kernel_rfl) (by kernel_rfl) noPanic (Or.inr ⟨by rfl, rfl⟩) hSd ?_
        simp only [Act.put, List.setIfInBounds_toArray, List.set_cons_zero, List.set_cons_succ]
        refine wpAnyH_take (i := 11) (oi := { dst := some 27, op := Op.load 68 (Operand.tmp 26), type := 68, pos := "inline.go:48", after := #[{ on := 10, ground := Ground.data }, { on := 7, ground := Ground.guard }], guard := some (7, true) }) (v := undef) rfl (by kernel_rfl) (by kernel_rfl) (by kernel_rfl) noPanic (Or.inr ⟨by rfl, rfl⟩) hSd ?_
        simp only [Act.put, List.setIfInBounds_toArray, List.set_cons_zero, List.set_cons_succ]
        refine wpAnyH_take (i := 12) (oi := { dst := some 28, op := Op.call { callee := Callee.invoke (Operand.tmp 27) "Place", args := #[], argTypes := #[] }, type := 85, pos := "inline.go:48", after := #[{ on := 11, ground := Ground.data }, { on := 7, ground := Ground.chain }, { on := 7, ground := Ground.guard }], guard := some (7, true) }) (v := undef) rfl (by kernel_rfl) (by kernel_rfl) (by kernel_rfl) noPanic (Or.inr ⟨by rfl, rfl⟩) hSd ?_
        simp only [Act.put, List.setIfInBounds_toArray, List.set_cons_zero, List.set_cons_succ]
        refine wpAnyH_take (i := 13) (oi := { dst := some 29, op := Op.load 83 (Operand.tmp 3), type := 83, pos := "inline.go:48", after := #[{ on := 7, ground := Ground.guard }], guard := some (7, true) }) (v := undef) rfl (by kernel_rfl) (by kernel_rfl) (by kernel_rfl) noPanic (Or.inr ⟨by rfl, rfl⟩) hSd ?_
        simp only [Act.put, List.setIfInBounds_toArray, List.set_cons_zero, List.set_cons_succ]
        refine wpAnyH_take (i := 14) (oi := { dst := some 30, op := Op.nilCheck (Operand.tmp 29), type := 0, pos := "inline.go:48", after := #[{ on := 13, ground := Ground.data }, { on := 7, ground := Ground.guard }], guard := some (7, true) }) (v := undef) rfl (by kernel_rfl) (by kernel_rfl) (by kernel_rfl) noPanic (Or.inr ⟨by rfl, rfl⟩) hSd ?_
        simp only [Act.put, List.setIfInBounds_toArray, List.set_cons_zero, List.set_cons_succ]
        refine wpAnyH_take (i := 15) (oi := { dst := some 31, op := Op.fieldAddr 87 (Operand.tmp 30) 0, type := 0, pos := "inline.go:48", after := #[{ on := 14, ground := Ground.data }, { on := 7, ground := Ground.guard }], guard := some (7, true) }) (v := undef) rfl (by kernel_rfl) (by kernel_rfl) (by kernel_rfl) noPanic (Or.inr ⟨by rfl, rfl⟩) hSd ?_
        simp only [Act.put, List.setIfInBounds_toArray, List.set_cons_zero, List.set_cons_succ]
        refine wpAnyH_take (i := 16) (oi := { dst := some 32, op := Op.fieldAddr 85 (Operand.tmp 31) 0, type := 0, pos := "inline.go:48", after := #[{ on := 15, ground := Ground.data }, { on := 7, ground := Ground.guard }], guard := some (7, true) }) (v := undef) rfl (by kernel_rfl) (by kernel_rfl) (by kernel_rfl) noPanic (Or.inr ⟨by rfl, rfl⟩) hSd ?_
        simp only [Act.put, List.setIfInBounds_toArray, List.set_cons_zero, List.set_cons_succ]
        refine wpAnyH_take (i := 17) (oi := { dst := some 33, op := Op.load 3 (Operand.tmp 32), type := 3, pos := "inline.go:48", after := #[{ on := 16, ground := Ground.data }, { on := 7, ground := Ground.guard }], guard := some (7, true) }) (v := undef) rfl (by kernel_rfl) (by kernel_rfl) (by kernel_rfl) noPanic (Or.inr ⟨by rfl, rfl⟩) hSd ?_
        simp only [Act.put, List.setIfInBounds_toArray, List.set_cons_zero, List.set_cons_succ]
        refine wpAnyH_take (i := 18) (oi := { dst := some 34, op := Op.call { callee := Callee.value (Operand.func 110), args := #[Operand.tmp 28, Operand.tmp 33], argTypes := #[85, 3] }, type := 4, pos := "inline.go:48", after := #[{ on := 12, ground := Ground.data }, { on := 17, ground := Ground.data }, { on := 12, ground := Ground.chain }, { on := 7, ground := Ground.guard }], guard := some (7, true) }) (v := undef) rfl (by kernel_rfl) (by kernel_rfl) (by kernel_rfl) noPanic (Or.inr ⟨by rfl, rfl⟩) hSd ?_
        simp only [Act.put, List.setIfInBounds_toArray, List.set_cons_zero, List.set_cons_succ]
        refine wpAnyH_take (i := 19) (oi := { dst := some 35, op := Op.pick (Operand.tmp 23) (Operand.tmp 34) (Operand.const (Value.bool false)), type := 4, pos := "inline.go:48", after := #[{ on := 7, ground := Ground.data }, { on := 18, ground := Ground.data }], guard := none }) (v := .bool false) rfl (by kernel_rfl) (by kernel_rfl) (by kernel_rfl) noPanic (Or.inl ⟨by rfl, fun W hSW => by obtain ⟨hs1, hs2, hs3, hs4⟩ := hSW; go_simp⟩) hSd ?_
        simp only [Act.put, List.setIfInBounds_toArray, List.set_cons_zero, List.set_cons_succ]
        refine wpAnyH_take (i := 20) (oi := { dst := some 36, op := Op.move (Operand.tmp 35), type := 4, pos := "inline.go:48", after := #[{ on := 19, ground := Ground.data }, { on := 18, ground := Ground.chain }], guard := none }) (v := .bool false) rfl (by kernel_rfl) (by kernel_rfl) (by kernel_rfl) noPanic (Or.inl ⟨by rfl, fun W hSW => by obtain ⟨hs1, hs2, hs3, hs4⟩ := hSW; go_simp⟩) hSd ?_
        simp only [Act.put, List.setIfInBounds_toArray, List.set_cons_zero, List.set_cons_succ]
        refine wpAnyH_take (i := 21) (oi := { dst := some 37, op := Op.load 83 (Operand.tmp 3), type := 83, pos := "inline.go:48", after := #[{ on := 20, ground := Ground.guard }], guard := some (20, true) }) (v := undef) rfl (by kernel_rfl) (by kernel_rfl) (by kernel_rfl) noPanic (Or.inr ⟨by rfl, rfl⟩) hSd ?_
        simp only [Act.put, List.setIfInBounds_toArray, List.set_cons_zero, List.set_cons_succ]
        refine wpAnyH_take (i := 22) (oi := { dst := some 38, op := Op.move (Operand.tmp 6), type := 136, pos := "inline.go:48", after := #[{ on := 20, ground := Ground.guard }], guard := some (20, true) }) (v := undef) rfl (by kernel_rfl) (by kernel_rfl) (by kernel_rfl) noPanic (Or.inr ⟨by rfl, rfl⟩) hSd ?_
        simp only [Act.put, List.setIfInBounds_toArray, List.set_cons_zero, List.set_cons_succ]
        refine wpAnyH_take (i := 23) (oi := { dst := some 39, op := Op.call { callee := Callee.value (Operand.func 184), args := #[Operand.tmp 37, Operand.tmp 38], argTypes := #[83, 136] }, type := 4, pos := "inline.go:48", after := #[{ on := 21, ground := Ground.data }, { on := 22, ground := Ground.data }, { on := 20, ground := Ground.chain }, { on := 20, ground := Ground.guard }], guard := some (20, true) }) (v := undef) rfl (by kernel_rfl) (by kernel_rfl) (by kernel_rfl) noPanic (Or.inr ⟨by rfl, rfl⟩) hSd ?_
        simp only [Act.put, List.setIfInBounds_toArray, List.set_cons_zero, List.set_cons_succ]
        refine wpAnyH_take (i := 24) (oi := { dst := some 40, op := Op.pick (Operand.tmp 36) (Operand.tmp 39) (Operand.const (Value.bool false)), type := 4, pos := "inline.go:48", after := #[{ on := 20, ground := Ground.data }, { on := 23, ground := Ground.data }], guard := none }) (v := .bool false) rfl (by kernel_rfl) (by kernel_rfl) (by kernel_rfl) noPanic (Or.inl ⟨by rfl, fun W hSW => by obtain ⟨hs1, hs2, hs3, hs4⟩ := hSW; go_simp⟩) hSd ?_
        simp only [Act.put, List.setIfInBounds_toArray, List.set_cons_zero, List.set_cons_succ]
        refine wpAnyH_done (by kernel_rfl) ⟨rfl, ?_⟩ _
        gi_wp2_with fail
        exact GD.out _ (grown_drew (grown_refl _))
      | true =>
        obtain ⟨ub, hub⟩ : ∃ ub, ((usesL ⟨b, 3, none⟩ (LX ⟨.lett fr to true bn bat d bo, .iface 136 (.pointer (some ⟨b, 0, none⟩))⟩)).any fun y => decide (y.nb = nm)) = ub := ⟨_, rfl⟩
        have hot : ownT LX nm f ⟨.lett fr to true bn bat d bo, .iface 136 (.pointer (some ⟨b, 0, none⟩))⟩ = (decide (d.fr ≤ f ∧ f < d.to) && ub) := by rw [← hub]; rfl
        have HOT := hide hot
        rw [hub] at HUS
        have hp := unhide HPL X.drew (grown_drew (grown_refl _))
        clear hot hub HPL
        gi_wp2_with fail
        refine region_round lr (fun W => W.cell? ⟨w.heap.size, 0, none⟩ = some (.pointer (some ⟨nm, 0, none⟩)) ∧ W.cell? ⟨nm, 0, none⟩ = some (.int .i64 f) ∧ W.cell? ⟨b, 2, none⟩ = some (.bool true) ∧ W.cell? ⟨b, 5, none⟩ = some (.iface (ptrT d) (.pointer (some ⟨bd, 0, none⟩)))) hmx (by kernel_rfl) (unhide CE _ (grown_drew (grown_refl _))) ?_
        intro hSd
        refine wpAnyH_take (i := 0) (oi := { dst := some 16, op := Op.move (Operand.tmp 7), type := 4, pos := "inline.go:48", after := #[], guard := none }) (v := .bool true) rfl (by kernel_rfl) (by kernel_rfl) (by kernel_rfl) noPanic (Or.inl ⟨by rfl, fun W hSW => by obtain ⟨hs1, hs2, hs3, hs4⟩ := hSW; go_simp⟩) hSd ?_
        simp only [Act.put, List.setIfInBounds_toArray, List.set_cons_zero, List.set_cons_succ]
        refine wpAnyH_take (i := 1) (oi := { dst := some 17, op := Op.move (Operand.tmp 16), type := 4, pos := "inline.go:48", after := #[{ on := 0, ground := Ground.data }], guard := none }) (v := .bool true) rfl (by kernel_rfl) (by kernel_rfl) (by kernel_rfl) noPanic (Or.inl ⟨by rfl, fun W hSW => by obtain ⟨hs1, hs2, hs3, hs4⟩ := hSW; go_simp⟩) hSd ?_
        simp only [Act.put, List.setIfInBounds_toArray, List.set_cons_zero, List.set_cons_succ]
        refine wpAnyH_take (i := 2) (oi := { dst := some 18, op := Op.move (Operand.tmp 6), type := 136, pos := "inline.go:48", after := #[{ on := 1, ground := Ground.guard }], guard := some (1, true) }) (v := .pointer (some ⟨b, 0, none⟩)) rfl (by kernel_rfl) (by kernel_rfl) (by kernel_rfl) noPanic (Or.inl ⟨by rfl, fun W hSW => by obtain ⟨hs1, hs2, hs3, hs4⟩ := hSW; go_simp⟩) hSd ?_
        simp only [Act.put, List.setIfInBounds_toArray, List.set_cons_zero, List.set_cons_succ]
        refine wpAnyH_take (i := 3) (oi := { dst := some 19, op := Op.nilCheck (Operand.tmp 18), type := 0, pos := "inline.go:48", after := #[{ on := 2, ground := Ground.data }, { on := 1, ground := Ground.guard }], guard := some (1, true) }) (v := .pointer (some ⟨b, 0, none⟩)) rfl (by kernel_rfl) (by kernel_rfl) (by kernel_rfl) noPanic (Or.inl ⟨by rfl, fun W hSW => by obtain ⟨hs1, hs2, hs3, hs4⟩ := hSW; go_simp⟩) hSd ?_
        simp only [Act.put, List.setIfInBounds_toArray, List.set_cons_zero, List.set_cons_succ]
        refine wpAnyH_take (i := 4) (oi := { dst := some 20, op := Op.fieldAddr 140 (Operand.tmp 19) 1, type := 0, pos := "inline.go:48", after := #[{ on := 3, ground := Ground.data }, { on := 1, ground := Ground.guard }], guard := some (1, true) }) (v := .pointer (some ⟨b, 2, none⟩)) rfl (by kernel_rfl) (by kernel_rfl) (by kernel_rfl) noPanic (Or.inl ⟨by rfl, fun W hSW => by obtain ⟨hs1, hs2, hs3, hs4⟩ := hSW; go_simp⟩) hSd ?_
        simp only [Act.put, List.setIfInBounds_toArray, List.set_cons_zero, List.set_cons_succ]
        refine wpAnyH_take (i := 5) (oi := { dst := some 21, op := Op.load 4 (Operand.tmp 20), type := 4, pos := "inline.go:48", after := #[{ on := 4, ground := Ground.data }, { on := 1, ground := Ground.guard }], guard := some (1, true) }) (v := .bool true) rfl (by kernel_rfl) (by kernel_rfl) (by kernel_rfl) noPanic (Or.inl ⟨by rfl, fun W hSW => by obtain ⟨hs1, hs2, hs3, hs4⟩ := hSW; go_simp⟩) hSd ?_
        simp only [Act.put, List.setIfInBounds_toArray, List.set_cons_zero, List.set_cons_succ]
        refine wpAnyH_take (i := 6) (oi := { dst := some 22, op := Op.pick (Operand.tmp 17) (Operand.tmp 21) (Operand.const (Value.bool false)), type := 4, pos := "inline.go:48", after := #[{ on := 1, ground := Ground.data }, { on := 5, ground := Ground.data }], guard := none }) (v := .bool true) rfl (by kernel_rfl) (by kernel_rfl) (by kernel_rfl) noPanic (Or.inl ⟨by rfl, fun W hSW => by obtain ⟨hs1, hs2, hs3, hs4⟩ := hSW; go_simp⟩) hSd ?_
        simp only [Act.put, List.setIfInBounds_toArray, List.set_cons_zero, List.set_cons_succ]
        refine wpAnyH_take (i := 7) (oi := { dst := some 23, op := Op.move (Operand.tmp 22), type := 4, pos := "inline.go:48", after := #[{ on := 6, ground := Ground.data }, { on := 1, ground := Ground.chain }], guard := none }) (v := .bool true) rfl (by kernel_rfl) (by kernel_rfl) (by kernel_rfl) noPanic (Or.inl ⟨by rfl, fun W hSW => by obtain ⟨hs1, hs2, hs3, hs4⟩ := hSW; go_simp⟩) hSd ?_
        simp only [Act.put, List.setIfInBounds_toArray, List.set_cons_zero, List.set_cons_succ]
        refine wpAnyH_take (i := 8) (oi := { dst := some 24, op := Op.move (Operand.tmp 6), type := 136, pos := "inline.go:48", after := #[{ on := 7, ground := Ground.guard }], guard := some (7, true) }) (v := .pointer (some ⟨b, 0, none⟩)) rfl (by kernel_rfl) (by kernel_rfl) (by kernel_rfl) noPanic (Or.inl ⟨by rfl, fun W hSW => by obtain ⟨hs1, hs2, hs3, hs4⟩ := hSW; go_simp⟩) hSd ?_
        simp only [Act.put, List.setIfInBounds_toArray, List.set_cons_zero, List.set_cons_succ]
        refine wpAnyH_take (i := 9) (oi := { dst := some 25, op := Op.nilCheck (Operand.tmp 24), type := 0, pos := "inline.go:48", after := #[{ on := 8, ground := Ground.data }, { on := 7, ground := Ground.guard }], guard := some (7, true) }) (v := .pointer (some ⟨b, 0, none⟩)) rfl (by kernel_rfl) (by kernel_rfl) (by kernel_rfl) noPanic (Or.inl ⟨by rfl, fun W hSW => by obtain ⟨hs1, hs2, hs3, hs4⟩ := hSW; go_simp⟩) hSd ?_
        simp only [Act.put, List.setIfInBounds_toArray, List.set_cons_zero, List.set_cons_succ]
        refine wpAnyH_take (i := 10) (oi := { dst := some 26, op := Op.fieldAddr 140 (Operand.tmp 25) 3, type := 0, pos := "inline.go:48", after := #[{ on := 9, ground := Ground.data }, { on := 7, ground := Ground.guard }], guard := some (7, true) }) (v := .pointer (some ⟨b, 5, none⟩)) rfl (by kernel_rfl) (by kernel_rfl) (by kernel_rfl) noPanic (Or.inl ⟨by rfl, fun W hSW => by obtain ⟨hs1, hs2, hs3, hs4⟩ := hSW; go_simp⟩) hSd ?_
        simp only [Act.put, List.setIfInBounds_toArray, List.set_cons_zero, List.set_cons_succ]
        refine wpAnyH_take (i := 11) (oi := { dst := some 27, op := Op.load 68 (Operand.tmp 26), type := 68, pos := "inline.go:48", after := #[{ on := 10, ground := Ground.data }, { on := 7, ground := Ground.guard }], guard := some (7, true) }) (v := .iface (ptrT d) (.pointer (some ⟨bd, 0, none⟩))) rfl (by kernel_rfl) (by kernel_rfl) (by kernel_rfl) noPanic (Or.inl ⟨by rfl, fun W hSW => by obtain ⟨hs1, hs2, hs3, hs4⟩ := hSW; go_simp⟩) hSd ?_
        simp only [Act.put, List.setIfInBounds_toArray, List.set_cons_zero, List.set_cons_succ]
        refine wpAnyH_take (i := 13) (oi := { dst := some 29, op := Op.load 83 (Operand.tmp 3), type := 83, pos := "inline.go:48", after := #[{ on := 7, ground := Ground.guard }], guard := some (7, true) }) (v := .pointer (some ⟨nm, 0, none⟩)) rfl (by kernel_rfl) (by kernel_rfl) (by kernel_rfl) noPanic (Or.inl ⟨by rfl, fun W hSW => by obtain ⟨hs1, hs2, hs3, hs4⟩ := hSW; go_simp⟩) hSd ?_
        simp only [Act.put, List.setIfInBounds_toArray, List.set_cons_zero, List.set_cons_succ]
        refine wpAnyH_take (i := 14) (oi := { dst := some 30, op := Op.nilCheck (Operand.tmp 29), type := 0, pos := "inline.go:48", after := #[{ on := 13, ground := Ground.data }, { on := 7, ground := Ground.guard }], guard := some (7, true) }) (v := .pointer (some ⟨nm, 0, none⟩)) rfl (by kernel_rfl) (by kernel_rfl) (by kernel_rfl) noPanic (Or.inl ⟨by rfl, fun W hSW => by obtain ⟨hs1, hs2, hs3, hs4⟩ := hSW; go_simp⟩) hSd ?_
        simp only [Act.put, List.setIfInBounds_toArray, List.set_cons_zero, List.set_cons_succ]
        refine wpAnyH_take (i := 15) (oi := { dst := some 31, op := Op.fieldAddr 87 (Operand.tmp 30) 0, type := 0, pos := "inline.go:48", after := #[{ on := 14, ground := Ground.data }, { on := 7, ground := Ground.guard }], guard := some (7, true) }) (v := .pointer (some ⟨nm, 0, none⟩)) rfl (by kernel_rfl) (by kernel_rfl) (by kernel_rfl) noPanic (Or.inl ⟨by rfl, fun W hSW => by obtain ⟨hs1, hs2, hs3, hs4⟩ := hSW; go_simp⟩) hSd ?_
        simp only [Act.put, List.setIfInBounds_toArray, List.set_cons_zero, List.set_cons_succ]
        refine wpAnyH_take (i := 16) (oi := { dst := some 32, op := Op.fieldAddr 85 (Operand.tmp 31) 0, type := 0, pos := "inline.go:48", after := #[{ on := 15, ground := Ground.data }, { on := 7, ground := Ground.guard }], guard := some (7, true) }) (v := .pointer (some ⟨nm, 0, none⟩)) rfl (by kernel_rfl) (by kernel_rfl) (by kernel_rfl) noPanic (Or.inl ⟨by rfl, fun W hSW => by obtain ⟨hs1, hs2, hs3, hs4⟩ := hSW; go_simp⟩) hSd ?_
        simp only [Act.put, List.setIfInBounds_toArray, List.set_cons_zero, List.set_cons_succ]
        refine wpAnyH_take (i := 17) (oi := { dst := some 33, op := Op.load 3 (Operand.tmp 32), type := 3, pos := "inline.go:48", after := #[{ on := 16, ground := Ground.data }, { on := 7, ground := Ground.guard }], guard := some (7, true) }) (v := .int .i64 f) rfl (by kernel_rfl) (by kernel_rfl) (by kernel_rfl) noPanic (Or.inl ⟨by rfl, fun W hSW => by obtain ⟨hs1, hs2, hs3, hs4⟩ := hSW; go_simp⟩) hSd ?_
        simp only [Act.put, List.setIfInBounds_toArray, List.set_cons_zero, List.set_cons_succ]
        refine wpAnyH_ready (rs := [12]) (by kernel_rfl) (by simp) ?_
        refine AllReadyH.cons (o := { dst := some 28, op := Op.call { callee := Callee.invoke (Operand.tmp 27) "Place", args := #[], argTypes := #[] }, type := 85, pos := "inline.go:48", after := #[{ on := 11, ground := Ground.data }, { on := 7, ground := Ground.chain }, { on := 7, ground := Ground.guard }], guard := some (7, true) }) rfl (fun K hK => ?_) AllReadyH.nil
        go_simp
        refine (Place_any _ _ _).mono ?_
        rintro e1 X2 ⟨rfl, hg2⟩
        have G2 := hide (grown_trans (grown_drew (grown_refl X)) hg2)
        refine hK.out _ _ (unhide CE _ G2.out) (fun hSd => ?_)
        clear hK K hg2 hp
        refine wpAnyH_ready (rs := [18]) (by kernel_rfl) (by simp) ?_
        refine AllReadyH.cons (o := { dst := some 34, op := Op.call { callee := Callee.value (Operand.func 110), args := #[Operand.tmp 28, Operand.tmp 33], argTypes := #[85, 3] }, type := 4, pos := "inline.go:48", after := #[{ on := 12, ground := Ground.data }, { on := 17, ground := Ground.data }, { on := 12, ground := Ground.chain }, { on := 7, ground := Ground.guard }], guard := some (7, true) }) rfl (fun K hK => ?_) AllReadyH.nil
        go_simp
        refine (spHolds_any _ _ _ _).mono ?_
        rintro e1 X3 ⟨rfl, hg3⟩
        have G3 := hide (grown_trans G2.out hg3)
        refine hK.out _ _ (unhide CE _ G3.out) (fun hSd => ?_)
        clear hK K hg3
        by_cases hh : d.fr ≤ f ∧ f < d.to
        · have hb1 : (decide ((d.fr : Int) ≤ (f : Int)) && decide ((f : Int) < (d.to : Int))) = true := by
            simp only [Bool.and_eq_true, decide_eq_true_eq]
            omega
          rw [hb1]
          have hot2 := unhide HOT
          rw [decide_eq_true hh, Bool.true_and] at hot2
          have HOT2 := hide hot2
          clear hb1 hh hot2 HOT
          refine wpAnyH_take (i := 19) (oi := { dst := some 35, op := Op.pick (Operand.tmp 23) (Operand.tmp 34) (Operand.const (Value.bool false)), type := 4, pos := "inline.go:48", after := #[{ on := 7, ground := Ground.data }, { on := 18, ground := Ground.data }], guard := none }) (v := .bool true) rfl (by kernel_rfl) (by kernel_rfl) (by kernel_rfl) noPanic (Or.inl ⟨by rfl, fun W hSW => by obtain ⟨hs1, hs2, hs3, hs4⟩ := hSW; go_simp⟩) hSd ?_
          simp only [Act.put, List.setIfInBounds_toArray, List.set_cons_zero, List.set_cons_succ]
          refine wpAnyH_take (i := 20) (oi := { dst := some 36, op := Op.move (Operand.tmp 35), type := 4, pos := "inline.go:48", after := #[{ on := 19, ground := Ground.data }, { on := 18, ground := Ground.chain }], guard := none }) (v := .bool true) rfl (by kernel_rfl) (by kernel_rfl) (by kernel_rfl) noPanic (Or.inl ⟨by rfl, fun W hSW => by obtain ⟨hs1, hs2, hs3, hs4⟩ := hSW; go_simp⟩) hSd ?_
          simp only [Act.put, List.setIfInBounds_toArray, List.set_cons_zero, List.set_cons_succ]
          refine wpAnyH_take (i := 21) (oi := { dst := some 37, op := Op.load 83 (Operand.tmp 3), type := 83, pos := "inline.go:48", after := #[{ on := 20, ground := Ground.guard }], guard := some (20, true) }) (v := .pointer (some ⟨nm, 0, none⟩)) rfl (by kernel_rfl) (by kernel_rfl) (by kernel_rfl) noPanic (Or.inl ⟨by rfl, fun W hSW => by obtain ⟨hs1, hs2, hs3, hs4⟩ := hSW; go_simp⟩) hSd ?_
          simp only [Act.put, List.setIfInBounds_toArray, List.set_cons_zero, List.set_cons_succ]
          refine wpAnyH_take (i := 22) (oi := { dst := some 38, op := Op.move (Operand.tmp 6), type := 136, pos := "inline.go:48", after := #[{ on := 20, ground := Ground.guard }], guard := some (20, true) }) (v := .pointer (some ⟨b, 0, none⟩)) rfl (by kernel_rfl) (by kernel_rfl) (by kernel_rfl) noPanic (Or.inl ⟨by rfl, fun W hSW => by obtain ⟨hs1, hs2, hs3, hs4⟩ := hSW; go_simp⟩) hSd ?_
          simp only [Act.put, List.setIfInBounds_toArray, List.set_cons_zero, List.set_cons_succ]
          refine wpAnyH_ready (rs := [23]) (by kernel_rfl) (by simp) ?_
          refine AllReadyH.cons (o := { dst := some 39, op := Op.call { callee := Callee.value (Operand.func 184), args := #[Operand.tmp 37, Operand.tmp 38], argTypes := #[83, 136] }, type := 4, pos := "inline.go:48", after := #[{ on := 21, ground := Ground.data }, { on := 22, ground := Ground.data }, { on := 20, ground := Ground.chain }, { on := 20, ground := Ground.guard }], guard := some (20, true) }) rfl (fun K hK => ?_) AllReadyH.nil
          go_simp
          refine (unhide HUS _ G3.out).mono ?_
          rintro e1 X4 ⟨rfl, hg4⟩
          have G4 := hide (grown_trans G3.out hg4)
          refine hK.out _ _ (unhide CE _ G4.out) (fun hSd => ?_)
          clear hK K hg4
          refine wpAnyH_take (i := 24) (oi := { dst := some 40, op := Op.pick (Operand.tmp 36) (Operand.tmp 39) (Operand.const (Value.bool false)), type := 4, pos := "inline.go:48", after := #[{ on := 20, ground := Ground.data }, { on := 23, ground := Ground.data }], guard := none }) (v := .bool ub) rfl (by kernel_rfl) (by kernel_rfl) (by kernel_rfl) noPanic (Or.inl ⟨by rfl, fun W _ => by go_simp⟩) hSd ?_
          simp only [Act.put, List.setIfInBounds_toArray, List.set_cons_zero, List.set_cons_succ]
          refine wpAnyH_done (by kernel_rfl) ⟨rfl, ?_⟩ _
          have rX4 := (G4.out.block _ (Array.getElem?_eq_some_iff.1 (unhide HR)).1 (by simp)).trans (unhide HR)
          obtain ⟨cr, fr'⟩ := one_cell rX4
          cases ub with
          | true =>
            clear GOOD
            gi_wp2_with fail
            exact ⟨keepsFrom_trans (keepsFrom_grown G4.out) (keepsFrom_cell _ _ _), rfl, pre, _, rfl, unhide HPre, unhide HOT2, Set1.of_set (grown_trans (unhide HG) G4.out) rX4 _⟩
          | false =>
            have GD := GOOD (unhide HOT2)
            clear GOOD
            gi_wp2_with fail
            exact GD.out _ G4.out
        · have hb1 : (decide ((d.fr : Int) ≤ (f : Int)) && decide ((f : Int) < (d.to : Int))) = false := by
            rw [Bool.and_eq_false_iff]
            simp only [decide_eq_false_iff_not]
            omega
          rw [hb1]
          have GD := GOOD (by rw [unhide HOT, decide_eq_false hh, Bool.false_and])
          clear hb1 hh GOOD HOT HUS
          refine wpAnyH_take (i := 19) (oi := { dst := some 35, op := Op.pick (Operand.tmp 23) (Operand.tmp 34) (Operand.const (Value.bool false)), type := 4, pos := "inline.go:48", after := #[{ on := 7, ground := Ground.data }, { on := 18, ground := Ground.data }], guard := none }) (v := .bool false) rfl (by kernel_rfl) (by kernel_rfl) (by kernel_rfl) noPanic (Or.inl ⟨by rfl, fun W hSW => by obtain ⟨hs1, hs2, hs3, hs4⟩ := hSW; go_simp⟩) hSd ?_
          simp only [Act.put, List.setIfInBounds_toArray, List.set_cons_zero, List.set_cons_succ]
          refine wpAnyH_take (i := 20) (oi := { dst := some 36, op := Op.move (Operand.tmp 35), type := 4, pos := "inline.go:48", after := #[{ on := 19, ground := Ground.data }, { on := 18, ground := Ground.chain }], guard := none }) (v := .bool false) rfl (by kernel_rfl) (by kernel_rfl) (by kernel_rfl) noPanic (Or.inl ⟨by rfl, fun W hSW => by obtain ⟨hs1, hs2, hs3, hs4⟩ := hSW; go_simp⟩) hSd ?_
          simp only [Act.put, List.setIfInBounds_toArray, List.set_cons_zero, List.set_cons_succ]
          refine wpAnyH_take (i := 21) (oi := { dst := some 37, op := Op.load 83 (Operand.tmp 3), type := 83, pos := "inline.go:48", after := #[{ on := 20, ground := Ground.guard }], guard := some (20, true) }) (v := undef) rfl (by kernel_rfl) (by kernel_rfl) (by kernel_rfl) noPanic (Or.inr ⟨by rfl, rfl⟩) hSd ?_
          simp only [Act.put, List.setIfInBounds_toArray, List.set_cons_zero, List.set_cons_succ]
          refine wpAnyH_take (i := 22) (oi := { dst := some 38, op := Op.move (Operand.tmp 6), type := 136, pos := "inline.go:48", after := #[{ on := 20, ground := Ground.guard }], guard := some (20, true) }) (v := undef) rfl (by kernel_rfl) (by kernel_rfl) (by kernel_rfl) noPanic (Or.inr ⟨by rfl, rfl⟩) hSd ?_
          simp only [Act.put, List.setIfInBounds_toArray, List.set_cons_zero, List.set_cons_succ]
          refine wpAnyH_take (i := 23) (oi := { dst := some 39, op := Op.call { callee := Callee.value (Operand.func 184), args := #[Operand.tmp 37, Operand.tmp 38], argTypes := #[83, 136] }, type := 4, pos := "inline.go:48", after := #[{ on := 21, ground := Ground.data }, { on := 22, ground := Ground.data }, { on := 20, ground := Ground.chain }, { on := 20, ground := Ground.guard }], guard := some (20, true) }) (v := undef) rfl (by kernel_rfl) (by kernel_rfl) (by kernel_rfl) noPanic (Or.inr ⟨by rfl, rfl⟩) hSd ?_
          simp only [Act.put, List.setIfInBounds_toArray, List.set_cons_zero, List.set_cons_succ]
          refine wpAnyH_take (i := 24) (oi := { dst := some 40, op := Op.pick (Operand.tmp 36) (Operand.tmp 39) (Operand.const (Value.bool false)), type := 4, pos := "inline.go:48", after := #[{ on := 20, ground := Ground.data }, { on := 23, ground := Ground.data }], guard := none }) (v := .bool false) rfl (by kernel_rfl) (by kernel_rfl) (by kernel_rfl) noPanic (Or.inl ⟨by rfl, fun W hSW => by obtain ⟨hs1, hs2, hs3, hs4⟩ := hSW; go_simp⟩) hSd ?_
          simp only [Act.put, List.setIfInBounds_toArray, List.set_cons_zero, List.set_cons_succ]
          refine wpAnyH_done (by kernel_rfl) ⟨rfl, ?_⟩ _
          gi_wp2_with fail
          exact GD.out _ G3.out
    · have hq := hta X
      have GD := GOOD hno
      simp only [List.setIfInBounds_toArray, List.set_cons_zero, List.set_cons_succ, hzv]
      clear GOOD hta hno hnz hrz lX mX rX hpre hgX
      gi_wp2_with fail
      refine region_round lr (fun _ => True) hmx (by kernel_rfl) trivial ?_
      intro hSd
      refine wpAnyH_take (i := 0) (oi := { dst := some 16, op := Op.move (Operand.tmp 7), type := 4, pos := "inline.go:48", after := #[], guard := none }) (v := .bool false) rfl (by kernel_rfl) (by kernel_rfl) (by kernel_rfl) noPanic (Or.inl ⟨by rfl, fun W _ => by go_simp⟩) hSd ?_
      simp only [Act.put, List.setIfInBounds_toArray, List.set_cons_zero, List.set_cons_succ]
      refine wpAnyH_take (i := 1) (oi := { dst := some 17, op := Op.move (Operand.tmp 16), type := 4, pos := "inline.go:48", after := #[{ on := 0, ground := Ground.data }], guard := none }) (v := .bool false) rfl (by kernel_rfl) (by kernel_rfl) (by kernel_rfl) noPanic (Or.inl ⟨by rfl, fun W _ => by go_simp⟩) hSd ?_
      simp only [Act.put, List.setIfInBounds_toArray, List.set_cons_zero, List.set_cons_succ]
      refine wpAnyH_take (i := 2) (oi := { dst := some 18, op := Op.move (Operand.tmp 6), type := 136, pos := "inline.go:48", after := #[{ on := 1, ground := Ground.guard }], guard := some (1, true) }) (v := undef) rfl (by kernel_rfl) (by kernel_rfl) (by kernel_rfl) noPanic (Or.inr ⟨by rfl, rfl⟩) hSd ?_
      simp only [Act.put, List.setIfInBounds_toArray, List.set_cons_zero, List.set_cons_succ]
      refine wpAnyH_take (i := 3) (oi := { dst := some 19, op := Op.nilCheck (Operand.tmp 18), type := 0, pos := "inline.go:48", after := #[{ on := 2, ground := Ground.data }, { on := 1, ground := Ground.guard }], guard := some (1, true) }) (v := undef) rfl (by kernel_rfl) (by kernel_rfl) (by kernel_rfl) noPanic (Or.inr ⟨by rfl, rfl⟩) hSd ?_
      simp only [Act.put, List.setIfInBounds_toArray, List.set_cons_zero, List.set_cons_succ]
      refine wpAnyH_take (i := 4) (oi := { dst := some 20, op := Op.fieldAddr 140 (Operand.tmp 19) 1, type := 0, pos := "inline.go:48", after := #[{ on := 3, ground := Ground.data }, { on := 1, ground := Ground.guard }], guard := some (1, true) }) (v := undef) rfl (by kernel_rfl) (by kernel_rfl) (by kernel_rfl) noPanic (Or.inr ⟨by rfl, rfl⟩) hSd ?_
      simp only [Act.put, List.setIfInBounds_toArray, List.set_cons_zero, List.set_cons_succ]
      refine wpAnyH_take (i := 5) (oi := { dst := some 21, op := Op.load 4 (Operand.tmp 20), type := 4, pos := "inline.go:48", after := #[{ on := 4, ground := Ground.data }, { on := 1, ground := Ground.guard }], guard := some (1, true) }) (v := undef) rfl (by kernel_rfl) (by kernel_rfl) (by kernel_rfl) noPanic (Or.inr ⟨by rfl, rfl⟩) hSd ?_
      simp only [Act.put, List.setIfInBounds_toArray, List.set_cons_zero, List.set_cons_succ]
      refine wpAnyH_take (i := 6) (oi := { dst := some 22, op := Op.pick (Operand.tmp 17) (Operand.tmp 21) (Operand.const (Value.bool false)), type := 4, pos := "inline.go:48", after := #[{ on := 1, ground := Ground.data }, { on := 5, ground := Ground.data }], guard := none }) (v := .bool false) rfl (by kernel_rfl) (by kernel_rfl) (by kernel_rfl) noPanic (Or.inl ⟨by rfl, fun W _ => by go_simp⟩) hSd ?_
      simp only [Act.put, List.setIfInBounds_toArray, List.set_cons_zero, List.set_cons_succ]
      refine wpAnyH_take (i := 7) (oi := { dst := some 23, op := Op.move (Operand.tmp 22), type := 4, pos := "inline.go:48", after := #[{ on := 6, ground := Ground.data }, { on := 1, ground := Ground.chain }], guard := none }) (v := .bool false) rfl (by kernel_rfl) (by kernel_rfl) (by kernel_rfl) noPanic (Or.inl ⟨by rfl, fun W _ => by go_simp⟩) hSd ?_
      simp only [Act.put, List.setIfInBounds_toArray, List.set_cons_zero, List.set_cons_succ]
      refine wpAnyH_take (i := 8) (oi := { dst := some 24, op := Op.move (Operand.tmp 6), type := 136, pos := "inline.go:48", after := #[{ on := 7, ground := Ground.guard }], guard := some (7, true) }) (v := undef) rfl (by kernel_rfl) (by kernel_rfl) (by kernel_rfl) noPanic (Or.inr ⟨by rfl, rfl⟩) hSd ?_
      simp only [Act.put, List.setIfInBounds_toArray, List.set_cons_zero, List.set_cons_succ]
      refine wpAnyH_take (i := 9) (oi := { dst := some 25, op := Op.nilCheck (Operand.tmp 24), type := 0, pos := "inline.go:48", after := #[{ on := 8, ground := Ground.data }, { on := 7, ground := Ground.guard }], guard := some (7, true) }) (v := undef) rfl (by kernel_rfl) (by kernel_rfl) (by kernel_rfl) noPanic (Or.inr ⟨by rfl, rfl⟩) hSd ?_
      simp only [Act.put, List.setIfInBounds_toArray, List.set_cons_zero, List.set_cons_succ]
      refine wpAnyH_take (i := 10) (oi := { dst := some 26, op := Op.fieldAddr 140 (Operand.tmp 25) 3, type := 0, pos := "inline.go:48", after := #[{ on := 9, ground := Ground.data }, { on := 7, ground := Ground.guard }], guard := some (7, true) }) (v := undef) rfl (by kernel_rfl) (by kernel_rfl) (by kernel_rfl) noPanic (Or.inr ⟨by rfl, rfl⟩) hSd ?_
      simp only [Act.put, List.setIfInBounds_toArray, List.set_cons_zero, List.set_cons_succ]
      refine wpAnyH_take (i := 11) (oi := { dst := some 27, op := Op.load 68 (Operand.tmp 26), type := 68, pos := "inline.go:48", after := #[{ on := 10, ground := Ground.data }, { on := 7, ground := Ground.guard }], guard := some (7, true) }) (v := undef) rfl (by kernel_rfl) (by kernel_rfl) (by kernel_rfl) noPanic (Or.inr ⟨by rfl, rfl⟩) hSd ?_
      simp only [Act.put, List.setIfInBounds_toArray, List.set_cons_zero, List.set_cons_succ]
      refine wpAnyH_take (i := 12) (oi := { dst := some 28, op := Op.call { callee := Callee.invoke (Operand.tmp 27) "Place", args := #[], argTypes := #[] }, type := 85, pos := "inline.go:48", after := #[{ on := 11, ground := Ground.data }, { on := 7, ground := Ground.chain }, { on := 7, ground := Ground.guard }], guard := some (7, true) }) (v := undef) rfl (by kernel_rfl) (by kernel_rfl) (by kernel_rfl) noPanic (Or.inr ⟨by rfl, rfl⟩) hSd ?_
      simp only [Act.put, List.setIfInBounds_toArray, List.set_cons_zero, List.set_cons_succ]
      refine wpAnyH_take (i := 13) (oi := { dst := some 29, op := Op.load 83 (Operand.tmp 3), type := 83, pos := "inline.go:48", after := #[{ on := 7, ground := Ground.guard }], guard := some (7, true) }) (v := undef) rfl (by kernel_rfl) (by kernel_rfl) (by kernel_rfl) noPanic (Or.inr ⟨by rfl, rfl⟩) hSd ?_
      simp only [Act.put, List.setIfInBounds_toArray, List.set_cons_zero, List.set_cons_succ]
      refine wpAnyH_take (i := 14) (oi := { dst := some 30, op := Op.nilCheck (Operand.tmp 29), type := 0, pos := "inline.go:48", after := #[{ on := 13, ground := Ground.data }, { on := 7, ground := Ground.guard }], guard := some (7, true) }) (v := undef) rfl (by kernel_rfl) (by kernel_rfl) (by kernel_rfl) noPanic (Or.inr ⟨by rfl, rfl⟩) hSd ?_
      simp only [Act.put, List.setIfInBounds_toArray, List.set_cons_zero, List.set_cons_succ]
      refine wpAnyH_take (i := 15) (oi := { dst := some 31, op := Op.fieldAddr 87 (Operand.tmp 30) 0, type := 0, pos := "inline.go:48", after := #[{ on := 14, ground := Ground.data }, { on := 7, ground := Ground.guard }], guard := some (7, true) }) (v := undef) rfl (by kernel_rfl) (by kernel_rfl) (by kernel_rfl) noPanic (Or.inr ⟨by rfl, rfl⟩) hSd ?_
      simp only [Act.put, List.setIfInBounds_toArray, List.set_cons_zero, List.set_cons_succ]
      refine wpAnyH_take (i := 16) (oi := { dst := some 32, op := Op.fieldAddr 85 (Operand.tmp 31) 0, type := 0, pos := "inline.go:48", after := #[{ on := 15, ground := Ground.data }, { on := 7, ground := Ground.guard }], guard := some (7, true) }) (v := undef) rfl (by kernel_rfl) (by kernel_rfl) (by kernel_rfl) noPanic (Or.inr ⟨by rfl, rfl⟩) hSd ?_
      simp only [Act.put, List.setIfInBounds_toArray, List.set_cons_zero, List.set_cons_succ]
      refine wpAnyH_take (i := 17) (oi := { dst := some 33, op := Op.load 3 (Operand.tmp 32), type := 3, pos := "inline.go:48", after := #[{ on := 16, ground := Ground.data }, { on := 7, ground := Ground.guard }], guard := some (7, true) }) (v := undef) rfl (by kernel_rfl) (by kernel_rfl) (by kernel_rfl) noPanic (Or.inr ⟨by rfl, rfl⟩) hSd ?_
      simp only [Act.put, List.setIfInBounds_toArray, List.set_cons_zero, List.set_cons_succ]
      refine wpAnyH_take (i := 18) (oi := { dst := some 34, op := Op.call { callee := Callee.value (Operand.func 110), args := #[Operand.tmp 28, Operand.tmp 33], argTypes := #[85, 3] }, type := 4, pos := "inline.go:48", after := #[{ on := 12, ground := Ground.data }, { on := 17, ground := Ground.data }, { on := 12, ground := Ground.chain }, { on := 7, ground := Ground.guard }], guard := some (7, true) }) (v := undef) rfl (by kernel_rfl) (by kernel_rfl) (by kernel_rfl) noPanic (Or.inr ⟨by rfl, rfl⟩) hSd ?_
      simp only [Act.put, List.setIfInBounds_toArray, List.set_cons_zero, List.set_cons_succ]
      refine wpAnyH_take (i := 19) (oi := { dst := some 35, op := Op.pick (Operand.tmp 23) (Operand.tmp 34) (Operand.const (Value.bool false)), type := 4, pos := "inline.go:48", after := #[{ on := 7, ground := Ground.data }, { on := 18, ground := Ground.data }], guard := none }) (v := .bool false) rfl (by kernel_rfl) (by kernel_rfl) (by kernel_rfl) noPanic (Or.inl ⟨by rfl, fun W _ => by go_simp⟩) hSd ?_
      simp only [Act.put, List.setIfInBounds_toArray, List.set_cons_zero, List.set_cons_succ]
      refine wpAnyH_take (i := 20) (oi := { dst := some 36, op := Op.move (Operand.tmp 35), type := 4, pos := "inline.go:48", after := #[{ on := 19, ground := Ground.data }, { on := 18, ground := Ground.chain }], guard := none }) (v := .bool false) rfl (by kernel_rfl) (by kernel_rfl) (by kernel_rfl) noPanic (Or.inl ⟨by rfl, fun W _ => by go_simp⟩) hSd ?_
      simp only [Act.put, List.setIfInBounds_toArray, List.set_cons_zero, List.set_cons_succ]
      refine wpAnyH_take (i := 21) (oi := { dst := some 37, op := Op.load 83 (Operand.tmp 3), type := 83, pos := "inline.go:48", after := #[{ on := 20, ground := Ground.guard }], guard := some (20, true) }) (v := undef) rfl (by kernel_rfl) (by kernel_rfl) (by kernel_rfl) noPanic (Or.inr ⟨by rfl, rfl⟩) hSd ?_
      simp only [Act.put, List.setIfInBounds_toArray, List.set_cons_zero, List.set_cons_succ]
      refine wpAnyH_take (i := 22) (oi := { dst := some 38, op := Op.move (Operand.tmp 6), type := 136, pos := "inline.go:48", after := #[{ on := 20, ground := Ground.guard }], guard := some (20, true) }) (v := undef) rfl (by kernel_rfl) (by kernel_rfl) (by kernel_rfl) noPanic (Or.inr ⟨by rfl, rfl⟩) hSd ?_
      simp only [Act.put, List.setIfInBounds_toArray, List.set_cons_zero, List.set_cons_succ]
      refine wpAnyH_take (i := 23) (oi := { dst := some 39, op := Op.call { callee := Callee.value (Operand.func 184), args := #[Operand.tmp 37, Operand.tmp 38], argTypes := #[83, 136] }, type := 4, pos := "inline.go:48", after := #[{ on := 21, ground := Ground.data }, { on := 22, ground := Ground.data }, { on := 20, ground := Ground.chain }, { on := 20, ground := Ground.guard }], guard := some (20, true) }) (v := undef) rfl (by kernel_rfl) (by kernel_rfl) (by kernel_rfl) noPanic (Or.inr ⟨by rfl, rfl⟩) hSd ?_
      simp only [Act.put, List.setIfInBounds_toArray, List.set_cons_zero, List.set_cons_succ]
      refine wpAnyH_take (i := 24) (oi := { dst := some 40, op := Op.pick (Operand.tmp 36) (Operand.tmp 39) (Operand.const (Value.bool false)), type := 4, pos := "inline.go:48", after := #[{ on := 20, ground := Ground.data }, { on := 23, ground := Ground.data }], guard := none }) (v := .bool false) rfl (by kernel_rfl) (by kernel_rfl) (by kernel_rfl) noPanic (Or.inl ⟨by rfl, fun W _ => by go_simp⟩) hSd ?_
      simp only [Act.put, List.setIfInBounds_toArray, List.set_cons_zero, List.set_cons_succ]
      refine wpAnyH_done (by kernel_rfl) ⟨rfl, ?_⟩ _
      gi_wp2_with fail
      exact GD.out _ (grown_drew (grown_refl _))
  case done =>
    rintro D xs X hD hxs ⟨hpre, hg⟩ hK
    have rX := (hg.block _ (Array.getElem?_eq_some_iff.1 r1).1 (by simp)).trans r1
    obtain ⟨cr, fr⟩ := one_cell rX
    gi_wp2_with fail
    have st := Set1.of_set hg rX (.bool false)
    have hK2 : (X.setCell ⟨w.heap.size + 1, 0, none⟩ (.bool false)).heap[D]? = some (.deferred (some [])) := (keepsFrom_cell (B := 0) X _ _).same D _ (Nat.zero_le _) hK rfl
    refine ⟨by simp, .inl ⟨_, _, rfl, run_takeDeferred hK2, ?_⟩⟩
    have st' := Set1.own (β := Unit) (Nat.le_refl _) (by omega) () _ _ (some D) st (grownBy_putObj' _ D (.deferred none)) (fun r e => by cases e; exact ⟨by omega, _, hK2, rfl⟩)
    obtain ⟨e0, _⟩ := one_cell st'.res
    refine ⟨.bool false, by simp [results, Tryz.results111, go_sem, e0], ?_, ?_⟩
    · have : L0.any (ownT LX nm f) = false := by
        rw [List.any_eq_false]
        intro z hz
        rw [← hxs] at hz
        obtain ⟨y, hy, rfl⟩ := List.mem_map.1 hz
        rw [hpre y hy]
        simp
      rw [this]
    · refine ⟨st'.os.trans g1.os, st'.tape.trans g1.tape, st'.output.trans g1.output, by have := st'.size; omega, fun k hk _ => (st'.old k (by omega) (by omega)).trans (g1.block k hk (by simp))⟩
  case stop =>
    rintro D c pre X hD hpre ⟨rfl, init, z, h1, h2, h3, h4⟩ hK
    gi_wp2_with fail
    refine ⟨by simp, .inl ⟨_, _, rfl, run_takeDeferred hK, ?_⟩⟩
    have st' := Set1.own (β := Unit) (Nat.le_refl _) (by omega) () _ _ (some D) h4 (grownBy_putObj' _ D (.deferred none)) (fun r e => by cases e; exact ⟨by omega, _, hK, rfl⟩)
    obtain ⟨e0, _⟩ := one_cell st'.res
    refine ⟨.bool true, by simp [results, Tryz.results111, go_sem, e0], ?_, ?_⟩
    · have : L0.any (ownT LX nm f) = true := by
        rw [List.any_eq_true]
        exact ⟨z.1, hpre.subset (by rw [h1]; simp), h3⟩
      rw [this]
    · refine ⟨st'.os.trans g1.os, st'.tape.trans g1.tape, st'.output.trans g1.output, by have := st'.size; omega, fun k hk _ => (st'.old k (by omega) (by omega)).trans (g1.block k hk (by simp))⟩

end Go.Proofs.YtckhafpejefbbaaGreatDoor

/- alter.isValue. -/
namespace Go.Proofs.YtckhafpejefbbaaGreatDoor
open Go.RowKit Go.Shelf

set_option maxRecDepth 100000 in
set_option maxHeartbeats 2000000 in
theorem isValue_Int (tv : Value) (b : Nat) (w : World) : Calls Tryz.prog 61 #[tv, .iface 191 (.pointer (some ⟨b, 0, none⟩))] w fun r w' => r = .returned (.bool true) ∧ w = w' := by
  have q0 := ta_Int_Name
  have q1 := ta_Int_Int
  have q2 := ta_Int_Truth
  have q3 := ta_Int_Side
  have q4 := ta_Int_Fun
  go_enter Tryz.func61, Tryz.ntmps61
  go_wp2_with fail
  go_ret
  exact ⟨rfl, rfl⟩

set_option maxRecDepth 100000 in
set_option maxHeartbeats 2000000 in
theorem isValue_Truth (tv : Value) (b : Nat) (w : World) : Calls Tryz.prog 61 #[tv, .iface 195 (.pointer (some ⟨b, 0, none⟩))] w fun r w' => r = .returned (.bool true) ∧ w = w' := by
  have q0 := ta_Truth_Name
  have q1 := ta_Truth_Int
  have q2 := ta_Truth_Truth
  have q3 := ta_Truth_Side
  have q4 := ta_Truth_Fun
  go_enter Tryz.func61, Tryz.ntmps61
  go_wp2_with fail
  go_ret
  exact ⟨rfl, rfl⟩

set_option maxRecDepth 100000 in
set_option maxHeartbeats 2000000 in
theorem isValue_Side (tv : Value) (b : Nat) (w : World) : Calls Tryz.prog 61 #[tv, .iface 199 (.pointer (some ⟨b, 0, none⟩))] w fun r w' => r = .returned (.bool true) ∧ w = w' := by
  have q0 := ta_Side_Name
  have q1 := ta_Side_Int
  have q2 := ta_Side_Truth
  have q3 := ta_Side_Side
  have q4 := ta_Side_Fun
  go_enter Tryz.func61, Tryz.ntmps61
  go_wp2_with fail
  go_ret
  exact ⟨rfl, rfl⟩

set_option maxRecDepth 100000 in
set_option maxHeartbeats 2000000 in
theorem isValue_Fun (tv : Value) (b : Nat) (w : World) : Calls Tryz.prog 61 #[tv, .iface 215 (.pointer (some ⟨b, 0, none⟩))] w fun r w' => r = .returned (.bool true) ∧ w = w' := by
  have q0 := ta_Fun_Name
  have q1 := ta_Fun_Int
  have q2 := ta_Fun_Truth
  have q3 := ta_Fun_Side
  have q4 := ta_Fun_Fun
  go_enter Tryz.func61, Tryz.ntmps61
  go_wp2_with fail
  go_ret
  exact ⟨rfl, rfl⟩

set_option maxRecDepth 100000 in
set_option maxHeartbeats 2000000 in
theorem isValue_Call (tv : Value) (b : Nat) (w : World) : Calls Tryz.prog 61 #[tv, .iface 209 (.pointer (some ⟨b, 0, none⟩))] w fun r w' => r = .returned (.bool false) ∧ w = w' := by
  have q0 := ta_Call_Name
  have q1 := ta_Call_Int
  have q2 := ta_Call_Truth
  have q3 := ta_Call_Side
  have q4 := ta_Call_Fun
  have q5 := ta_Call_Pair
  have q6 := ta_Call_Bracket
  go_enter Tryz.func61, Tryz.ntmps61
  go_wp2_with fail
  go_ret
  exact ⟨rfl, rfl⟩

set_option maxRecDepth 100000 in
set_option maxHeartbeats 2000000 in
theorem isValue_Binary (tv : Value) (b : Nat) (w : World) : Calls Tryz.prog 61 #[tv, .iface 211 (.pointer (some ⟨b, 0, none⟩))] w fun r w' => r = .returned (.bool false) ∧ w = w' := by
  have q0 := ta_Binary_Name
  have q1 := ta_Binary_Int
  have q2 := ta_Binary_Truth
  have q3 := ta_Binary_Side
  have q4 := ta_Binary_Fun
  have q5 := ta_Binary_Pair
  have q6 := ta_Binary_Bracket
  go_enter Tryz.func61, Tryz.ntmps61
  go_wp2_with fail
  go_ret
  exact ⟨rfl, rfl⟩

set_option maxRecDepth 100000 in
set_option maxHeartbeats 2000000 in
theorem isValue_If (tv : Value) (b : Nat) (w : World) : Calls Tryz.prog 61 #[tv, .iface 213 (.pointer (some ⟨b, 0, none⟩))] w fun r w' => r = .returned (.bool false) ∧ w = w' := by
  have q0 := ta_If_Name
  have q1 := ta_If_Int
  have q2 := ta_If_Truth
  have q3 := ta_If_Side
  have q4 := ta_If_Fun
  have q5 := ta_If_Pair
  have q6 := ta_If_Bracket
  go_enter Tryz.func61, Tryz.ntmps61
  go_wp2_with fail
  go_ret
  exact ⟨rfl, rfl⟩

set_option maxRecDepth 100000 in
set_option maxHeartbeats 2000000 in
theorem isValue_Let (tv : Value) (b : Nat) (w : World) : Calls Tryz.prog 61 #[tv, .iface 136 (.pointer (some ⟨b, 0, none⟩))] w fun r w' => r = .returned (.bool false) ∧ w = w' := by
  have q0 := ta_Let_Name
  have q1 := ta_Let_Int
  have q2 := ta_Let_Truth
  have q3 := ta_Let_Side
  have q4 := ta_Let_Fun
  have q5 := ta_Let_Pair
  have q6 := ta_Let_Bracket
  go_enter Tryz.func61, Tryz.ntmps61
  go_wp2_with fail
  go_ret
  exact ⟨rfl, rfl⟩

set_option maxRecDepth 100000 in
set_option maxHeartbeats 2000000 in
theorem isValue_Name {tv : Value} {b : Nat} {w : World} {r : Bool} (h : Calls Tryz.prog 111 #[tv, .pointer (some ⟨b, 0, none⟩)] w fun e w' => e = .returned (.bool r) ∧ w.grownBy w' none) : Calls Tryz.prog 61 #[tv, .iface 83 (.pointer (some ⟨b, 0, none⟩))] w fun e w' => e = .returned (.bool (!r)) ∧ w.grownBy w' none := by
  have q0 := ta_Name_Name
  have HH := hide h
  clear h
  go_enter Tryz.func61, Tryz.ntmps61
  go_wp2_with fail
  refine (unhide HH).mono ?_
  rintro e1 w1 ⟨rfl, hg⟩
  have G1 := hide hg
  clear hg
  go_wp2_with fail
  go_ret
  exact ⟨rfl, G1.out⟩

set_option maxRecDepth 100000 in
set_option maxHeartbeats 2000000 in
theorem isValue_Bracket {tv v1 : Value} {b : Nat} {c0 c1 : Value} {w : World} {r : Bool} (hb : w.heap[b]? = some (.cells #[c0, c1, v1] 206 (0, 0))) (h0 : ∃ T n, v1 = .iface T (.pointer (some ⟨n, 0, none⟩))) (h : Calls Tryz.prog 61 #[tv, v1] w fun e w' => e = .returned (.bool r) ∧ w.grownBy w' none) : Calls Tryz.prog 61 #[tv, .iface 204 (.pointer (some ⟨b, 0, none⟩))] w fun e w' => e = .returned (.bool r) ∧ w.grownBy w' none := by
  obtain ⟨T0, n0, rfl⟩ := h0
  have c2 : w.cell? ⟨b, 2, none⟩ = some (.iface T0 (.pointer (some ⟨n0, 0, none⟩))) := by rw [cell_of_row _ _ _ _ _ _ hb]; rfl
  have q0 := ta_Bracket_Name
  have q1 := ta_Bracket_Int
  have q2 := ta_Bracket_Truth
  have q3 := ta_Bracket_Side
  have q4 := ta_Bracket_Fun
  have q5 := ta_Bracket_Pair
  have q6 := ta_Bracket_Bracket
  have HH := hide h
  clear h hb
  go_enter Tryz.func61, Tryz.ntmps61
  go_wp2_with fail
  refine (unhide HH).mono ?_
  rintro e1 w1 ⟨rfl, hg⟩
  have G1 := hide hg
  clear hg
  go_wp2_with fail
  go_ret
  exact ⟨rfl, G1.out⟩

set_option maxRecDepth 100000 in
set_option maxHeartbeats 2000000 in
theorem isValue_Pair {tv v1 v2 : Value} {b : Nat} {c0 c1 : Value} {w : World} {r1 r2 : Bool} (hb : w.heap[b]? = some (.cells #[c0, c1, v1, v2] 229 (0, 0))) (h0 : ∃ T n, v1 = .iface T (.pointer (some ⟨n, 0, none⟩))) (h1 : ∃ T n, v2 = .iface T (.pointer (some ⟨n, 0, none⟩))) (h : ∀ W, w.grownBy W none → Calls Tryz.prog 61 #[tv, v1] W fun e w' => e = .returned (.bool r1) ∧ W.grownBy w' none) (k : ∀ W, w.grownBy W none → Calls Tryz.prog 61 #[tv, v2] W fun e w' => e = .returned (.bool r2) ∧ W.grownBy w' none) : Calls Tryz.prog 61 #[tv, .iface 207 (.pointer (some ⟨b, 0, none⟩))] w fun e w' => e = .returned (.bool (r1 && r2)) ∧ w.grownBy w' none := by
  obtain ⟨T0, n0, rfl⟩ := h0
  obtain ⟨T1, n1, rfl⟩ := h1
  have cc : ∀ {W : World}, w.grownBy W none → W.cell? ⟨b, 2, none⟩ = some (.iface T0 (.pointer (some ⟨n0, 0, none⟩))) ∧ W.cell? ⟨b, 3, none⟩ = some (.iface T1 (.pointer (some ⟨n1, 0, none⟩))) := fun {W} hW => by
    have := (hW.block _ (Array.getElem?_eq_some_iff.1 hb).1 (by simp)).trans hb
    exact ⟨by rw [cell_of_row _ _ _ _ _ _ this]; rfl, by rw [cell_of_row _ _ _ _ _ _ this]; rfl⟩
  have CC := hide (fun W => @cc W)
  obtain ⟨c2, c3⟩ := cc (grown_refl w)
  have q0 := ta_Pair_Name
  have q1 := ta_Pair_Int
  have q2 := ta_Pair_Truth
  have q3 := ta_Pair_Side
  have q4 := ta_Pair_Fun
  have q5 := ta_Pair_Pair
  have HH := hide h
  have HK := hide k
  clear h k hb cc
  have D1 : Hid (w.grownBy w.drew none) := grown_drew (grown_refl _)
  cases r1 with
  | false =>
    go_enter Tryz.func61, Tryz.ntmps61
    go_wp2_with fail
    refine (unhide HH _ (grown_refl _)).mono ?_
    rintro e1 w1 ⟨rfl, hg⟩
    have G1 := hide hg
    clear hg
    go_wp2_with fail
    go_ret
    exact ⟨rfl, G1.out⟩
  | true =>
    go_enter Tryz.func61, Tryz.ntmps61
    go_wp2_with fail
    refine (unhide HH _ (grown_refl _)).mono ?_
    rintro e1 w1 ⟨rfl, hg⟩
    have G1 := hide hg
    obtain ⟨d2, d3⟩ := unhide CC _ hg
    clear hg
    go_wp2_with fail
    refine (unhide HK _ G1.out).mono ?_
    rintro e1 w2 ⟨rfl, hg⟩
    have G2 := hide (grown_trans G1.out hg)
    clear hg
    go_wp2_with fail
    go_ret
    exact ⟨by simp, G2.out⟩

theorem isValue_any {w0 : World} {hi : Nat} {t : Tw.T} {tv : Value} {L0 : List TN} {LX : TN → List NB} {own : Nat → Bool} (hn : NDL w0 hi t tv L0) (hL : ∀ x ∈ L0, NL w0 hi x.t x.v .nil (LX x)) : ∀ {d : Tw.T} {dv : Value} {Ld : List NB}, NL w0 hi d dv .nil Ld → (∀ y ∈ Ld, L0.any (ownT LX y.nb y.fr) = own y.fr) → ∀ W, w0.grownBy W none → Calls Tryz.prog 61 #[tv, dv] W fun r w' => r = .returned (.bool (Tw.Inl.isV own d)) ∧ W.grownBy w' none
  | .name f to x, dv, Ld, hd, ho, W, hW => by
    obtain ⟨k, ⟨rfl, hb⟩, rfl⟩ := hd
    have hk := Kp.of_grown hW
    have := isValue_Name (inOwn_any (hn.kp hk) (fun x hx => (hL x hx).kp hk) (hk _ _ _ _ hb (by decide)))
    rw [ho ⟨k, f, to, x, .nil⟩ (by simp)] at this
    exact this
  | .int .., dv, Ld, hd, ho, W, hW => by
    obtain ⟨⟨b, _, _, rfl, _⟩, _⟩ := hd
    exact (isValue_Int tv b W).mono (by rintro e w' ⟨rfl, rfl⟩; exact ⟨rfl, grown_refl _⟩)
  | .truth .., dv, Ld, hd, ho, W, hW => by
    obtain ⟨⟨b, _, _, rfl, _⟩, _⟩ := hd
    exact (isValue_Truth tv b W).mono (by rintro e w' ⟨rfl, rfl⟩; exact ⟨rfl, grown_refl _⟩)
  | .side .., dv, Ld, hd, ho, W, hW => by
    obtain ⟨⟨b, _, _, rfl, _⟩, _⟩ := hd
    exact (isValue_Side tv b W).mono (by rintro e w' ⟨rfl, rfl⟩; exact ⟨rfl, grown_refl _⟩)
  | .bracket _ _ i, dv, Ld, hd, ho, W, hW => by
    obtain ⟨v1, ⟨b, _, _, rfl, hb⟩, h1⟩ := hd
    exact isValue_Bracket ((Kp.of_grown hW) _ _ _ _ hb (by decide)) h1.iface (isValue_any hn hL (d := i) h1 ho W hW)
  | .pair _ _ l r, dv, Ld, hd, ho, W, hW => by
    obtain ⟨v1, v2, L1, L2, ⟨b, _, _, rfl, hb⟩, h1, h2, rfl⟩ := hd
    exact isValue_Pair ((Kp.of_grown hW) _ _ _ _ hb (by decide)) h1.iface h2.iface (fun W' hW' => isValue_any hn hL (d := l) h1 (fun y hy => ho y (List.mem_append_left _ hy)) W' (grown_trans hW hW')) (fun W' hW' => isValue_any hn hL (d := r) h2 (fun y hy => ho y (List.mem_append_right _ hy)) W' (grown_trans hW hW'))
  | .call .., dv, Ld, hd, ho, W, hW => by
    obtain ⟨_, _, _, _, ⟨b, _, _, rfl, _⟩, _⟩ := hd
    exact (isValue_Call tv b W).mono (by rintro e w' ⟨rfl, rfl⟩; exact ⟨rfl, grown_refl _⟩)
  | .binary .., dv, Ld, hd, ho, W, hW => by
    obtain ⟨_, _, _, _, ⟨b, _, _, rfl, _⟩, _⟩ := hd
    exact (isValue_Binary tv b W).mono (by rintro e w' ⟨rfl, rfl⟩; exact ⟨rfl, grown_refl _⟩)
  | .cond .., dv, Ld, hd, ho, W, hW => by
    obtain ⟨_, _, _, _, _, _, ⟨b, _, _, rfl, _⟩, _⟩ := hd
    exact (isValue_If tv b W).mono (by rintro e w' ⟨rfl, rfl⟩; exact ⟨rfl, grown_refl _⟩)
  | .fn .., dv, Ld, hd, ho, W, hW => by
    obtain ⟨b, _, ⟨_, rfl, _⟩, _⟩ := hd
    exact (isValue_Fun tv b W).mono (by rintro e w' ⟨rfl, rfl⟩; exact ⟨rfl, grown_refl _⟩)
  | .lett .., dv, Ld, hd, ho, W, hW => by
    obtain ⟨b, _, _, _, _, ⟨_, rfl, _⟩, _⟩ := hd
    exact (isValue_Let tv b W).mono (by rintro e w' ⟨rfl, rfl⟩; exact ⟨rfl, grown_refl _⟩)

end Go.Proofs.YtckhafpejefbbaaGreatDoor

/- alter.needsBrackets, alter.inPlaceOf. -/
namespace Go.Proofs.YtckhafpejefbbaaGreatDoor
open Go.RowKit Go.Shelf

set_option maxRecDepth 100000 in
set_option maxHeartbeats 2000000 in
theorem needsBrackets_Fun (uv : Value) (b : Nat) (s : ByteArray) (w : World) : Calls Tryz.prog 114 #[uv, .iface 215 (.pointer (some ⟨b, 0, none⟩)), .string s] w fun r w' => r = .returned (.bool true) ∧ w = w' := by
  have q0 := ta_Fun_Fun
  go_enter Tryz.func114, Tryz.ntmps114
  go_wp2_with fail
  go_ret
  exact ⟨rfl, rfl⟩

set_option maxRecDepth 100000 in
set_option maxHeartbeats 2000000 in
theorem needsBrackets_Int {ub f to : Nat} {tx : List UInt8} {b : Nat} {s : ByteArray} {w : World} (hu : w.heap[ub]? = some (.cells #[.int .i64 f, .int .i64 to, bytesV tx] 87 (0, 0))) (h0 : 0 < f) (h1 : f ≤ s.size) (hs : s.size ≤ 300) : Calls Tryz.prog 114 #[.pointer (some ⟨ub, 0, none⟩), .iface 191 (.pointer (some ⟨b, 0, none⟩)), .string s] w fun r w' => r = .returned (.bool (Tw.digitI (Tw.headI (s.data.toList.drop (f - 1))))) ∧ w = w' := by
  have q0 := ta_Int_Fun
  have q1 := ta_Int_Int
  obtain ⟨c0, _, _, _, _, _⟩ := three_cells hu
  have hfi : (0 : Int) < (f : Int) := by omega
  have hfj : (f : Int) ≤ (s.size : Int) := by omega
  have hfk : (s.size : Int) ≤ 300 := by omega
  clear hu
  go_enter Tryz.func114, Tryz.ntmps114
  go_wp2_with fail
  refine (isDigit_any _ _ (by omega) (by have := s[f - 1].toNat_lt; omega)).mono ?_
  rintro e1 w1 ⟨rfl, rfl⟩
  go_wp2_with fail
  go_ret
  have hlt : f - 1 < s.data.toList.length := by
    have : s.data.toList.length = s.size := Array.length_toList
    omega
  refine ⟨?_, rfl⟩
  rw [List.drop_eq_getElem_cons hlt]
  rfl

set_option maxRecDepth 100000 in
set_option maxHeartbeats 2000000 in
theorem needsBrackets_Name (uv : Value) (b : Nat) (s : ByteArray) (w : World) : Calls Tryz.prog 114 #[uv, .iface 83 (.pointer (some ⟨b, 0, none⟩)), .string s] w fun r w' => r = .returned (.bool false) ∧ w = w' := by
  have q0 := ta_Name_Fun
  have q1 := ta_Name_Int
  go_enter Tryz.func114, Tryz.ntmps114
  go_wp2_with fail
  go_ret
  exact ⟨rfl, rfl⟩

set_option maxRecDepth 100000 in
set_option maxHeartbeats 2000000 in
theorem needsBrackets_Truth (uv : Value) (b : Nat) (s : ByteArray) (w : World) : Calls Tryz.prog 114 #[uv, .iface 195 (.pointer (some ⟨b, 0, none⟩)), .string s] w fun r w' => r = .returned (.bool false) ∧ w = w' := by
  have q0 := ta_Truth_Fun
  have q1 := ta_Truth_Int
  go_enter Tryz.func114, Tryz.ntmps114
  go_wp2_with fail
  go_ret
  exact ⟨rfl, rfl⟩

set_option maxRecDepth 100000 in
set_option maxHeartbeats 2000000 in
theorem needsBrackets_Side (uv : Value) (b : Nat) (s : ByteArray) (w : World) : Calls Tryz.prog 114 #[uv, .iface 199 (.pointer (some ⟨b, 0, none⟩)), .string s] w fun r w' => r = .returned (.bool false) ∧ w = w' := by
  have q0 := ta_Side_Fun
  have q1 := ta_Side_Int
  go_enter Tryz.func114, Tryz.ntmps114
  go_wp2_with fail
  go_ret
  exact ⟨rfl, rfl⟩

set_option maxRecDepth 100000 in
set_option maxHeartbeats 2000000 in
theorem needsBrackets_Bracket (uv : Value) (b : Nat) (s : ByteArray) (w : World) : Calls Tryz.prog 114 #[uv, .iface 204 (.pointer (some ⟨b, 0, none⟩)), .string s] w fun r w' => r = .returned (.bool false) ∧ w = w' := by
  have q0 := ta_Bracket_Fun
  have q1 := ta_Bracket_Int
  go_enter Tryz.func114, Tryz.ntmps114
  go_wp2_with fail
  go_ret
  exact ⟨rfl, rfl⟩

set_option maxRecDepth 100000 in
set_option maxHeartbeats 2000000 in
theorem needsBrackets_Pair (uv : Value) (b : Nat) (s : ByteArray) (w : World) : Calls Tryz.prog 114 #[uv, .iface 207 (.pointer (some ⟨b, 0, none⟩)), .string s] w fun r w' => r = .returned (.bool false) ∧ w = w' := by
  have q0 := ta_Pair_Fun
  have q1 := ta_Pair_Int
  go_enter Tryz.func114, Tryz.ntmps114
  go_wp2_with fail
  go_ret
  exact ⟨rfl, rfl⟩

set_option maxRecDepth 100000 in
set_option maxHeartbeats 2000000 in
theorem needsBrackets_Call (uv : Value) (b : Nat) (s : ByteArray) (w : World) : Calls Tryz.prog 114 #[uv, .iface 209 (.pointer (some ⟨b, 0, none⟩)), .string s] w fun r w' => r = .returned (.bool false) ∧ w = w' := by
  have q0 := ta_Call_Fun
  have q1 := ta_Call_Int
  go_enter Tryz.func114, Tryz.ntmps114
  go_wp2_with fail
  go_ret
  exact ⟨rfl, rfl⟩

set_option maxRecDepth 100000 in
set_option maxHeartbeats 2000000 in
theorem needsBrackets_Binary (uv : Value) (b : Nat) (s : ByteArray) (w : World) : Calls Tryz.prog 114 #[uv, .iface 211 (.pointer (some ⟨b, 0, none⟩)), .string s] w fun r w' => r = .returned (.bool false) ∧ w = w' := by
  have q0 := ta_Binary_Fun
  have q1 := ta_Binary_Int
  go_enter Tryz.func114, Tryz.ntmps114
  go_wp2_with fail
  go_ret
  exact ⟨rfl, rfl⟩

set_option maxRecDepth 100000 in
set_option maxHeartbeats 2000000 in
theorem needsBrackets_If (uv : Value) (b : Nat) (s : ByteArray) (w : World) : Calls Tryz.prog 114 #[uv, .iface 213 (.pointer (some ⟨b, 0, none⟩)), .string s] w fun r w' => r = .returned (.bool false) ∧ w = w' := by
  have q0 := ta_If_Fun
  have q1 := ta_If_Int
  go_enter Tryz.func114, Tryz.ntmps114
  go_wp2_with fail
  go_ret
  exact ⟨rfl, rfl⟩

set_option maxRecDepth 100000 in
set_option maxHeartbeats 2000000 in
theorem needsBrackets_Let (uv : Value) (b : Nat) (s : ByteArray) (w : World) : Calls Tryz.prog 114 #[uv, .iface 136 (.pointer (some ⟨b, 0, none⟩)), .string s] w fun r w' => r = .returned (.bool false) ∧ w = w' := by
  have q0 := ta_Let_Fun
  have q1 := ta_Let_Int
  go_enter Tryz.func114, Tryz.ntmps114
  go_wp2_with fail
  go_ret
  exact ⟨rfl, rfl⟩

theorem needsBrackets_any {w : World} {hi : Nat} {d : Tw.T} {dv : Value} {ub f to : Nat} {tx : List UInt8} {s : ByteArray} (hd : Rep w 0 hi d dv) (hu : w.heap[ub]? = some (.cells #[.int .i64 f, .int .i64 to, bytesV tx] 87 (0, 0))) (h0 : 0 < f) (h1 : f ≤ s.size) (hs : s.size ≤ 300) : Calls Tryz.prog 114 #[.pointer (some ⟨ub, 0, none⟩), dv, .string s] w fun r w' => r = .returned (.bool (Tw.Inl.needsB s.data.toList d f)) ∧ w = w' := by
  cases d with
  | name => obtain ⟨b, _, _, rfl, _⟩ := hd; exact needsBrackets_Name _ b s w
  | int => obtain ⟨b, _, _, rfl, _⟩ := hd; exact needsBrackets_Int hu h0 h1 hs
  | truth => obtain ⟨b, _, _, rfl, _⟩ := hd; exact needsBrackets_Truth _ b s w
  | side => obtain ⟨b, _, _, rfl, _⟩ := hd; exact needsBrackets_Side _ b s w
  | bracket => obtain ⟨_, ⟨b, _, _, rfl, _⟩, _⟩ := hd; exact needsBrackets_Bracket _ b s w
  | pair => obtain ⟨_, _, ⟨b, _, _, rfl, _⟩, _⟩ := hd; exact needsBrackets_Pair _ b s w
  | call => obtain ⟨_, _, ⟨b, _, _, rfl, _⟩, _⟩ := hd; exact needsBrackets_Call _ b s w
  | binary => obtain ⟨_, _, ⟨b, _, _, rfl, _⟩, _⟩ := hd; exact needsBrackets_Binary _ b s w
  | cond => obtain ⟨_, _, _, ⟨b, _, _, rfl, _⟩, _⟩ := hd; exact needsBrackets_If _ b s w
  | fn => obtain ⟨_, ⟨b, _, _, rfl, _⟩, _⟩ := hd; exact needsBrackets_Fun _ b s w
  | lett => obtain ⟨_, _, ⟨b, _, _, rfl, _⟩, _⟩ := hd; exact needsBrackets_Let _ b s w

set_option maxRecDepth 100000 in
set_option maxHeartbeats 2000000 in
theorem inPlaceOf_any {w : World} {hi : Nat} {d : Tw.T} {dv : Value} {ub f to : Nat} {tx : List UInt8} {s : ByteArray} (hd : Rep w 0 hi d dv) (hu : w.heap[ub]? = some (.cells #[.int .i64 f, .int .i64 to, bytesV tx] 87 (0, 0))) (h0 : 0 < f) (h1 : f ≤ s.size) (hs : s.size ≤ 300) (h2 : d.fr ≤ d.to) (h3 : d.to ≤ s.size) : Calls Tryz.prog 63 #[.pointer (some ⟨ub, 0, none⟩), dv, .string s] w fun r w' => r = .returned (bytesV (Tw.Inl.inText s.data.toList d f)) ∧ w.grownBy w' none := by
  obtain ⟨bd, _, _, rfl, c0, c1⟩ := hd.node
  have hp := place_run d bd w d.fr d.to c0 c1
  have HN : Hid (∀ W, w.grownBy W none → Calls Tryz.prog 114 #[.pointer (some ⟨ub, 0, none⟩), .iface (ptrT d) (.pointer (some ⟨bd, 0, none⟩)), .string s] W fun r w' => r = .returned (.bool (Tw.Inl.needsB s.data.toList d f)) ∧ W = w') := hide fun W hW => needsBrackets_any (hd.kp (Kp.of_grown hW)) ((hW.block _ (Array.getElem?_eq_some_iff.1 hu).1 (by simp)).trans hu) h0 h1 hs
  have hp1 := piece_extract s d.fr d.to
  have e2 : (d.fr : Int) ≤ (d.to : Int) := by omega
  have e3 : (d.to : Int) ≤ (s.size : Int) := by omega
  have e4 : (s.size : Int) ≤ 300 := by omega
  have hpl : (Tw.piece s.data.toList d.fr d.to).length ≤ 300 := by
    have : s.data.toList.length = s.size := Array.length_toList
    unfold Tw.piece
    rw [List.length_take]
    omega
  obtain ⟨nb, hnb⟩ : ∃ nb, Tw.Inl.needsB s.data.toList d f = nb := ⟨_, rfl⟩
  have HT : Hid (Tw.Inl.inText s.data.toList d f = if nb then 40 :: (Tw.piece s.data.toList d.fr d.to ++ [41]) else Tw.piece s.data.toList d.fr d.to) := hide (by unfold Tw.Inl.inText; rw [hnb])
  rw [hnb] at HN
  generalize ptrT d = T at *
  clear hd hu c0 c1 hnb
  cases nb with
  | true =>
    go_enter Tryz.func63, Tryz.ntmps63
    go_wp2_with fail
    refine (Place_any _ _ _).mono ?_
    rintro e1 w1 ⟨rfl, hg⟩
    have G1 := hide hg
    clear hg
    go_wp2_with fail
    refine (unhide HN _ (grown_alloc G1.out _)).mono ?_
    rintro e1 w2 ⟨rfl, rfl⟩
    have hp2 : (Tw.piece s.data.toList d.fr d.to).toArray.size ≤ 300 := by simpa using hpl
    go_wp2_with fail
    go_ret
    refine ⟨?_, grown_alloc G1.out _⟩
    rw [unhide HT]
    exact congrArg (fun b => Ending.returned (Value.string b)) (ba_ext (by simp))
  | false =>
    go_enter Tryz.func63, Tryz.ntmps63
    go_wp2_with fail
    refine (Place_any _ _ _).mono ?_
    rintro e1 w1 ⟨rfl, hg⟩
    have G1 := hide hg
    clear hg
    go_wp2_with fail
    refine (unhide HN _ (grown_alloc G1.out _)).mono ?_
    rintro e1 w2 ⟨rfl, rfl⟩
    go_wp2_with fail
    go_ret
    refine ⟨?_, grown_alloc G1.out _⟩
    rw [unhide HT]
    rfl

end Go.Proofs.YtckhafpejefbbaaGreatDoor
