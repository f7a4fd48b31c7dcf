/- Texts of the proof, put together: RunApply, RunApply2, RunRest, RunEval. -/
import Derived.Test.YtckhafpejefbbaaGreatDoorB14

/- Package run: part, apply, call. -/
namespace Go.Proofs.YtckhafpejefbbaaGreatDoor
open Go.RowKit

variable {B : Nat}

theorem va_num_clo (p : Value) (w : World) : Sem.run Tryz.prog (Instr.typeAssert (.iface 192 p) 119 216 true) w = .ok (.tuple #[.pointer none, .bool false]) w := by kernel_rfl
theorem va_num_side (p : Value) (w : World) : Sem.run Tryz.prog (Instr.typeAssert (.iface 192 p) 119 203 true) w = .ok (.tuple #[.agg #[.bool false], .bool false]) w := by kernel_rfl
theorem va_num_pair (p : Value) (w : World) : Sem.run Tryz.prog (Instr.typeAssert (.iface 192 p) 119 315 true) w = .ok (.tuple #[.pointer none, .bool false]) w := by kernel_rfl
theorem va_num_num (p : Value) (w : World) : Sem.run Tryz.prog (Instr.typeAssert (.iface 192 p) 119 192 true) w = .ok (.tuple #[p, .bool true]) w := by kernel_rfl
theorem va_truth_clo (p : Value) (w : World) : Sem.run Tryz.prog (Instr.typeAssert (.iface 196 p) 119 216 true) w = .ok (.tuple #[.pointer none, .bool false]) w := by kernel_rfl
theorem va_truth_side (p : Value) (w : World) : Sem.run Tryz.prog (Instr.typeAssert (.iface 196 p) 119 203 true) w = .ok (.tuple #[.agg #[.bool false], .bool false]) w := by kernel_rfl
theorem va_truth_pair (p : Value) (w : World) : Sem.run Tryz.prog (Instr.typeAssert (.iface 196 p) 119 315 true) w = .ok (.tuple #[.pointer none, .bool false]) w := by kernel_rfl
theorem va_truth_num (p : Value) (w : World) : Sem.run Tryz.prog (Instr.typeAssert (.iface 196 p) 119 192 true) w = .ok (.tuple #[.int .i64 0, .bool false]) w := by kernel_rfl
theorem va_side_clo (p : Value) (w : World) : Sem.run Tryz.prog (Instr.typeAssert (.iface 203 p) 119 216 true) w = .ok (.tuple #[.pointer none, .bool false]) w := by kernel_rfl
theorem va_side_side (p : Value) (w : World) : Sem.run Tryz.prog (Instr.typeAssert (.iface 203 p) 119 203 true) w = .ok (.tuple #[p, .bool true]) w := by kernel_rfl
theorem va_side_pair (p : Value) (w : World) : Sem.run Tryz.prog (Instr.typeAssert (.iface 203 p) 119 315 true) w = .ok (.tuple #[.pointer none, .bool false]) w := by kernel_rfl
theorem va_side_num (p : Value) (w : World) : Sem.run Tryz.prog (Instr.typeAssert (.iface 203 p) 119 192 true) w = .ok (.tuple #[.int .i64 0, .bool false]) w := by kernel_rfl
theorem va_pair_clo (p : Value) (w : World) : Sem.run Tryz.prog (Instr.typeAssert (.iface 315 p) 119 216 true) w = .ok (.tuple #[.pointer none, .bool false]) w := by kernel_rfl
theorem va_pair_side (p : Value) (w : World) : Sem.run Tryz.prog (Instr.typeAssert (.iface 315 p) 119 203 true) w = .ok (.tuple #[.agg #[.bool false], .bool false]) w := by kernel_rfl
theorem va_pair_pair (p : Value) (w : World) : Sem.run Tryz.prog (Instr.typeAssert (.iface 315 p) 119 315 true) w = .ok (.tuple #[p, .bool true]) w := by kernel_rfl
theorem va_pair_num (p : Value) (w : World) : Sem.run Tryz.prog (Instr.typeAssert (.iface 315 p) 119 192 true) w = .ok (.tuple #[.int .i64 0, .bool false]) w := by kernel_rfl
theorem va_clo_clo (p : Value) (w : World) : Sem.run Tryz.prog (Instr.typeAssert (.iface 216 p) 119 216 true) w = .ok (.tuple #[p, .bool true]) w := by kernel_rfl
theorem va_clo_side (p : Value) (w : World) : Sem.run Tryz.prog (Instr.typeAssert (.iface 216 p) 119 203 true) w = .ok (.tuple #[.agg #[.bool false], .bool false]) w := by kernel_rfl
theorem va_clo_pair (p : Value) (w : World) : Sem.run Tryz.prog (Instr.typeAssert (.iface 216 p) 119 315 true) w = .ok (.tuple #[.pointer none, .bool false]) w := by kernel_rfl
theorem va_clo_num (p : Value) (w : World) : Sem.run Tryz.prog (Instr.typeAssert (.iface 216 p) 119 192 true) w = .ok (.tuple #[.int .i64 0, .bool false]) w := by kernel_rfl

set_option maxRecDepth 100000 in
set_option maxHeartbeats 1000000 in
theorem part_any {w : World} {sl : List Nat} {y : Tw.Val} {yv : Value} (hy : VRep w sl y yv) (sec : Bool) :
    Calls Tryz.prog 208 #[yv, .agg #[.bool sec]] w fun e w' => ∃ v, e = .returned v ∧ HRep w' sl (Tw.sideS y sec) v ∧ w.grownBy w' none := by
  cases y with
  | num m =>
    obtain ⟨rfl, _⟩ := hy
    have q := va_num_pair
    go_enter Tryz.func208, Tryz.ntmps208
    go_wp2_with fail
    go_ret
    exact ⟨_, rfl, rfl, World.grownBy_alloc _ _ none⟩
  | truth m =>
    obtain rfl : yv = _ := hy
    have q := va_truth_pair
    go_enter Tryz.func208, Tryz.ntmps208
    go_wp2_with fail
    go_ret
    exact ⟨_, rfl, rfl, World.grownBy_alloc _ _ none⟩
  | side m =>
    obtain rfl : yv = _ := hy
    have q := va_side_pair
    go_enter Tryz.func208, Tryz.ntmps208
    go_wp2_with fail
    go_ret
    exact ⟨_, rfl, rfl, World.grownBy_alloc _ _ none⟩
  | clo fr to bn bat body env =>
    obtain ⟨b, fb, ev, v1, hi, rfl, _⟩ := hy
    have q := va_clo_pair
    go_enter Tryz.func208, Tryz.ntmps208
    go_wp2_with fail
    go_ret
    exact ⟨_, rfl, rfl, World.grownBy_alloc _ _ none⟩
  | pair l r =>
    obtain ⟨b, v1, v2, rfl, hb, h1, h2⟩ := hy
    have q := va_pair_pair
    have V1 := hide h1
    have V2 := hide h2
    obtain ⟨T1, p1, rfl⟩ := VRep.iface h1
    obtain ⟨T2, p2, rfl⟩ := VRep.iface h2
    obtain ⟨c0, c1, _, _⟩ := two_cells hb
    have hbl : b < w.heap.size := (Array.getElem?_eq_some_iff.1 hb).1
    clear h1 h2 hb
    cases sec
    · go_enter Tryz.func208, Tryz.ntmps208
      go_wp2_with fail
      go_ret
      exact ⟨_, rfl, (unhide V1).tk (TK.of_grown 0 _ (World.grownBy_alloc _ _ none)) (List.prefix_refl _), World.grownBy_alloc _ _ none⟩
    · go_enter Tryz.func208, Tryz.ntmps208
      go_wp2_with fail
      go_ret
      exact ⟨_, rfl, (unhide V2).tk (TK.of_grown 0 _ (World.grownBy_alloc _ _ none)) (List.prefix_refl _), World.grownBy_alloc _ _ none⟩

end Go.Proofs.YtckhafpejefbbaaGreatDoor

/- Package run: apply, call. -/
namespace Go.Proofs.YtckhafpejefbbaaGreatDoor
open Go.RowKit

variable {B : Nat}

set_option maxRecDepth 100000 in
set_option maxHeartbeats 4000000 in
theorem apply_clo {n : Nat} (hE : EvSaid B n) {w : World} {br bud : Nat} {sl : List Nat} {st : Tw.RS} {fr to bat : Nat} {bn : List UInt8} {body : Tw.T} {env : Tw.VEnv} {y : Tw.Val} {xv yv : Value} {c : Option Tw.Val × Tw.RS} (h : RunAt B w br bud sl st) (hx : VRep w sl (.clo fr to bn bat body env) xv) (hy : VRep w sl y yv)
    (hf : Tw.applyS bud n (.clo fr to bn bat body env) y st = some c) :
    Calls Tryz.prog 168 #[.pointer (some ⟨br, 0, none⟩), xv, yv] w (EvPost B w br bud sl c) := by
  obtain ⟨b, fb, ev, v1, hi, rfl, hb, hfb, hr, he⟩ := hx
  have q := va_clo_clo
  have HH := hide h
  have VY := hide hy
  have HB := hide hb
  have HFB := hide hfb
  have HR := hide hr
  have HE := hide he
  obtain ⟨T1, p1, rfl⟩ := VRep.iface hy
  obtain ⟨T2, k2, rfl⟩ := hr.iface
  obtain ⟨qa, rfl⟩ := he.ptr
  obtain ⟨c0, c1, c2, f0, f1, f2⟩ := three_cells h.runner
  have hst := h.steps
  have hbd := h.bud
  unfold Tw.applyS at hf
  simp only at hf
  clear h hy hb hfb hr he
  by_cases hs : st.steps = bud
  · rw [if_pos hs] at hf
    simp only [Option.some.injEq] at hf
    subst hf
    have be : ((st.steps : Int) == (bud : Int)) = true := by simp [hs]
    go_enter Tryz.func168, Tryz.ntmps168
    go_wp2_with fail
    go_region
    go_wp2_with fail
    go_ret
    have G : World.grownBy (w.setCell ⟨br, 2, none⟩ (.int .i64 2)) (w.setCell ⟨br, 2, none⟩ (.int .i64 2)).drew none := grown_drew (grown_refl _)
    exact ⟨_, sl, rfl, rfl, (TK.set (unhide HH).runner (by decide) (unhide HH).lob).trans (TK.of_grown _ _ G), List.prefix_refl _, ((unhide HH).setEnd 2).keep G⟩
  · rw [if_neg hs] at hf
    have HF := hide hf
    have be : ((st.steps : Int) == (bud : Int)) = false := by
      simp
      omega
    have hs1 : st.steps + 1 ≤ bud := by omega
    have nb : b ≠ br := by
      intro e; subst e
      have h1 := (unhide HH).runner
      rw [unhide HB] at h1
      simp at h1
    have nf : fb ≠ br := by
      intro e; subst e
      have h1 := (unhide HH).runner
      rw [unhide HFB] at h1
      simp at h1
    clear hf
    go_enter Tryz.func168, Tryz.ntmps168
    go_wp2_with fail
    go_region
    go_wp2_with fail
    have e1 : Value.int .i64 ((st.steps : Int) + 1) = .int .i64 ((st.steps + 1 : Nat) : Int) := by simp
    have R1 : Hid (RunAt B (w.setCell ⟨br, 1, none⟩ (.int .i64 ((st.steps : Int) + 1))).drew br bud sl { st with steps := st.steps + 1 }) := by
      rw [e1]
      exact ((unhide HH).setSteps (st.steps + 1) hs1).keep (grown_drew (grown_refl _))
    have K1 : Hid (TK B RunS w (w.setCell ⟨br, 1, none⟩ (.int .i64 ((st.steps : Int) + 1))).drew) := (TK.set (unhide HH).runner (by decide) (unhide HH).lob).trans (TK.of_grown _ _ (grown_drew (grown_refl _)))
    generalize (w.setCell ⟨br, 1, none⟩ (.int .i64 ((st.steps : Int) + 1))).drew = W1 at *
    have D1 : Hid (W1.grownBy W1.drew none) := grown_drew (grown_refl _)
    have R2 := hide (((unhide R1).keep D1.out).newSlot (ov := some y) (hv := .iface T1 p1) (((unhide VY).tk K1.out (List.prefix_refl _)).tk (TK.of_grown 0 _ D1.out) (List.prefix_refl _)))
    have A2 : Hid (W1.grownBy (W1.drew.alloc (.cells #[.iface T1 p1] 311)) none) := grown_alloc D1.out _
    have B1 := hide (K1.out.cells (unhide HB) (by decide))
    have F1 := hide (K1.out.cells (unhide HFB) (by decide))
    obtain ⟨g0, g1, _, _⟩ := two_cells (unhide B1)
    obtain ⟨_, _, j2, _, j4⟩ := five_cells (unhide F1)
    have lb : b < W1.heap.size := (Array.getElem?_eq_some_iff.1 (unhide B1)).1
    have lf : fb < W1.heap.size := (Array.getElem?_eq_some_iff.1 (unhide F1)).1
    have hne1 : b ≠ W1.heap.size := by omega
    have hne2 : fb ≠ W1.heap.size := by omega
    clear c0 c1 c2 f0 f1 f2 be q
    go_region_held3 (fun W => W.cell? ⟨b, 0, none⟩ = some (.pointer (some ⟨fb, 0, none⟩)) ∧ W.cell? ⟨b, 1, none⟩ = some (.pointer qa) ∧ W.cell? ⟨fb, 2, none⟩ = some (bytesV bn) ∧ W.cell? ⟨fb, 4, none⟩ = some (.iface T2 (.pointer (some ⟨k2, 0, none⟩)))) (go_keep)
      (first
        | (go_at_call 170; refine (withR_any (((unhide HE).tk K1.out (List.prefix_refl _)).tk (TK.of_grown 0 _ A2.out) (List.prefix_append _ [W1.heap.size])) bn (k := sl.length) (by simp)).mono ?_; rintro e1 w3 ⟨sa, rfl, hg, hn⟩
           have G3 : Hid (W1.grownBy w3 none) := grown_trans A2.out hg
           have N3 := hide hn
           have R3 := hide ((unhide R2).keep hg)
           obtain ⟨d0, d1, _, _⟩ := two_cells ((G3.out.block b lb (by simp)).trans (unhide B1))
           obtain ⟨_, _, d2, _, d4⟩ := five_cells ((G3.out.block fb lf (by simp)).trans (unhide F1))
           clear hg hn)
        | (go_at_call 50; refine (hE (unhide R3) (((unhide HR).kp (K1.out.kp (by decide))).grown G3.out (Nat.le_refl _) (Nat.le_refl _)) (unhide N3) (by rw [(unhide HH).len]; exact unhide HF)).mono ?_; rintro e1 w4 ⟨v4, sl4, rfl, hv4, hk4, hp4, hR4⟩
           have X : Hid (EvPost B w br bud sl c (.returned v4) w4) := ⟨v4, sl4, rfl, hv4, (K1.out.trans (TK.of_grown _ _ G3.out)).trans hk4, (List.prefix_append _ _).trans hp4, hR4⟩
           have SH := hide hv4.shape
           obtain ⟨d0, d1, _, _⟩ := two_cells (hk4.cells ((G3.out.block b lb (by simp)).trans (unhide B1)) (by decide))
           obtain ⟨_, _, d2, _, d4⟩ := five_cells (hk4.cells ((G3.out.block fb lf (by simp)).trans (unhide F1)) (by decide))
           clear hv4 hk4 hp4 hR4))
    go_wp2_with fail
    go_ret
    exact X.out

set_option maxRecDepth 100000 in
set_option maxHeartbeats 2000000 in
theorem apply_side {w : World} {br bud : Nat} {sl : List Nat} {st : Tw.RS} {sec : Bool} {y : Tw.Val} {yv : Value} (h : RunAt B w br bud sl st) (hy : VRep w sl y yv) :
    Calls Tryz.prog 168 #[.pointer (some ⟨br, 0, none⟩), .iface 203 (.agg #[.bool sec]), yv] w (EvPost B w br bud sl (Tw.sideS y sec, st)) := by
  have q := va_side_clo
  have q2 := va_side_side
  have HH := hide h
  have VY := hide hy
  obtain ⟨T1, p1, rfl⟩ := VRep.iface hy
  clear h hy
  have c1 : Tryz.prog.cellsOf 203 = 1 := by kernel_rfl
  go_enter Tryz.func168, Tryz.ntmps168
  go_wp2_with fail
  refine (part_any ((unhide VY).tk (TK.of_grown 0 _ (World.grownBy_alloc w (.cells #[.bool sec] 203) none)) (List.prefix_refl _)) sec).mono ?_
  rintro e1 w1 ⟨v, rfl, hv, hg⟩
  have G := grown_trans (World.grownBy_alloc w (.cells #[.bool sec] 203) none) hg
  have X : Hid (EvPost B w br bud sl (Tw.sideS y sec, st) (.returned v) w1) := ⟨v, sl, rfl, hv, TK.of_grown _ _ G, List.prefix_refl _, (unhide HH).keep G⟩
  have SH := hide hv.shape
  clear hv hg G
  go_wp2_with fail
  go_ret
  exact X.out

set_option maxRecDepth 100000 in
set_option maxHeartbeats 2000000 in
theorem apply_other {PT : TypeId} {p : Value} (q : ∀ (p : Value) (w : World), Sem.run Tryz.prog (Instr.typeAssert (.iface PT p) 119 216 true) w = .ok (.tuple #[.pointer none, .bool false]) w)
    (q2 : ∀ (p : Value) (w : World), Sem.run Tryz.prog (Instr.typeAssert (.iface PT p) 119 203 true) w = .ok (.tuple #[.agg #[.bool false], .bool false]) w) {w : World} {br bud : Nat} {sl : List Nat} {st : Tw.RS} {yv : Value} (h : RunAt B w br bud sl st) (hy : ∃ T p, yv = .iface T p) :
    Calls Tryz.prog 168 #[.pointer (some ⟨br, 0, none⟩), .iface PT p, yv] w (EvPost B w br bud sl (none, st)) := by
  have HH := hide h
  obtain ⟨T1, p1, rfl⟩ := hy
  clear h
  go_enter Tryz.func168, Tryz.ntmps168
  go_wp2_with fail
  go_ret
  exact ⟨_, sl, rfl, rfl, TK.refl _ _ _, List.prefix_refl _, unhide HH⟩

theorem apply_any {n : Nat} (hE : EvSaid B n) {w : World} {br bud : Nat} {sl : List Nat} {st : Tw.RS} {x y : Tw.Val} {xv yv : Value} {c : Option Tw.Val × Tw.RS} (h : RunAt B w br bud sl st) (hx : VRep w sl x xv) (hy : VRep w sl y yv) (hf : Tw.applyS bud n x y st = some c) :
    Calls Tryz.prog 168 #[.pointer (some ⟨br, 0, none⟩), xv, yv] w (EvPost B w br bud sl c) := by
  cases x with
  | clo => exact apply_clo hE h hx hy hf
  | side sec =>
    obtain rfl : xv = _ := hx
    cases hf
    exact apply_side h hy
  | num =>
    obtain ⟨rfl, _⟩ := hx
    cases hf
    exact apply_other va_num_clo va_num_side h (VRep.iface hy)
  | truth =>
    obtain rfl : xv = _ := hx
    cases hf
    exact apply_other va_truth_clo va_truth_side h (VRep.iface hy)
  | pair =>
    obtain ⟨b, v1, v2, rfl, _⟩ := hx
    cases hf
    exact apply_other va_pair_clo va_pair_side h (VRep.iface hy)

set_option maxRecDepth 100000 in
set_option maxHeartbeats 2000000 in
theorem rcall_any {n : Nat} (hE : EvSaid B n) {w : World} {br bud hi b : Nat} {sl : List Nat} {st : Tw.RS} {l r : Tw.T} {e : Tw.VEnv} {lv rv ev : Value} {fr to : Nat} {c : Option Tw.Val × Tw.RS} (h : RunAt B w br bud sl st)
    (hb : w.heap[b]? = some (.cells #[.int .i64 fr, .int .i64 to, lv, rv] 319 (0, 0))) (hl : Rep w 0 hi l lv) (hr : Rep w 0 hi r rv) (he : ERep w sl e ev) (hf : Tw.evalS bud (n + 1) (.call fr to l r) e st = some c) :
    Calls Tryz.prog 90 #[.pointer (some ⟨br, 0, none⟩), .pointer (some ⟨b, 0, none⟩), ev] w (EvPost B w br bud sl c) := by
  rw [Tw.evalS_call] at hf
  obtain ⟨a, ha, hf⟩ := Option.bind_eq_some_iff.1 hf
  have HH := hide h
  have HL := hide hl
  have HR := hide hr
  have HE := hide he
  have HA := hide ha
  have B0 := hide hb
  obtain ⟨T1, k1, rfl⟩ := hl.iface
  obtain ⟨T2, k2, rfl⟩ := hr.iface
  obtain ⟨q, rfl⟩ := he.ptr
  obtain ⟨c2, c3⟩ := four_cells2 hb
  have D1 : Hid (w.grownBy w.drew none) := grown_drew (grown_refl _)
  clear h hl hr he ha hb
  go_enter Tryz.func90, Tryz.ntmps90
  go_wp2_with fail
  go_region_held3 (fun W => W.cell? ⟨b, 2, none⟩ = some (.iface T1 (.pointer (some ⟨k1, 0, none⟩))) ∧ W.cell? ⟨b, 3, none⟩ = some (.iface T2 (.pointer (some ⟨k2, 0, none⟩)))) (go_keep)
    ((go_at_call 167; refine (both_any hE ((unhide HH).keep D1.out) ((unhide HL).grown D1.out (Nat.le_refl _) (Nat.le_refl _)) ((unhide HR).grown D1.out (Nat.le_refl _) (Nat.le_refl _)) ((unhide HE).tk (TK.of_grown 0 _ D1.out) (List.prefix_refl _)) (unhide HA)).mono ?_; rintro e1 w1 ⟨v1, v2, ok, sl1, rfl, hm, hk, hp, hR⟩
      have K1 : Hid (TK B RunS w w1) := (TK.of_grown _ _ D1.out).trans hk
      have P1 := hide hp
      have R1 := hide hR
      have HM := hide hm
      obtain ⟨d2, d3⟩ := four_cells2 (K1.out.cells B0.out (by decide))
      clear hk hp hR hm))
  obtain ⟨a1, a2⟩ := a
  cases a1 with
  | none =>
    obtain ⟨rfl, h1, rfl⟩ := HM.out
    simp only [Option.some.injEq] at hf
    subst hf
    go_wp2_with fail
    go_ret
    exact ⟨_, sl1, rfl, rfl, K1.out, unhide P1, unhide R1⟩
  | some xy =>
    obtain ⟨x, y⟩ := xy
    obtain ⟨rfl, h1, h2⟩ := HM.out
    have HF : Hid (Tw.applyS bud n x y a2 = some c) := hf
    have V1 := hide h1
    have V2 := hide h2
    obtain ⟨T3, p3, rfl⟩ := VRep.iface h1
    obtain ⟨T4, p4, rfl⟩ := VRep.iface h2
    clear h1 h2 HM hf
    go_wp2_with fail
    refine (apply_any hE (unhide R1) (unhide V1) (unhide V2) (unhide HF)).mono ?_
    rintro e1 w2 h2
    obtain ⟨v, sl2, rfl, hv, hk, hp, hR⟩ := h2
    have X : Hid (EvPost B w br bud sl c (.returned v) w2) := ⟨v, sl2, rfl, hv, K1.out.trans hk, (unhide P1).trans hp, hR⟩
    clear hv hk hp hR
    go_wp2_with fail
    go_ret
    exact X.out

end Go.Proofs.YtckhafpejefbbaaGreatDoor

/- Package run: reckon, binary, choice, let. -/
namespace Go.Proofs.YtckhafpejefbbaaGreatDoor
open Go.RowKit

variable {B : Nat}

theorem wrap64_in (n : Int) : -9223372036854775808 ≤ wrap64 n ∧ wrap64 n ≤ 9223372036854775807 := by
  unfold wrap64
  omega

set_option maxRecDepth 100000 in
set_option maxHeartbeats 2000000 in
theorem reckon_any {w : World} {br bud : Nat} {sl : List Nat} {st : Tw.RS} (h : RunAt B w br bud sl st) (sg a b : Int) :
    Calls Tryz.prog 169 #[.pointer (some ⟨br, 0, none⟩), .int .i64 sg, .int .i64 a, .int .i64 b] w (EvPost B w br bud sl (Tw.reckonS sg a b st)) := by
  have HH := hide h
  clear h
  unfold Tw.reckonS
  by_cases h1 : sg = 19
  · subst h1
    rw [if_pos rfl]
    go_enter Tryz.func169, Tryz.ntmps169
    go_wp2_with fail
    go_ret
    exact ⟨_, sl, rfl, ⟨rfl, wrap64_in _⟩, TK.refl _ _ _, List.prefix_refl _, unhide HH⟩
  rw [if_neg h1]
  by_cases h2 : sg = 20
  · subst h2
    rw [if_pos rfl]
    go_enter Tryz.func169, Tryz.ntmps169
    go_wp2_with fail
    go_ret
    exact ⟨_, sl, rfl, ⟨rfl, wrap64_in _⟩, TK.refl _ _ _, List.prefix_refl _, unhide HH⟩
  rw [if_neg h2]
  by_cases h3 : sg = 21
  · subst h3
    rw [if_pos rfl]
    go_enter Tryz.func169, Tryz.ntmps169
    go_wp2_with fail
    go_ret
    exact ⟨_, sl, rfl, ⟨rfl, wrap64_in _⟩, TK.refl _ _ _, List.prefix_refl _, unhide HH⟩
  rw [if_neg h3]
  by_cases h4 : sg = 23
  · subst h4
    rw [if_pos rfl]
    go_enter Tryz.func169, Tryz.ntmps169
    go_wp2_with fail
    go_ret
    exact ⟨_, sl, rfl, rfl, TK.refl _ _ _, List.prefix_refl _, unhide HH⟩
  rw [if_neg h4]
  by_cases h5 : sg = 15
  · subst h5
    rw [if_pos rfl]
    go_enter Tryz.func169, Tryz.ntmps169
    go_wp2_with fail
    go_ret
    exact ⟨_, sl, rfl, rfl, TK.refl _ _ _, List.prefix_refl _, unhide HH⟩
  rw [if_neg h5]
  have b1 : (sg == 19) = false := by simp [h1]
  have b2 : (sg == 20) = false := by simp [h2]
  have b3 : (sg == 21) = false := by simp [h3]
  have b4 : (sg == 23) = false := by simp [h4]
  have b5 : (sg == 15) = false := by simp [h5]
  by_cases h0 : b = 0
  · subst h0
    rw [if_pos rfl]
    go_enter Tryz.func169, Tryz.ntmps169
    go_wp2_with fail
    refine (fault_any (unhide HH)).mono ?_
    rintro e1 w1 ⟨v, sl', rfl, hv, hk, hp, hR⟩
    have X : Hid (EvPost B w br bud sl (none, { st with fin := 1 }) (.returned v) w1) := ⟨v, sl', rfl, hv, hk, hp, hR⟩
    clear hv hk hp hR
    go_wp2_with fail
    go_ret
    exact X.out
  · rw [if_neg h0]
    have b0 : (b == 0) = false := by simp [h0]
    go_enter Tryz.func169, Tryz.ntmps169
    go_wp2_with fail
    go_ret
    exact ⟨_, sl, rfl, ⟨rfl, wrap64_in _⟩, TK.refl _ _ _, List.prefix_refl _, unhide HH⟩

theorem as_num {w : World} {sl : List Nat} {x : Tw.Val} {v : Value} (h : VRep w sl x v) : ∃ T p ok, v = .iface T p ∧ ∀ W : World, Sem.run Tryz.prog (Instr.typeAssert (.iface T p) 119 192 true) W = .ok (.tuple #[.int .i64 (Tw.asNum x), .bool ok]) W := by
  cases x with
  | num n => obtain ⟨rfl, _⟩ := h; exact ⟨_, _, true, rfl, va_num_num _⟩
  | truth => obtain rfl : v = _ := h; exact ⟨_, _, false, rfl, va_truth_num _⟩
  | side => obtain rfl : v = _ := h; exact ⟨_, _, false, rfl, va_side_num _⟩
  | pair => obtain ⟨b, v1, v2, rfl, _⟩ := h; exact ⟨_, _, false, rfl, va_pair_num _⟩
  | clo => obtain ⟨b, fb, ev, v1, hi, rfl, _⟩ := h; exact ⟨_, _, false, rfl, va_clo_num _⟩

theorem five_cells2 {w : World} {b : Nat} {x y z u q : Value} {t : TypeId} (h : w.heap[b]? = some (.cells #[x, y, z, u, q] t (0, 0))) : w.cell? ⟨b, 2, none⟩ = some z ∧ w.cell? ⟨b, 3, none⟩ = some u ∧ w.cell? ⟨b, 4, none⟩ = some q := by
  refine ⟨?_, ?_, ?_⟩ <;> (rw [cell_of_row w b _ _ _ _ h]; rfl)

set_option maxRecDepth 100000 in
set_option maxHeartbeats 2000000 in
theorem rbinary_any {n : Nat} (hE : EvSaid B n) {w : World} {br bud hi b : Nat} {sl : List Nat} {st : Tw.RS} {l r : Tw.T} {e : Tw.VEnv} {lv rv ev : Value} {fr to : Nat} {sg : Int} {c : Option Tw.Val × Tw.RS} (h : RunAt B w br bud sl st)
    (hb : w.heap[b]? = some (.cells #[.int .i64 fr, .int .i64 to, .int .i64 sg, lv, rv] 322 (0, 0))) (hl : Rep w 0 hi l lv) (hr : Rep w 0 hi r rv) (he : ERep w sl e ev) (hf : Tw.evalS bud (n + 1) (.binary fr to sg l r) e st = some c) :
    Calls Tryz.prog 91 #[.pointer (some ⟨br, 0, none⟩), .pointer (some ⟨b, 0, none⟩), ev] w (EvPost B w br bud sl c) := by
  rw [Tw.evalS_binary] at hf
  obtain ⟨a, ha, hf⟩ := Option.bind_eq_some_iff.1 hf
  have HH := hide h
  have HL := hide hl
  have HR := hide hr
  have HE := hide he
  have HA := hide ha
  have B0 := hide hb
  obtain ⟨T1, k1, rfl⟩ := hl.iface
  obtain ⟨T2, k2, rfl⟩ := hr.iface
  obtain ⟨q, rfl⟩ := he.ptr
  obtain ⟨c2, c3, c4⟩ := five_cells2 hb
  have D1 : Hid (w.grownBy w.drew none) := grown_drew (grown_refl _)
  clear h hl hr he ha hb
  go_enter Tryz.func91, Tryz.ntmps91
  go_wp2_with fail
  go_region_held3 (fun W => W.cell? ⟨b, 3, none⟩ = some (.iface T1 (.pointer (some ⟨k1, 0, none⟩))) ∧ W.cell? ⟨b, 4, none⟩ = some (.iface T2 (.pointer (some ⟨k2, 0, none⟩)))) (go_keep)
    ((go_at_call 167; refine (both_any hE ((unhide HH).keep D1.out) ((unhide HL).grown D1.out (Nat.le_refl _) (Nat.le_refl _)) ((unhide HR).grown D1.out (Nat.le_refl _) (Nat.le_refl _)) ((unhide HE).tk (TK.of_grown 0 _ D1.out) (List.prefix_refl _)) (unhide HA)).mono ?_; rintro e1 w1 ⟨v1, v2, ok, sl1, rfl, hm, hk, hp, hR⟩
      have K1 : Hid (TK B RunS w w1) := (TK.of_grown _ _ D1.out).trans hk
      have P1 := hide hp
      have R1 := hide hR
      have HM := hide hm
      obtain ⟨d2, d3, d4⟩ := five_cells2 (K1.out.cells B0.out (by decide))
      clear hk hp hR hm))
  obtain ⟨a1, a2⟩ := a
  cases a1 with
  | none =>
    obtain ⟨rfl, h1, rfl⟩ := HM.out
    simp only [Option.some.injEq] at hf
    subst hf
    go_wp2_with fail
    go_ret
    exact ⟨_, sl1, rfl, rfl, K1.out, unhide P1, unhide R1⟩
  | some xy =>
    obtain ⟨x, y⟩ := xy
    obtain ⟨rfl, h1, h2⟩ := HM.out
    simp only [Option.some.injEq] at hf
    subst hf
    obtain ⟨T3, p3, ok3, rfl, q3⟩ := as_num h1
    obtain ⟨T4, p4, ok4, rfl, q4⟩ := as_num h2
    clear h1 h2 HM c2 c3 c4
    go_wp2_with fail
    refine (reckon_any (unhide R1) sg _ _).mono ?_
    rintro e1 w2 ⟨v, sl2, rfl, hv, hk, hp, hR⟩
    have X : Hid (EvPost B w br bud sl (Tw.reckonS sg (Tw.asNum x) (Tw.asNum y) a2) (.returned v) w2) := ⟨v, sl2, rfl, hv, K1.out.trans hk, (unhide P1).trans hp, hR⟩
    clear hv hk hp hR
    go_wp2_with fail
    go_ret
    exact X.out

theorem eq_num (m : Int) (w : World) : Sem.run Tryz.prog (binOp .eql 119 (.iface 192 (.int .i64 m)) (.iface 196 (.bool true))) w = .ok (.bool false) w := by kernel_rfl
theorem eq_side (m : Bool) (w : World) : Sem.run Tryz.prog (binOp .eql 119 (.iface 203 (.agg #[.bool m])) (.iface 196 (.bool true))) w = .ok (.bool false) w := by kernel_rfl
theorem eq_pair (m : Option Addr) (w : World) : Sem.run Tryz.prog (binOp .eql 119 (.iface 315 (.pointer m)) (.iface 196 (.bool true))) w = .ok (.bool false) w := by kernel_rfl
theorem eq_clo (m : Option Addr) (w : World) : Sem.run Tryz.prog (binOp .eql 119 (.iface 216 (.pointer m)) (.iface 196 (.bool true))) w = .ok (.bool false) w := by kernel_rfl
theorem eq_false (w : World) : Sem.run Tryz.prog (binOp .eql 119 (.iface 196 (.bool false)) (.iface 196 (.bool true))) w = .ok (.bool false) w := by kernel_rfl
theorem eq_true' (w : World) : Sem.run Tryz.prog (binOp .eql 119 (.iface 196 (.bool true)) (.iface 196 (.bool true))) w = .ok (.bool true) w := by kernel_rfl

theorem is_true {w : World} {sl : List Nat} {x : Tw.Val} {v : Value} (h : VRep w sl x v) : ∃ T p, v = .iface T p ∧ ∀ W : World, Sem.run Tryz.prog (binOp .eql 119 (.iface T p) (.iface 196 (.bool true))) W = .ok (.bool (decide (x = .truth true))) W := by
  cases x with
  | num n => obtain ⟨rfl, _⟩ := h; exact ⟨_, _, rfl, fun W => eq_num n W⟩
  | truth m =>
    obtain rfl : v = _ := h
    refine ⟨_, _, rfl, fun W => ?_⟩
    cases m
    · exact eq_false W
    · exact eq_true' W
  | side m => obtain rfl : v = _ := h; exact ⟨_, _, rfl, fun W => eq_side m W⟩
  | pair => obtain ⟨b, v1, v2, rfl, _⟩ := h; exact ⟨_, _, rfl, fun W => eq_pair _ W⟩
  | clo => obtain ⟨b, fb, ev, v1, hi, rfl, _⟩ := h; exact ⟨_, _, rfl, fun W => eq_clo _ W⟩

set_option maxRecDepth 100000 in
set_option maxHeartbeats 4000000 in
theorem rchoice_any {n : Nat} (hE : EvSaid B n) {w : World} {br bud hi b : Nat} {sl : List Nat} {st : Tw.RS} {t1 t2 t3 : Tw.T} {e : Tw.VEnv} {v1 v2 v3 ev : Value} {fr to : Nat} {c : Option Tw.Val × Tw.RS} (h : RunAt B w br bud sl st)
    (hb : w.heap[b]? = some (.cells #[.int .i64 fr, .int .i64 to, v1, v2, v3] 326 (0, 0))) (h1 : Rep w 0 hi t1 v1) (h2 : Rep w 0 hi t2 v2) (h3 : Rep w 0 hi t3 v3) (he : ERep w sl e ev) (hf : Tw.evalS bud (n + 1) (.cond fr to t1 t2 t3) e st = some c) :
    Calls Tryz.prog 92 #[.pointer (some ⟨br, 0, none⟩), .pointer (some ⟨b, 0, none⟩), ev] w (EvPost B w br bud sl c) := by
  rw [Tw.evalS] at hf
  obtain ⟨a, ha, hf⟩ := Option.bind_eq_some_iff.1 hf
  have HH := hide h
  have H1 := hide h1
  have H2 := hide h2
  have H3 := hide h3
  have HE := hide he
  have HA := hide ha
  have B0 := hide hb
  obtain ⟨T1, k1, rfl⟩ := h1.iface
  obtain ⟨T2, k2, rfl⟩ := h2.iface
  obtain ⟨T3, k3, rfl⟩ := h3.iface
  obtain ⟨q, rfl⟩ := he.ptr
  obtain ⟨c2, c3, c4⟩ := five_cells2 hb
  clear h h1 h2 h3 he ha hb
  go_enter Tryz.func92, Tryz.ntmps92
  go_wp2_with fail
  refine (hE (unhide HH) (unhide H1) (unhide HE) (unhide HA)).mono ?_
  rintro e1 w1 ⟨v, sl1, rfl, hv, hk, hp, hR⟩
  have K1 := hide hk
  have P1 := hide hp
  have R1 := hide hR
  obtain ⟨d2, d3, d4⟩ := five_cells2 (hk.cells B0.out (by decide))
  obtain ⟨a1, a2⟩ := a
  clear hk hp hR c2 c3 c4
  have tail : Hid (∀ (t : Tw.T) (T k : Nat), Rep w 0 hi t (.iface T (.pointer (some ⟨k, 0, none⟩))) → Tw.evalS bud n t e a2 = some c → Calls Tryz.prog 50 #[.pointer (some ⟨br, 0, none⟩), .iface T (.pointer (some ⟨k, 0, none⟩)), .pointer q] w1 (EvPost B w br bud sl c)) :=
    fun t T k hr hf => (hE (unhide R1) (hr.kp ((unhide K1).kp (by decide))) ((unhide HE).tk (unhide K1) (unhide P1)) hf).mono fun _ _ x => x.from (unhide K1) (unhide P1)
  cases a1 with
  | none =>
    simp only [Option.some.injEq] at hf
    subst hf
    obtain rfl : v = .nilIface := hv
    go_wp2_with fail
    go_ret
    exact ⟨_, sl1, rfl, rfl, unhide K1, unhide P1, unhide R1⟩
  | some x =>
    simp only at hf
    obtain ⟨T, p, rfl, heq⟩ := is_true hv
    by_cases hx : x = .truth true
    · rw [if_pos hx] at hf
      have CA := hide (unhide tail t2 T2 k2 (unhide H2) hf)
      simp only [hx, decide_true] at heq
      clear hf tail hv
      go_wp2_with fail
      refine (unhide CA).mono ?_
      rintro e1 w2 ⟨v, sl2, rfl, hx⟩
      have X : Hid (EvPost B w br bud sl c (.returned v) w2) := ⟨v, sl2, rfl, hx⟩
      clear hx
      go_wp2_with fail
      go_ret
      exact X.out
    · rw [if_neg hx] at hf
      have CA := hide (unhide tail t3 T3 k3 (unhide H3) hf)
      simp only [hx, decide_false] at heq
      clear hf tail hv
      go_wp2_with fail
      refine (unhide CA).mono ?_
      rintro e1 w2 ⟨v, sl2, rfl, hx⟩
      have X : Hid (EvPost B w br bud sl c (.returned v) w2) := ⟨v, sl2, rfl, hx⟩
      clear hx
      go_wp2_with fail
      go_ret
      exact X.out

set_option maxRecDepth 100000 in
set_option maxHeartbeats 4000000 in
theorem rlet_any {n : Nat} (hE : EvSaid B n) {w : World} {br bud hi b : Nat} {sl : List Nat} {st : Tw.RS} {d x : Tw.T} {e : Tw.VEnv} {v1 v2 ev : Value} {fr to bat : Nat} {rc : Bool} {bn : List UInt8} {c : Option Tw.Val × Tw.RS} (h : RunAt B w br bud sl st)
    (hb : w.heap[b]? = some (.cells #[.int .i64 fr, .int .i64 to, .bool rc, bytesV bn, .int .i64 bat, v1, v2] 140 (0, 0))) (h1 : Rep w 0 hi d v1) (h2 : Rep w 0 hi x v2) (he : ERep w sl e ev) (hf : Tw.evalS bud (n + 1) (.lett fr to rc bn bat d x) e st = some c) :
    Calls Tryz.prog 93 #[.pointer (some ⟨br, 0, none⟩), .pointer (some ⟨b, 0, none⟩), ev] w (EvPost B w br bud sl c) := by
  rw [Tw.evalS] at hf
  obtain ⟨a, ha, hf⟩ := Option.bind_eq_some_iff.1 hf
  have hlen := h.len
  have HH := hide h
  have H1 := hide h1
  have H2 := hide h2
  have HE := hide he
  have HA := hide ha
  have B0 := hide hb
  obtain ⟨T1, k1, rfl⟩ := h1.iface
  obtain ⟨T2, k2, rfl⟩ := h2.iface
  obtain ⟨q, rfl⟩ := he.ptr
  have lb : b < w.heap.size := (Array.getElem?_eq_some_iff.1 hb).1
  have R0 := hide (h.newSlot (ov := none) (hv := .nilIface) rfl)
  have A0 : Hid (w.grownBy (w.alloc (.cells #[.nilIface] 311)) none) := World.grownBy_alloc _ _ none
  have E0 := hide (he.tk (TK.of_grown 0 _ A0.out) (List.prefix_append sl [w.heap.size]))
  obtain ⟨c2, c3, c5, c6⟩ := seven_cells hb
  clear h h1 h2 he ha hb
  go_enter Tryz.func93, Tryz.ntmps93
  go_wp2_with fail
  refine (withR_any (unhide E0) bn (k := sl.length) (bs := w.heap.size) (by simp)).mono ?_
  rintro e1 w1 ⟨sa, rfl, hg, hn⟩
  have G1 : Hid (w.grownBy w1 none) := grown_trans A0.out hg
  have N1 := hide hn
  have R1 := hide ((unhide R0).keep hg)
  have O1 := hide ((unhide E0).tk (TK.of_grown 0 _ hg) (List.prefix_refl _))
  obtain ⟨d2, d3, d5, d6⟩ := seven_cells ((G1.out.block b lb (by simp)).trans B0.out)
  clear hg hn c2 c3 c5 c6
  have key : Hid (∃ iv, iv = (if rc then .pointer sa else .pointer q : Value) ∧ ERep w1 (sl ++ [w.heap.size]) (if rc then (bn, st.slots.length) :: e else e) iv) := by
    cases rc
    · exact ⟨_, rfl, unhide O1⟩
    · exact ⟨_, rfl, by rw [← hlen]; exact unhide N1⟩
  cases rc <;> (
    simp only [Bool.false_eq_true, if_false, if_true] at key HA
    obtain ⟨iv, rfl, hiv⟩ := key.out
    have HIV := hide hiv
    clear hiv key
    go_wp2_with fail
    refine (hE (unhide R1) ((unhide H1).grown G1.out (Nat.le_refl _) (Nat.le_refl _)) (unhide HIV) (unhide HA)).mono ?_
    rintro e1 w2 ⟨v, sl2, rfl, hv, hk, hp, hR⟩
    obtain ⟨a1, a2⟩ := a
    have K2 : Hid (TK B RunS w w2) := (TK.of_grown _ _ G1.out).trans hk
    have P2 := hide hp
    have R2 := hide hR
    have N2 := hide ((unhide N1).tk hk hp)
    obtain ⟨g2, g3, g5, g6⟩ := seven_cells (K2.out.cells B0.out (by decide))
    have hsl : sl2[sl.length]? = some w.heap.size := by
      obtain ⟨r, rfl⟩ := hp
      simp
    cases a1 with
    | none =>
      simp only [Option.some.injEq] at hf
      subst hf
      obtain rfl : v = .nilIface := hv
      clear hk hp hR
      go_wp2_with fail
      go_ret
      exact ⟨_, sl2, rfl, rfl, K2.out, (List.prefix_append _ _).trans (unhide P2), unhide R2⟩
    | some y =>
      simp only at hf
      have HF := hide hf
      obtain ⟨R3, K3⟩ := hR.setSlot hsl (x := y) (v := v) hv
      have hl2 : sl.length < a2.slots.length := by rw [← hR.len]; exact (List.getElem?_eq_some_iff.1 hsl).1
      obtain ⟨hv0, hc0, _⟩ := hR.slot hsl (List.getElem?_eq_getElem hl2)
      obtain ⟨s0, s1⟩ := one_cell hc0
      obtain ⟨T5, p5, rfl⟩ := VRep.iface hv
      have R3 := hide R3
      have K3 := hide (K2.out.trans K3)
      have N3 := hide ((unhide N2).tk (TK.set (j := 0) (v := .iface T5 p5) hc0 (by decide) ((unhide R2).los hsl)) (List.prefix_refl _))
      have hbne : b ≠ w.heap.size := by omega
      have u6 : (w2.setCell ⟨w.heap.size, 0, none⟩ (.iface T5 p5)).cell? ⟨b, 6, none⟩ = some (.iface T2 (.pointer (some ⟨k2, 0, none⟩))) := (seven_cells ((unhide K3).cells B0.out (by decide))).2.2.2
      clear hk hp hR hv hf hc0
      go_wp2_with fail
      refine (hE (unhide R3) ((unhide H2).kp ((unhide K3).kp (by decide))) (unhide N3) (by rw [hlen]; exact unhide HF)).mono ?_
      rintro e1 w4 ⟨v4, sl4, rfl, hv4, hk4, hp4, hR4⟩
      have X : Hid (EvPost B w br bud sl c (.returned v4) w4) := ⟨v4, sl4, rfl, hv4, (unhide K3).trans hk4, ((List.prefix_append _ _).trans (unhide P2)).trans hp4, hR4⟩
      clear hv4 hk4 hp4 hR4
      go_wp2_with fail
      go_ret
      exact X.out)

end Go.Proofs.YtckhafpejefbbaaGreatDoor

/- Package run: eval whole; Text. -/
namespace Go.Proofs.YtckhafpejefbbaaGreatDoor
open Go.RowKit

variable {B : Nat}

set_option maxRecDepth 100000 in
set_option maxHeartbeats 2000000 in
theorem ev_Name {w : World} {br b bud : Nat} {sl : List Nat} {ev : Value} {c : Option Tw.Val × Tw.RS} (he : ∃ a, ev = .pointer a) (hX : Calls Tryz.prog 88 #[.pointer (some ⟨br, 0, none⟩), .pointer (some ⟨b, 0, none⟩), ev] w (EvPost B w br bud sl c)) :
    Calls Tryz.prog 50 #[.pointer (some ⟨br, 0, none⟩), .iface 83 (.pointer (some ⟨b, 0, none⟩)), ev] w (EvPost B w br bud sl c) := by
  obtain ⟨a, rfl⟩ := he
  have HX := hide hX
  have q0 := ta_Name_Name
  clear hX
  go_enter Tryz.func50, Tryz.ntmps50
  go_wp2_with fail
  refine (unhide HX).mono ?_
  rintro e1 w1 ⟨v, sl1, rfl, hx⟩
  have X : Hid (EvPost B w br bud sl c (.returned v) w1) := ⟨v, sl1, rfl, hx⟩
  clear hx
  go_wp2_with fail
  go_ret
  exact X.out

set_option maxRecDepth 100000 in
set_option maxHeartbeats 2000000 in
theorem ev_Pair {w : World} {br b bud : Nat} {sl : List Nat} {ev : Value} {c : Option Tw.Val × Tw.RS} (he : ∃ a, ev = .pointer a) (hX : Calls Tryz.prog 89 #[.pointer (some ⟨br, 0, none⟩), .pointer (some ⟨b, 0, none⟩), ev] w (EvPost B w br bud sl c)) :
    Calls Tryz.prog 50 #[.pointer (some ⟨br, 0, none⟩), .iface 207 (.pointer (some ⟨b, 0, none⟩)), ev] w (EvPost B w br bud sl c) := by
  obtain ⟨a, rfl⟩ := he
  have HX := hide hX
  have q0 := ta_Pair_Name
  have q1 := ta_Pair_Int
  have q2 := ta_Pair_Truth
  have q3 := ta_Pair_Side
  have q4 := ta_Pair_Bracket
  have q5 := ta_Pair_Pair
  clear hX
  go_enter Tryz.func50, Tryz.ntmps50
  go_wp2_with fail
  refine (unhide HX).mono ?_
  rintro e1 w1 ⟨v, sl1, rfl, hx⟩
  have X : Hid (EvPost B w br bud sl c (.returned v) w1) := ⟨v, sl1, rfl, hx⟩
  clear hx
  go_wp2_with fail
  go_ret
  exact X.out

set_option maxRecDepth 100000 in
set_option maxHeartbeats 2000000 in
theorem ev_Call {w : World} {br b bud : Nat} {sl : List Nat} {ev : Value} {c : Option Tw.Val × Tw.RS} (he : ∃ a, ev = .pointer a) (hX : Calls Tryz.prog 90 #[.pointer (some ⟨br, 0, none⟩), .pointer (some ⟨b, 0, none⟩), ev] w (EvPost B w br bud sl c)) :
    Calls Tryz.prog 50 #[.pointer (some ⟨br, 0, none⟩), .iface 209 (.pointer (some ⟨b, 0, none⟩)), ev] w (EvPost B w br bud sl c) := by
  obtain ⟨a, rfl⟩ := he
  have HX := hide hX
  have q0 := ta_Call_Name
  have q1 := ta_Call_Int
  have q2 := ta_Call_Truth
  have q3 := ta_Call_Side
  have q4 := ta_Call_Bracket
  have q5 := ta_Call_Pair
  have q6 := ta_Call_Call
  clear hX
  go_enter Tryz.func50, Tryz.ntmps50
  go_wp2_with fail
  refine (unhide HX).mono ?_
  rintro e1 w1 ⟨v, sl1, rfl, hx⟩
  have X : Hid (EvPost B w br bud sl c (.returned v) w1) := ⟨v, sl1, rfl, hx⟩
  clear hx
  go_wp2_with fail
  go_ret
  exact X.out

set_option maxRecDepth 100000 in
set_option maxHeartbeats 2000000 in
theorem ev_Binary {w : World} {br b bud : Nat} {sl : List Nat} {ev : Value} {c : Option Tw.Val × Tw.RS} (he : ∃ a, ev = .pointer a) (hX : Calls Tryz.prog 91 #[.pointer (some ⟨br, 0, none⟩), .pointer (some ⟨b, 0, none⟩), ev] w (EvPost B w br bud sl c)) :
    Calls Tryz.prog 50 #[.pointer (some ⟨br, 0, none⟩), .iface 211 (.pointer (some ⟨b, 0, none⟩)), ev] w (EvPost B w br bud sl c) := by
  obtain ⟨a, rfl⟩ := he
  have HX := hide hX
  have q0 := ta_Binary_Name
  have q1 := ta_Binary_Int
  have q2 := ta_Binary_Truth
  have q3 := ta_Binary_Side
  have q4 := ta_Binary_Bracket
  have q5 := ta_Binary_Pair
  have q6 := ta_Binary_Call
  have q7 := ta_Binary_Binary
  clear hX
  go_enter Tryz.func50, Tryz.ntmps50
  go_wp2_with fail
  refine (unhide HX).mono ?_
  rintro e1 w1 ⟨v, sl1, rfl, hx⟩
  have X : Hid (EvPost B w br bud sl c (.returned v) w1) := ⟨v, sl1, rfl, hx⟩
  clear hx
  go_wp2_with fail
  go_ret
  exact X.out

set_option maxRecDepth 100000 in
set_option maxHeartbeats 2000000 in
theorem ev_If {w : World} {br b bud : Nat} {sl : List Nat} {ev : Value} {c : Option Tw.Val × Tw.RS} (he : ∃ a, ev = .pointer a) (hX : Calls Tryz.prog 92 #[.pointer (some ⟨br, 0, none⟩), .pointer (some ⟨b, 0, none⟩), ev] w (EvPost B w br bud sl c)) :
    Calls Tryz.prog 50 #[.pointer (some ⟨br, 0, none⟩), .iface 213 (.pointer (some ⟨b, 0, none⟩)), ev] w (EvPost B w br bud sl c) := by
  obtain ⟨a, rfl⟩ := he
  have HX := hide hX
  have q0 := ta_If_Name
  have q1 := ta_If_Int
  have q2 := ta_If_Truth
  have q3 := ta_If_Side
  have q4 := ta_If_Bracket
  have q5 := ta_If_Pair
  have q6 := ta_If_Call
  have q7 := ta_If_Binary
  have q8 := ta_If_If
  clear hX
  go_enter Tryz.func50, Tryz.ntmps50
  go_wp2_with fail
  refine (unhide HX).mono ?_
  rintro e1 w1 ⟨v, sl1, rfl, hx⟩
  have X : Hid (EvPost B w br bud sl c (.returned v) w1) := ⟨v, sl1, rfl, hx⟩
  clear hx
  go_wp2_with fail
  go_ret
  exact X.out

set_option maxRecDepth 100000 in
set_option maxHeartbeats 2000000 in
theorem ev_Let {w : World} {br b bud : Nat} {sl : List Nat} {ev : Value} {c : Option Tw.Val × Tw.RS} (he : ∃ a, ev = .pointer a) (hX : Calls Tryz.prog 93 #[.pointer (some ⟨br, 0, none⟩), .pointer (some ⟨b, 0, none⟩), ev] w (EvPost B w br bud sl c)) :
    Calls Tryz.prog 50 #[.pointer (some ⟨br, 0, none⟩), .iface 136 (.pointer (some ⟨b, 0, none⟩)), ev] w (EvPost B w br bud sl c) := by
  obtain ⟨a, rfl⟩ := he
  have HX := hide hX
  have q0 := ta_Let_Name
  have q1 := ta_Let_Int
  have q2 := ta_Let_Truth
  have q3 := ta_Let_Side
  have q4 := ta_Let_Bracket
  have q5 := ta_Let_Pair
  have q6 := ta_Let_Call
  have q7 := ta_Let_Binary
  have q8 := ta_Let_If
  have q9 := ta_Let_Fun
  have q10 := ta_Let_Let
  clear hX
  go_enter Tryz.func50, Tryz.ntmps50
  go_wp2_with fail
  refine (unhide HX).mono ?_
  rintro e1 w1 ⟨v, sl1, rfl, hx⟩
  have X : Hid (EvPost B w br bud sl c (.returned v) w1) := ⟨v, sl1, rfl, hx⟩
  clear hx
  go_wp2_with fail
  go_ret
  exact X.out

set_option maxRecDepth 100000 in
set_option maxHeartbeats 2000000 in
theorem ev_Int {w : World} {br b bud : Nat} {sl : List Nat} {st : Tw.RS} {ev : Value} {fr to : Nat} {v : Int} (h : RunAt B w br bud sl st) (he : ∃ a, ev = .pointer a) (hb : w.heap[b]? = some (.cells #[.int .i64 fr, .int .i64 to, .int .i64 v] 194 (0, 0))) (hv : -9223372036854775808 ≤ v ∧ v ≤ 9223372036854775807) :
    Calls Tryz.prog 50 #[.pointer (some ⟨br, 0, none⟩), .iface 191 (.pointer (some ⟨b, 0, none⟩)), ev] w (EvPost B w br bud sl (some (.num v), st)) := by
  obtain ⟨a, rfl⟩ := he
  have HH := hide h
  obtain ⟨_, _, c2, _⟩ := three_cells hb
  have q0 := ta_Int_Name
  have q1 := ta_Int_Int
  clear h hb
  go_enter Tryz.func50, Tryz.ntmps50
  go_wp2_with fail
  go_ret
  exact ⟨_, sl, rfl, ⟨rfl, hv⟩, TK.refl _ _ _, List.prefix_refl _, unhide HH⟩

set_option maxRecDepth 100000 in
set_option maxHeartbeats 2000000 in
theorem ev_Truth {w : World} {br b bud : Nat} {sl : List Nat} {st : Tw.RS} {ev : Value} {fr to : Nat} {v : Bool} (h : RunAt B w br bud sl st) (he : ∃ a, ev = .pointer a) (hb : w.heap[b]? = some (.cells #[.int .i64 fr, .int .i64 to, .bool v] 198 (0, 0))) :
    Calls Tryz.prog 50 #[.pointer (some ⟨br, 0, none⟩), .iface 195 (.pointer (some ⟨b, 0, none⟩)), ev] w (EvPost B w br bud sl (some (.truth v), st)) := by
  obtain ⟨a, rfl⟩ := he
  have HH := hide h
  obtain ⟨_, _, c2, _⟩ := three_cells hb
  have q0 := ta_Truth_Name
  have q1 := ta_Truth_Int
  have q2 := ta_Truth_Truth
  clear h hb
  go_enter Tryz.func50, Tryz.ntmps50
  go_wp2_with fail
  go_ret
  exact ⟨_, sl, rfl, rfl, TK.refl _ _ _, List.prefix_refl _, unhide HH⟩

set_option maxRecDepth 100000 in
set_option maxHeartbeats 2000000 in
theorem ev_Side {w : World} {br b bud : Nat} {sl : List Nat} {st : Tw.RS} {ev : Value} {fr to : Nat} {v : Bool} (h : RunAt B w br bud sl st) (he : ∃ a, ev = .pointer a) (hb : w.heap[b]? = some (.cells #[.int .i64 fr, .int .i64 to, .bool v] 201 (0, 0))) :
    Calls Tryz.prog 50 #[.pointer (some ⟨br, 0, none⟩), .iface 199 (.pointer (some ⟨b, 0, none⟩)), ev] w (EvPost B w br bud sl (some (.side v), st)) := by
  obtain ⟨a, rfl⟩ := he
  have HH := hide h
  obtain ⟨_, _, c2, _⟩ := three_cells hb
  have q0 := ta_Side_Name
  have q1 := ta_Side_Int
  have q2 := ta_Side_Truth
  have q3 := ta_Side_Side
  clear h hb
  go_enter Tryz.func50, Tryz.ntmps50
  go_wp2_with fail
  go_ret
  exact ⟨_, sl, rfl, rfl, TK.refl _ _ _, List.prefix_refl _, unhide HH⟩

set_option maxRecDepth 100000 in
set_option maxHeartbeats 2000000 in
theorem ev_Bracket {w : World} {br b bud : Nat} {sl : List Nat} {ev iv : Value} {fr to : Nat} {c : Option Tw.Val × Tw.RS} (he : ∃ a, ev = .pointer a) (hi : ∃ T n, iv = .iface T (.pointer (some ⟨n, 0, none⟩))) (hb : w.heap[b]? = some (.cells #[.int .i64 fr, .int .i64 to, iv] 206 (0, 0)))
    (hX : Calls Tryz.prog 50 #[.pointer (some ⟨br, 0, none⟩), iv, ev] w (EvPost B w br bud sl c)) :
    Calls Tryz.prog 50 #[.pointer (some ⟨br, 0, none⟩), .iface 204 (.pointer (some ⟨b, 0, none⟩)), ev] w (EvPost B w br bud sl c) := by
  obtain ⟨a, rfl⟩ := he
  obtain ⟨T, k, rfl⟩ := hi
  have HX := hide hX
  obtain ⟨_, _, c2, _⟩ := three_cells hb
  have q0 := ta_Bracket_Name
  have q1 := ta_Bracket_Int
  have q2 := ta_Bracket_Truth
  have q3 := ta_Bracket_Side
  have q4 := ta_Bracket_Bracket
  clear hX hb
  go_enter Tryz.func50, Tryz.ntmps50
  go_wp2_with fail
  refine (unhide HX).mono ?_
  rintro e1 w1 ⟨v, sl1, rfl, hx⟩
  have X : Hid (EvPost B w br bud sl c (.returned v) w1) := ⟨v, sl1, rfl, hx⟩
  clear hx
  go_wp2_with fail
  go_ret
  exact X.out

set_option maxRecDepth 100000 in
set_option maxHeartbeats 2000000 in
theorem ev_Fun {w : World} {br b bud hi : Nat} {sl : List Nat} {st : Tw.RS} {e : Tw.VEnv} {ev bv : Value} {fr to bat : Nat} {bn : List UInt8} {body : Tw.T} (h : RunAt B w br bud sl st) (he : ERep w sl e ev) (hb : w.heap[b]? = some (.cells #[.int .i64 fr, .int .i64 to, bytesV bn, .int .i64 bat, bv] 235 (0, 0))) (hr : Rep w 0 hi body bv) :
    Calls Tryz.prog 50 #[.pointer (some ⟨br, 0, none⟩), .iface 215 (.pointer (some ⟨b, 0, none⟩)), ev] w (EvPost B w br bud sl (some (.clo fr to bn bat body e), st)) := by
  have HE := hide he
  have HH := hide h
  have HB := hide hb
  have HR := hide hr
  obtain ⟨a, rfl⟩ := he.ptr
  have q0 := ta_Fun_Name
  have q1 := ta_Fun_Int
  have q2 := ta_Fun_Truth
  have q3 := ta_Fun_Side
  have q4 := ta_Fun_Bracket
  have q5 := ta_Fun_Pair
  have q6 := ta_Fun_Call
  have q7 := ta_Fun_Binary
  have q8 := ta_Fun_If
  have q9 := ta_Fun_Fun
  clear h hb hr he
  go_enter Tryz.func50, Tryz.ntmps50
  go_wp2_with fail
  go_ret
  have G := World.grownBy_alloc w (.cells #[.pointer (some ⟨b, 0, none⟩), .pointer a] 218) none
  exact ⟨_, sl, rfl, ⟨_, b, _, bv, hi, rfl, new_block w _, (G.block b (Array.getElem?_eq_some_iff.1 (unhide HB)).1 (by simp)).trans (unhide HB), (unhide HR).grown G (Nat.le_refl _) (Nat.le_refl _), (unhide HE).tk (TK.of_grown 0 _ G) (List.prefix_refl _)⟩, TK.of_grown _ _ G, List.prefix_refl _, (unhide HH).keep G⟩

theorem eval_step {n : Nat} (hE : EvSaid B n) : EvSaid B (n + 1) := by
  intro w br bud hi sl st t e tv ev r h hr he hf
  cases t with
  | name fr to x =>
    obtain ⟨b, _, _, rfl, hb⟩ := hr
    exact ev_Name he.ptr (rname_any h hb he hf)
  | int fr to v =>
    obtain ⟨b, _, _, rfl, hb⟩ := hr
    rw [Tw.evalS] at hf
    split at hf
    · rename_i hv
      cases hf
      exact ev_Int h he.ptr hb hv
    · cases hf
  | truth fr to v =>
    obtain ⟨b, _, _, rfl, hb⟩ := hr
    cases hf
    exact ev_Truth h he.ptr hb
  | side fr to v =>
    obtain ⟨b, _, _, rfl, hb⟩ := hr
    cases hf
    exact ev_Side h he.ptr hb
  | bracket fr to i =>
    obtain ⟨v1, ⟨b, _, _, rfl, hb⟩, r1⟩ := hr
    exact ev_Bracket he.ptr r1.iface hb (hE h r1 he hf)
  | pair fr to l q =>
    obtain ⟨v1, v2, ⟨b, _, _, rfl, hb⟩, r1, r2⟩ := hr
    exact ev_Pair he.ptr (rpair_any hE h hb r1 r2 he hf)
  | call fr to f a =>
    obtain ⟨v1, v2, ⟨b, _, _, rfl, hb⟩, r1, r2⟩ := hr
    exact ev_Call he.ptr (rcall_any hE h hb r1 r2 he hf)
  | binary fr to sg l q =>
    obtain ⟨v1, v2, ⟨b, _, _, rfl, hb⟩, r1, r2⟩ := hr
    exact ev_Binary he.ptr (rbinary_any hE h hb r1 r2 he hf)
  | cond fr to c t f =>
    obtain ⟨v1, v2, v3, ⟨b, _, _, rfl, hb⟩, r1, r2, r3⟩ := hr
    exact ev_If he.ptr (rchoice_any hE h hb r1 r2 r3 he hf)
  | fn fr to bn bat body =>
    obtain ⟨v1, ⟨b, _, _, rfl, hb⟩, r1⟩ := hr
    cases hf
    exact ev_Fun h he hb r1
  | lett fr to rc bn bat d x =>
    obtain ⟨v1, v2, ⟨b, _, _, rfl, hb⟩, r1, r2⟩ := hr
    exact ev_Let he.ptr (rlet_any hE h hb r1 r2 he hf)

theorem eval_all : ∀ n, EvSaid B n
  | 0 => fun _ _ _ hf => by simp [Tw.evalS] at hf
  | n + 1 => eval_step (eval_all n)

end Go.Proofs.YtckhafpejefbbaaGreatDoor
