/- Texts of the proof, put together: RowBase, CntRow0. -/
import Derived.Test.YtckhafpejefbbaaGreatDoorB17
import Derived.Test.YtckhafpejefbbaaGreatDoorB01
import Derived.Test.YtckhafpejefbbaaGreatDoorRows
import Derived.Test.YtckhafpejefbbaaGreatDoorCards
import Derived.Test.YtckhafpejefbbaaGreatDoorTie
import Derived.ChangeSame
import Derived.ChangeVars
import Derived.JoinedOf
import Derived.RowKit
import Derived.RowKitTokens
import Derived.LaidLaws
import Derived.LaidMore
import Derived.OpenShut
import Derived.ProofKit
import Derived.Stop.Joined
import Derived.SevenTiedAt
import Derived.Carry

/- What the rows share: the library's contracts, what is listed, arguments read again. -/
namespace Go.Proofs.YtckhafpejefbbaaGreatDoor
open Go.ChangeShapes Go.WideShapes Go.ChangeAt Go.RowKit

theorem grown_bytesWorld (w : World) (e : TypeId) (s : ByteArray) : w.grownBy (Lib.bytesWorld w e s) none :=
  ⟨rfl, rfl, rfl, by rw [Lib.bytesWorld_size]; omega, fun k hk _ => Lib.bytesWorld_at_old w e s k hk⟩

theorem grown_grow (w : World) (k : Nat) (os : Array Obj) : w.grownBy (Sort.grow (w.drewN k) os) none :=
  ⟨rfl, rfl, rfl, by simp [Sort.grow], fun i hi _ => by simp [Sort.grow, Array.getElem?_append, hi]⟩

theorem lib4 : Lib4 :=
  { ib := fun s c w => (Tryz.strings_IndexByte s c w).mono fun e w' ⟨h1, h2⟩ => ⟨h1, h2.symm⟩
    pi := fun s hs v h w => (Tryz.strconv_ParseInt_10_at64_ok s (by omega) v h w).mono fun e w' ⟨h1, h2⟩ => ⟨h1, by
      rcases h2 with rfl | ⟨t, rfl⟩
      · exact grown_refl _
      · exact grown_bytesWorld _ _ _⟩
    fi := fun n h0 h1 w hT => (Tryz.strconv_FormatInt_10 n h0 h1 w hT).mono fun e w' ⟨h1, k, os, h2⟩ => ⟨h1, by rw [h2]; exact grown_grow _ _ _⟩
    fb := fun b w => (Tryz.strconv_FormatBool b w).mono fun e w' ⟨h1, h2⟩ => ⟨by rw [h1]; cases b <;> rfl, h2.symm⟩ }

theorem own : ownKnob Tryz.prog.godebug = none := by kernel_rfl
theorem tPow : (Tryz.prog.globals[1]?).map (fun x => x.type) = some 378 := by kernel_rfl

/-- What is listed. -/
abbrev laid5 : List (String × DataW Unit) := Rows.recursiveRow.laid

/-- What the condition gives the walks: the table. -/
theorem of_laid {W : World} (h : laidMetH Tryz.prog laid5 W) : Tab W ∧ 1 < W.heap.size := by
  rw [MakeChecks.laidMetH_plain _ _ _ (by kernel_rfl)] at h
  obtain ⟨ps, ⟨g0, t0, cs0, f0, p0, q0, hg0, ht0, hv0, hd0, ⟨g1, t1, cs1, f1, p1, q1, hg1, ht1, hv1, hd1, ⟨g2, t2, cs2, f2, p2, q2, hg2, ht2, hv2, hd2, _, _⟩, _⟩, _⟩, _, _⟩ := h
  obtain rfl := Option.some.inj (gPow.symm.trans hg2)
  obtain rfl := Option.some.inj (tPow.symm.trans ht2)
  have hz : (Rows.laid_internal_strconv_uint64pow10 : DataW Unit) = Lib.tabData .u64 Lib.pow10Tab := by kernel_rfl
  have hT : Tab W := by
    show W.var? Tryz.prog "internal/strconv.uint64pow10" = _
    rw [hv2]
    have := Lib.cells_of_tab (zs := Lib.pow10Tab) Tryz.underlying378 Tryz.underlying372 (by kernel_rfl) (by kernel_rfl) (by rw [← hz]; exact hd2)
    rw [← this]
  refine ⟨hT, ?_⟩
  rcases Nat.lt_or_ge 1 W.heap.size with h1 | h1
  · exact h1
  · have hv : W.var? Tryz.prog "internal/strconv.uint64pow10" = _ := hT
    unfold World.var? at hv
    rw [gPow] at hv
    simp only [Option.bind_some] at hv
    rw [Array.getElem?_eq_none h1] at hv
    simp at hv

/-- The door's own heap meets the condition. -/
theorem door_met (os : Os) (args : Array Value) : laidMetH Tryz.prog laid5 ((World.doorLaid Tryz.prog 62 os).forCall (fun _ _ => 0) ⟨#[], args, []⟩).memory :=
  laidMetH_of_parts3 (fuel := 8) (laidMet_of_run' 8 (by kernel_rfl) (by kernel_rfl)) (by kernel_rfl) (by kernel_rfl)

theorem keptBut_of_grown {W W' : World} (h : W.grownBy W' none) (may : MemPlace → Prop) : W.keptBut W' may := by
  refine ⟨h.os, h.output, fun i hi => ?_⟩
  rw [h.block i hi (by simp)]
  cases W.heap[i]? with
  | none => trivial
  | some o => cases o <;> simp

theorem laidOut : laidOutB Tryz.prog = true := by kernel_rfl

theorem below_of_grown {W W' : World} (h : W.grownBy W' none) : Below W.heap.size W W' := ⟨h.os, h.tape, h.output, h.size, fun k hk => h.block k hk (by simp)⟩

/-- Arguments read behind the call as they did. -/
theorem args_again0 {H : Type} {enc : TypeId × Value → H} {P : Program} (hP : laidOutB P = true) {W W' : World} (hg : W.grownBy W' none) : ∀ (ts : List TypeId) (vs : List Value) (ds : List (DataW H)) (ps : List MemPlace),
    (ts.all fun t => P.readableRec t && decide (t < P.types.size)) = true → (∀ x ∈ ps, x.block < W.heap.size) → DataW.TrodAll enc P W 0 (fun _ => true) true ts vs ds ps → DataW.TrodAll enc P W' 0 (fun b => decide (b < W.heap.size)) true ts vs ds ps
  | [], [], [], _, _, _, h => h
  | t :: ts, v :: vs, d :: ds, ps, hr, hl, h => by
    obtain ⟨p, q, h1, h2, rfl⟩ := h
    simp only [List.all_cons, Bool.and_eq_true, decide_eq_true_eq] at hr
    exact ⟨p, q, Below.trod hP hr.1.1 hr.1.2 h1 (below_of_grown hg) (fun x hx => hl x (List.mem_append.2 (.inl hx))), args_again0 hP hg ts vs ds q hr.2 (fun x hx => hl x (List.mem_append.2 (.inr hx))) h2, rfl⟩
  | [], [], _ :: _, _, _, _, h => h.elim
  | [], _ :: _, _, _, _, _, h => h.elim
  | _ :: _, [], _, _, _, _, h => h.elim
  | _ :: _, _ :: _, [], _, _, _, h => h.elim

theorem args_again {H : Type} {enc : TypeId × Value → H} {W W' : World} (hg : W.grownBy W' none) {ts : List TypeId} {vs : List Value} {ds : List (DataW H)} {ps : List MemPlace}
    (hr : (ts.all fun t => Tryz.prog.readableRec t && decide (t < Tryz.prog.types.size)) = true) (hl : ∀ x ∈ ps, x.block < W.heap.size) (h : DataW.TrodAll enc Tryz.prog W 0 (fun _ => true) true ts vs ds ps) : DataW.TrodAll enc Tryz.prog W' 0 (fun b => decide (b < W.heap.size)) true ts vs ds ps :=
  args_again0 laidOut hg ts vs ds ps hr hl h

end Go.Proofs.YtckhafpejefbbaaGreatDoor

/- tailorkeep.Counted. -/
namespace Go.Proofs.YtckhafpejefbbaaGreatDoor
open Go.RowKit

theorem txU_eq (da db dc : List UInt8) : ((((((((⟨da.toArray⟩ : ByteArray) ++ ⟨#[32, 45, 32]⟩) ++ ⟨db.toArray⟩) ++ ⟨#[42]⟩) ++ ⟨dc.toArray⟩) ++ ⟨#[47]⟩) ++ ⟨dc.toArray⟩) ++ ⟨#[32, 45, 32]⟩) ++ ⟨dc.toArray⟩ = txU da db dc := by
  apply ba_ext
  simp [txU, Tw.textU]

theorem seven : exB (.num 7) = ⟨#[55]⟩ := by
  unfold exB Tw.Ex.bytes
  rw [decDigits_dig3 (by omega)]
  rfl

/-- The first text: the sum's, or one number where that is too long. -/
theorem counted_text {E : Tw.Ex} (h : E.ok) (hd : E.deep ≤ 15) : ∃ F : Tw.Ex, F.ok ∧ F.deep ≤ 40 ∧ F.len ≤ 300 ∧ (if 300 < (E.len : Int) then F = .num 7 else F = E) := by
  by_cases hl : 300 < (E.len : Int)
  · have : (Tw.Ex.num 7).len ≤ 300 := by
      have := (dig_of (u := 7) (by omega)).len
      simp only [Tw.Ex.len]
      omega
    exact ⟨.num 7, by simp [Tw.Ex.ok], by simp [Tw.Ex.deep], this, by rw [if_pos hl]⟩
  · exact ⟨E, h, by omega, by omega, by rw [if_neg hl]⟩

set_option maxRecDepth 100000 in
set_option maxHeartbeats 4000000 in
theorem Counted_any (L : Lib4) {w : World} (hT : Tab w) (hG : 1 < w.heap.size) {ar : Option Addr} {len cap : Nat} (hR : RawAt w ar len) (a b c : Int) (ha0 : -9223372036854775808 ≤ a) (ha1 : a ≤ 9223372036854775807) (hb0 : -9223372036854775808 ≤ b) (hb1 : b ≤ 9223372036854775807) (hc0 : -9223372036854775808 ≤ c) (hc1 : c ≤ 9223372036854775807) :
    Calls Tryz.prog 7 #[.slice ar len cap, .int .i64 a, .int .i64 b, .int .i64 c] w fun e w' => e = .returned (.bool true) ∧ w.grownBy w' none := by
  have HT := hide hT
  have HR := hide hR
  clear hT hR
  go_enter Tryz.func7, Tryz.ntmps7
  go_wp2_with fail
  refine (awake_any L (unhide HT) hG).mono ?_
  rintro e1 w1 ⟨rfl, hk⟩
  have K1 := hide hk
  have z1 := hk.size
  have R1 := hide ((unhide HR).grown hk.grown)
  clear hk
  go_wp2_with fail
  refine (sum_any 5 0 w1 0 (unhide R1) (by omega) (by omega) (by omega)).mono ?_
  rintro e1 w2 ⟨E, k, rfl, oE, dE, lE, _, hg⟩
  have K2 := hide ((unhide K1).trans (TK.of_grown _ _ hg))
  have z2 := hg.size
  clear hg
  obtain ⟨F, oF, dF, lF, hF⟩ := counted_text oE dE
  have hEs : E.bytes.toArray.size = E.len := by simp [E.bytes_len]
  have cF := F.calls_len
  have vF := F.val_range oF
  have X : ∃ (s : ByteArray) (n : Int), s = exB F ∧ n = F.val ∧ (if 300 < (E.len : Int) then s = ⟨#[55]⟩ ∧ n = 7 else s = ⟨E.bytes.toArray⟩ ∧ n = E.val) := by
    by_cases hl : 300 < (E.len : Int)
    · simp only [if_pos hl] at hF ⊢
      subst hF
      exact ⟨_, _, rfl, rfl, seven, rfl⟩
    · simp only [if_neg hl] at hF ⊢
      subst hF
      exact ⟨_, _, rfl, rfl, rfl, rfl⟩
  obtain ⟨s, n, hs, hn, hX⟩ := X
  obtain ⟨run1, hrun, _⟩ := F.runs oF (bud := 1000) (by omega)
  by_cases hl : 300 < (E.len : Int) <;> (
    first
      | (rw [if_pos hl] at hX
         go_wp2_with fail
         rw [← hX.1, ← hX.2, hs])
      | (rw [if_neg hl] at hX
         go_wp2_with fail
         rw [show bytesV E.bytes = Value.string s from by rw [hX.1], ← hX.2, hs])
    refine (kopen_fine L.ib L.pi (Tw.Ex.fine oF dF lF) w2).mono ?_
    rintro e1 w3 ⟨bt, rfl, hXt, hk⟩
    have X3 := hide hXt
    have K3 := hide ((unhide K2).trans ((hk.base (by omega)).sub (S' := LawS) (by decide)))
    have z3 := hk.size
    clear hXt hk
    go_wp2_with fail
    refine (pick_any a 50 ha0 ha1 (by omega) (by omega) w3).mono ?_
    rintro e1 w3' ⟨A, rfl, hA, rfl⟩
    go_wp2_with fail
    refine (pick_any b 50 hb0 hb1 (by omega) (by omega) w3).mono ?_
    rintro e1 w3' ⟨B, rfl, hB, rfl⟩
    go_wp2_with fail
    refine (pick_any c 50 hc0 hc1 (by omega) (by omega) w3).mono ?_
    rintro e1 w3' ⟨C, rfl, hC, rfl⟩
    have dA := (dig_of (u := A) (by omega)).len
    have dB := (dig_of (u := B) (by omega)).len
    have sA : (Lib.decDigits A).toArray.size ≤ 3 := by simpa using dA
    have sB : (Lib.decDigits B).toArray.size ≤ 3 := by simpa using dB
    obtain ⟨C1, hC1⟩ : ∃ C1 : Nat, (1 : Int) + (C : Int) = (C1 : Int) := ⟨C + 1, by omega⟩
    have hC2 : 1 ≤ C1 := by omega
    have hC3 : C1 ≤ 50 := by omega
    have dC := (dig_of (u := C1) (by omega)).len
    have sC : (Lib.decDigits C1).toArray.size ≤ 3 := by simpa using dC
    go_wp2_with fail
    clear hC1 hC
    refine (digits_any A (by omega) w3).mono ?_
    rintro e1 w4 ⟨rfl, hg⟩
    have K4 := hide ((unhide K3).trans (TK.of_grown _ _ hg))
    have X4 := hide ((unhide X3).tk (TK.of_grown 0 [] hg) (by decide))
    have z4 := hg.size
    clear hg
    go_wp2_with fail
    refine (digits_any B (by omega) w4).mono ?_
    rintro e1 w5 ⟨rfl, hg⟩
    have K5 := hide ((unhide K4).trans (TK.of_grown _ _ hg))
    have X5 := hide ((unhide X4).tk (TK.of_grown 0 [] hg) (by decide))
    have z5 := hg.size
    clear hg
    go_wp2_with fail
    refine (digits_any C1 (by omega) w5).mono ?_
    rintro e1 w6 ⟨rfl, hg⟩
    have K6 := hide ((unhide K5).trans (TK.of_grown _ _ hg))
    have X6 := hide ((unhide X5).tk (TK.of_grown 0 [] hg) (by decide))
    have z6 := hg.size
    clear hg
    go_wp2_with fail
    refine (digits_any C1 (by omega) w6).mono ?_
    rintro e1 w7 ⟨rfl, hg⟩
    have K7 := hide ((unhide K6).trans (TK.of_grown _ _ hg))
    have X7 := hide ((unhide X6).tk (TK.of_grown 0 [] hg) (by decide))
    have z7 := hg.size
    clear hg
    go_wp2_with fail
    refine (digits_any C1 (by omega) w7).mono ?_
    rintro e1 w8 ⟨rfl, hg⟩
    have K8 := hide ((unhide K7).trans (TK.of_grown _ _ hg))
    have X8 := hide ((unhide X7).tk (TK.of_grown 0 [] hg) (by decide))
    have z8 := hg.size
    clear hg X3 X4 X5 X6 X7 K2 K3 K4 K5 K6 K7
    go_wp2_with fail
    rw [txU_eq]
    refine (kopen_fine L.ib L.pi (fineU (A := A) (B := B) (C := C1) (by omega) (by omega) (by omega)) w8).mono ?_
    rintro e1 w9 ⟨bu, rfl, hXt, hk⟩
    have U9 := hide hXt
    have K9 := hide ((unhide K8).trans ((hk.base (by omega)).sub (S' := LawS) (by decide)))
    have X9 := hide ((unhide X8).tk hk (by decide))
    have z9 := hk.size
    clear hXt hk K8 X8
    go_wp2_with fail
    have b1 : budget 1000 = 1000 := by unfold budget; omega
    have b2 : budget 0 = 0 := by unfold budget; omega
    obtain ⟨V, hV⟩ : ∃ V, Lib.itoa F.val = V := ⟨_, rfl⟩
    have HNR : Hid (-9223372036854775808 ≤ F.val ∧ F.val ≤ 9223372036854775807) := by show _ ∧ _; omega
    obtain ⟨P, hP⟩ : ∃ P, Lib.itoa ((A : Int) - B - C1) = P := ⟨_, rfl⟩
    rw [hV] at hrun
    have HV := hide hV
    have HP := hide hP
    have HRn := hide hrun
    clear hV hP hrun
    refine (Run_any L.fi L.fb 1000 (unhide X9) ((unhide HT).tk (unhide K9) hG) (by omega) (by rw [b1]; exact unhide HRn)).mono ?_
    rintro e1 w10 ⟨rfl, hk⟩
    have z10 := hk.size
    have K10 := hide ((unhide K9).trans ((hk.base (by omega)).sub (S' := LawS) (by decide)))
    have X10 := hide ((unhide X9).tk hk (by decide))
    have U10 := hide ((unhide U9).tk hk (by decide))
    clear hk X9 U9 K9
    go_wp2_with fail
    have G10 : Hid (w10.grownBy (w10.alloc (.cells #[.int .i64 0, .int .i64 (run1 : Int), bytesV V] 39)) none) := World.grownBy_alloc _ _ none
    have hU := Tw.runU (Lib.decDigits A).length (Lib.decDigits B).length (Lib.decDigits C1).length A B C1 hA hB hC3 hC2
    rw [unhide HP] at hU
    have HU := hide hU
    clear hU
    refine (Run_any L.fi L.fb 0 ((unhide U10).tk (TK.of_grown 0 [] G10.out) (by decide)) (((unhide HT).tk (unhide K10) hG).tk (TK.of_grown w.heap.size [] G10.out) hG) (by have := G10.out.size; omega) (by rw [b2]; exact unhide HU)).mono ?_
    rintro e1 w11 ⟨rfl, hk⟩
    have z11 := hk.size
    have z11' := G10.out.size
    have K11 := hide (((unhide K10).trans (TK.of_grown _ _ G10.out)).trans ((hk.base (by omega)).sub (S' := LawS) (by decide)))
    have X11 := hide (((unhide X10).tk (TK.of_grown 0 [] G10.out) (by decide)).tk hk (by decide))
    have C11 := hide (hk.cells (three_new w10 (.int .i64 0) (.int .i64 (run1 : Int)) (bytesV V) 39) (by decide))
    clear hk X10 U10 K10
    go_wp2_with fail
    have G11 : Hid (w11.grownBy (w11.alloc (.cells #[.int .i64 0, .int .i64 0, bytesV P] 39)) none) := World.grownBy_alloc _ _ none
    refine (Type_any (S := ShS) ((unhide X11).tk (TK.of_grown 0 [] G11.out) (by decide)) (Tw.Ex.fine oF dF lF).of).mono ?_
    rintro e1 w12 ⟨rfl, hk⟩
    have z12' := G11.out.size
    have z12 := hk.size
    have K12 := hide (((unhide K11).trans (TK.of_grown _ _ G11.out)).trans ((hk.base (by omega)).sub (S' := LawS) (by decide)))
    have C12 := hide (hk.cells ((G11.out.block _ (Array.getElem?_eq_some_iff.1 (unhide C11)).1 (by simp)).trans (unhide C11)) (by decide))
    have P12 := hide (hk.cells (three_new w11 (.int .i64 0) (.int .i64 0) (bytesV P) 39) (by decide))
    obtain ⟨o0, o1, o2, _, _, _⟩ := three_cells (unhide C12)
    obtain ⟨p0, p1, p2, _, _, _⟩ := three_cells (unhide P12)
    have l5 : w10.heap.size < w12.heap.size := (Array.getElem?_eq_some_iff.1 (unhide C12)).1
    have l6 : w11.heap.size < w12.heap.size := (Array.getElem?_eq_some_iff.1 (unhide P12)).1
    have D12 : Hid (w12.grownBy w12.drew none) := grown_drew (grown_refl _)
    have hw1 : IntKind.i64.wrap ((A : Int) - B) = (A : Int) - B := wrap_in (by omega) (by omega)
    have hw2 : IntKind.i64.wrap ((A : Int) - B - C1) = (A : Int) - B - C1 := wrap_in (by omega) (by omega)
    have HWA : Hid (IntKind.i64.wrap (IntKind.i64.wrap ((A : Int) - B) - C1) = (A : Int) - B - C1) := by show _ = _; rw [hw1, hw2]
    clear hk C11 X11 K11
    generalize hR5 : w10.heap.size = r5 at *
    generalize hR6 : w11.heap.size = r6 at *
    have HW12 : Hid ((IntKind.i64.wrap ((A : Int) - B) = (A : Int) - B) ∧ IntKind.i64.wrap ((A : Int) - B - C1) = (A : Int) - B - C1) := ⟨hw1, hw2⟩
    have HB : Hid (-9223372036854775808 ≤ (A : Int) - B - C1 ∧ (A : Int) - B - C1 ≤ 9223372036854775807) := by show _ ∧ _; omega
    clear hR5 hR6 R1 K1 HR HRn HU HT G10 G11 z1 z2 z3 z4 z5 z6 z7 z8 z9 z10 z11 z11' z12 z12' dA dB dC sA sB sC hEs hX hl hs hn hF cF vF oE dE lE oF dF lF hA hB hC2 hC3 b1 b2 ha0 ha1 hb0 hb1 hc0 hc1 hG hw1 hw2 HW12
    go_wp2_with fail
    go_region_held3 (fun W => W.cell? ⟨r5, 0, none⟩ = some (.int .i64 0) ∧ W.cell? ⟨r5, 2, none⟩ = some (bytesV V) ∧ W.cell? ⟨r6, 0, none⟩ = some (.int .i64 0) ∧ W.cell? ⟨r6, 1, none⟩ = some (.int .i64 0) ∧ W.cell? ⟨r6, 2, none⟩ = some (bytesV P)) (go_keep)
      (first
        | (have D0 := D12.out; go_at_call 23; refine (signed_any F.val HNR.out.1 HNR.out.2 _).mono ?_; rintro e1 w13 ⟨rfl, hg⟩
           rw [unhide HV]
           have g13 : Hid (w12.grownBy w13 none) := grown_trans D0 hg
           have D13 : Hid (w13.grownBy w13 none) := grown_refl _
           obtain ⟨q0, q1, q2, _, _, _⟩ := three_cells ((g13.out.block r5 l5 (by simp)).trans (unhide C12))
           obtain ⟨q3, q4, q5, _, _, _⟩ := three_cells ((g13.out.block r6 l6 (by simp)).trans (unhide P12))
           clear hg D12 D0)
        | (go_at_call 23; (try rw [unhide HWA]); refine (signed_any _ HB.out.1 HB.out.2 _).mono ?_; rintro e1 w14 ⟨rfl, hg⟩
           rw [unhide HP]
           have K14 : Hid (TK w.heap.size LawS w w14) := (unhide K12).trans (TK.of_grown _ _ (grown_trans g13.out hg))
           obtain ⟨q0, q1, q2, _, _, _⟩ := three_cells (((grown_trans g13.out hg).block r5 l5 (by simp)).trans (unhide C12))
           obtain ⟨q3, q4, q5, _, _, _⟩ := three_cells (((grown_trans g13.out hg).block r6 l6 (by simp)).trans (unhide P12))
           clear hg))
    go_wp2_with fail
    go_ret
    exact ⟨rfl, (unhide K14).grown⟩)

end Go.Proofs.YtckhafpejefbbaaGreatDoor
