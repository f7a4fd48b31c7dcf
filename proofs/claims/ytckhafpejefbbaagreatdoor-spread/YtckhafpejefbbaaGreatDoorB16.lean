/- Texts of the proof, put together: RunShow, RunText, LexThy, StuckThy, ParseTot, LexTot, EmbThy, EmbThy2, ReThy, DeepThy, PlcThy, Bound, RecThy, RecRun, Keep, Digits, RecFine, RecWalk, PlcWalk. -/
import Derived.Test.YtckhafpejefbbaaGreatDoorB15
import Derived.Lib.LaidTab
import Derived.Lib.Small
import Derived.Test.YtckhafpejefbbaaGreatDoorB14
import Derived.Test.YtckhafpejefbbaaGreatDoorB03
import Derived.Test.YtckhafpejefbbaaGreatDoorB04
import Derived.Test.YtckhafpejefbbaaGreatDoorB09
import Derived.Test.YtckhafpejefbbaaGreatDoorB10
import Derived.Test.YtckhafpejefbbaaGreatDoorB12
import Derived.Deep.RegionHeld3

/- Package run: write, show. -/
namespace Go.Proofs.YtckhafpejefbbaaGreatDoor
open Go.RowKit

variable {B : Nat}

theorem va_truth_truth (p : Value) (w : World) : Sem.run Tryz.prog (Instr.typeAssert (.iface 196 p) 119 196 true) w = .ok (.tuple #[p, .bool true]) w := by kernel_rfl
theorem va_side_truth (p : Value) (w : World) : Sem.run Tryz.prog (Instr.typeAssert (.iface 203 p) 119 196 true) w = .ok (.tuple #[.bool false, .bool false]) w := by kernel_rfl
theorem va_pair_truth (p : Value) (w : World) : Sem.run Tryz.prog (Instr.typeAssert (.iface 315 p) 119 196 true) w = .ok (.tuple #[.bool false, .bool false]) w := by kernel_rfl
theorem va_clo_truth (p : Value) (w : World) : Sem.run Tryz.prog (Instr.typeAssert (.iface 216 p) 119 196 true) w = .ok (.tuple #[.bool false, .bool false]) w := by kernel_rfl

def Tab (w : World) : Prop := Lib.TabIs Tryz.prog w "internal/strconv.uint64pow10" .u64 Lib.pow10Tab

def Said.FormatInt : Prop := ∀ (n : Int) (_ : -9223372036854775808 ≤ n) (_ : n ≤ 9223372036854775807) (w : World) (_ : Tab w),
  Calls Tryz.prog 173 #[.int .i64 n, .int .i64 10] w fun e w' => e = .returned (bytesV (Lib.itoa n)) ∧ w.grownBy w' none
def Said.FormatBool : Prop := ∀ (b : Bool) (w : World), Calls Tryz.prog 174 #[.bool b] w fun e w' => e = .returned (bytesV (Tw.boolBytes b)) ∧ w = w'

theorem decDigits_len : ∀ (k u : Nat), u < 10 ^ (k + 1) → 0 < (Lib.decDigits u).length ∧ (Lib.decDigits u).length ≤ k + 1
  | 0, u, h => by
    unfold Lib.decDigits
    rw [dif_pos (by simpa using h)]
    simp
  | k + 1, u, h => by
    unfold Lib.decDigits
    split
    · simp
    · have := decDigits_len k (u / 10) (by rw [Nat.pow_succ] at h; omega)
      simp
      omega

theorem itoa_len {n : Int} (h0 : -9223372036854775808 ≤ n) (h1 : n ≤ 9223372036854775807) : 0 < (Lib.itoa n).length ∧ (Lib.itoa n).length ≤ 1000 := by
  unfold Lib.itoa
  split
  · have := decDigits_len 19 n.natAbs (by omega)
    simp
    omega
  · have := decDigits_len 19 n.toNat (by omega)
    omega

theorem gPow : Tryz.prog.globalNamed "internal/strconv.uint64pow10" = some 1 := by kernel_rfl

theorem Tab.tk {S : List TypeId} {w w' : World} (h : Tab w) (hk : TK B S w w') (hB : 1 < B) : Tab w' := by
  have hv : w.var? Tryz.prog "internal/strconv.uint64pow10" = _ := h
  show w'.var? Tryz.prog "internal/strconv.uint64pow10" = _
  unfold World.var? at hv ⊢
  rw [gPow] at hv ⊢
  simp only [Option.bind_some] at hv ⊢
  have hlt : 1 < w.heap.size := by
    rcases Nat.lt_or_ge 1 w.heap.size with h1 | h1
    · exact h1
    · rw [Array.getElem?_eq_none h1] at hv
      simp at hv
  rw [hk.low hB hlt]
  exact hv

theorem ERep.tkS {S : List TypeId} {w w' : World} {sl : List Nat} (hk : TK B S w w') (hS : ([362, 317, 218] ++ keepT).all (fun t => !S.contains t) = true) : ∀ {e : Tw.VEnv} {v : Value}, ERep w sl e v → ERep w' sl e v
  | [], _, h => h
  | (n, k) :: o, _, ⟨b, vo, bs, hv, hl, hb, ho⟩ => ⟨b, vo, bs, hv, hl, hk.cells hb (by have := List.all_eq_true.1 hS 362 (by simp); simpa using this), ERep.tkS hk hS ho⟩

theorem VRep.tkS {S : List TypeId} {w w' : World} {sl : List Nat} (hk : TK B S w w') (hS : ([362, 317, 218] ++ keepT).all (fun t => !S.contains t) = true) : ∀ {x : Tw.Val} {v : Value}, VRep w sl x v → VRep w' sl x v
  | .num _, _, h => h
  | .truth _, _, h => h
  | .side _, _, h => h
  | .pair _ _, _, ⟨b, v1, v2, hv, hb, h1, h2⟩ => ⟨b, v1, v2, hv, hk.cells hb (by have := List.all_eq_true.1 hS 317 (by simp); simpa using this), VRep.tkS hk hS h1, VRep.tkS hk hS h2⟩
  | .clo .., _, ⟨b, fb, ev, v1, hi, hv, hb, hf, hr, he⟩ => by
    have hK : Kp w w' := hk.kp (by rw [List.all_append] at hS; exact (Bool.and_eq_true_iff.1 hS).2)
    exact ⟨b, fb, ev, v1, hi, hv, hk.cells hb (by have := List.all_eq_true.1 hS 218 (by simp); simpa using this), hK _ _ _ _ hf (by decide), hr.kp hK, he.tkS hk hS⟩

def WPostR (B : Nat) (w : World) (bw : Nat) (shown : List UInt8) (e : Ending) (w' : World) : Prop := e = .returned (.tuple #[]) ∧ TK B WrS w w' ∧ ∃ sv', BrAt w' bw 400 sv' shown

def WSaidR (B : Nat) (x : Tw.Val) : Prop := ∀ {w : World} {bw : Nat} {sv : Value} {shown : List UInt8} {v : Value} {sl : List Nat}, VRep w sl x v → BrAt w bw 400 sv shown → Tab w → B ≤ bw → 1 < B → Calls Tryz.prog 95 #[.pointer (some ⟨bw, 0, none⟩), v] w (WPostR B w bw (Tw.writeV x shown))

set_option maxRecDepth 100000 in
set_option maxHeartbeats 2000000 in
theorem rwrite_full {w : World} {bw : Nat} {sv : Value} {shown : List UInt8} {T : TypeId} {p : Value} (hW : BrAt w bw 400 sv shown) (hl : 400 < shown.length) : Calls Tryz.prog 95 #[.pointer (some ⟨bw, 0, none⟩), .iface T p] w (WPostR B w bw shown) := by
  have W0 := hide hW
  have hd : decide (400 < shown.length) = true := by simp [hl]
  clear hW
  go_enter Tryz.func95, Tryz.ntmps95
  go_wp2_with fail
  refine (Full_any (unhide W0)).mono ?_
  rintro e1 w1 ⟨rfl, rfl⟩
  rw [hd]
  go_wp2_with fail
  go_end0
  exact ⟨rfl, TK.of_grown _ _ (grown_drew (grown_refl _)), sv, (unhide W0).grown (grown_drew (grown_refl _))⟩

set_option maxRecDepth 100000 in
set_option maxHeartbeats 2000000 in
theorem rwrite_num (hFI : Said.FormatInt) (n : Int) : WSaidR B (.num n) := by
  intro w bw sv shown v sl hv hW hT hB hG
  obtain ⟨rfl, h0, h1⟩ := hv
  unfold Tw.writeV
  split
  · rename_i hl
    exact rwrite_full hW hl
  · rename_i hl
    have hd : decide (400 < shown.length) = false := by simpa using hl
    have W1 := hide (hW.grown (grown_drew (grown_refl w)))
    have W0 := hide hW
    have T1 := hide (hT.tk (TK.of_grown B [] (grown_drew (grown_refl w))) hG)
    have q := va_num_num
    have hlen := itoa_len h0 h1
    clear hW hT
    go_enter Tryz.func95, Tryz.ntmps95
    go_wp2_with fail
    refine (Full_any (unhide W0)).mono ?_
    rintro e1 w1 ⟨rfl, rfl⟩
    rw [hd]
    have D1 : Hid (w.grownBy w.drew none) := grown_drew (grown_refl _)
    generalize w.drew = w1 at *
    go_wp2_with fail
    refine (hFI n h0 h1 w1 (unhide T1)).mono ?_
    rintro e1 w2 ⟨rfl, hg⟩
    have W2 := hide ((unhide W1).grown hg)
    have G2 : Hid (w.grownBy w2 none) := grown_trans D1.out hg
    clear hg
    go_wp2_with fail
    refine (Put_any (unhide W2) hB ⟨(Lib.itoa n).toArray⟩ (by simpa [ByteArray.size] using hlen.2) (by simpa [ByteArray.size] using hlen.1)).mono ?_
    rintro e1 w3 ⟨rfl, hk, sv', hW'⟩
    have X : Hid (WPostR B w bw (Tw.putS 400 shown (Lib.itoa n)) (.returned (.tuple #[])) w3) := ⟨rfl, (TK.of_grown _ _ G2.out).trans hk, sv', by simpa using hW'⟩
    clear hk hW'
    go_wp2_with fail
    go_end0
    exact X.out

set_option maxRecDepth 100000 in
set_option maxHeartbeats 2000000 in
theorem rwrite_truth (hFB : Said.FormatBool) (n : Bool) : WSaidR B (.truth n) := by
  intro w bw sv shown v sl hv hW hT hB hG
  obtain rfl : v = _ := hv
  unfold Tw.writeV
  split
  · rename_i hl
    exact rwrite_full hW hl
  · rename_i hl
    have hd : decide (400 < shown.length) = false := by simpa using hl
    have W1 := hide (hW.grown (grown_drew (grown_refl w)))
    have W0 := hide hW
    have q := va_truth_num
    have q1 := va_truth_truth
    have hlen : 0 < (Tw.boolBytes n).length ∧ (Tw.boolBytes n).length ≤ 1000 := by cases n <;> decide
    clear hW hT
    go_enter Tryz.func95, Tryz.ntmps95
    go_wp2_with fail
    refine (Full_any (unhide W0)).mono ?_
    rintro e1 w1 ⟨rfl, rfl⟩
    rw [hd]
    have D1 : Hid (w.grownBy w.drew none) := grown_drew (grown_refl _)
    generalize w.drew = w1 at *
    go_wp2_with fail
    refine (hFB n w1).mono ?_
    rintro e1 w2 ⟨rfl, rfl⟩
    go_wp2_with fail
    refine (Put_any (unhide W1) hB ⟨(Tw.boolBytes n).toArray⟩ (by simpa [ByteArray.size] using hlen.2) (by simpa [ByteArray.size] using hlen.1)).mono ?_
    rintro e1 w3 ⟨rfl, hk, sv', hW'⟩
    have X : Hid (WPostR B w bw (Tw.putS 400 shown (Tw.boolBytes n)) (.returned (.tuple #[])) w3) := ⟨rfl, (TK.of_grown _ _ D1.out).trans hk, sv', by simpa using hW'⟩
    clear hk hW'
    go_wp2_with fail
    go_end0
    exact X.out

set_option maxRecDepth 100000 in
set_option maxHeartbeats 2000000 in
theorem rwrite_fun {w : World} {bw : Nat} {sv : Value} {shown : List UInt8} {T : TypeId} {p : Value} {x1 x2 : Value} {b1 b2 : Bool} (q1 : ∀ w : World, Sem.run Tryz.prog (Instr.typeAssert (.iface T p) 119 192 true) w = .ok (.tuple #[.int .i64 0, .bool false]) w)
    (q2 : ∀ w : World, Sem.run Tryz.prog (Instr.typeAssert (.iface T p) 119 196 true) w = .ok (.tuple #[.bool false, .bool false]) w) (q3 : ∀ w : World, Sem.run Tryz.prog (Instr.typeAssert (.iface T p) 119 315 true) w = .ok (.tuple #[.pointer none, .bool false]) w)
    (q4 : ∀ w : World, Sem.run Tryz.prog (Instr.typeAssert (.iface T p) 119 216 true) w = .ok (.tuple #[x1, .bool b1]) w) (q5 : ∀ w : World, Sem.run Tryz.prog (Instr.typeAssert (.iface T p) 119 203 true) w = .ok (.tuple #[x2, .bool b2]) w)
    (hb : (b1 = true ∧ b2 = false) ∨ (b1 = false ∧ b2 = true)) (hW : BrAt w bw 400 sv shown) (hl : ¬ 400 < shown.length) (hB : B ≤ bw) : Calls Tryz.prog 95 #[.pointer (some ⟨bw, 0, none⟩), .iface T p] w (WPostR B w bw (Tw.putS 400 shown [102, 117, 110])) := by
  have hd : decide (400 < shown.length) = false := by simpa using hl
  have W1 := hide (hW.grown (grown_drew (grown_refl w)))
  have W0 := hide hW
  clear hW
  rcases hb with ⟨rfl, rfl⟩ | ⟨rfl, rfl⟩ <;> (
    go_enter Tryz.func95, Tryz.ntmps95
    go_wp2_with fail
    refine (Full_any (unhide W0)).mono ?_
    rintro e1 w1 ⟨rfl, rfl⟩
    rw [hd]
    have D1 : Hid (w.grownBy w.drew none) := grown_drew (grown_refl _)
    generalize w.drew = w1 at *
    go_wp2_with fail
    refine (Put_any (unhide W1) hB ⟨#[102, 117, 110]⟩ (by simp [ByteArray.size]) (by simp [ByteArray.size])).mono ?_
    rintro e1 w3 ⟨rfl, hk, sv', hW'⟩
    have X : Hid (WPostR B w bw (Tw.putS 400 shown [102, 117, 110]) (.returned (.tuple #[])) w3) := ⟨rfl, (TK.of_grown _ _ D1.out).trans hk, sv', by simpa using hW'⟩
    clear hk hW'
    go_wp2_with fail
    go_end0
    exact X.out)

set_option maxRecDepth 100000 in
set_option maxHeartbeats 2000000 in
theorem rwrite_pair {x y : Tw.Val} (hX : WSaidR B x) (hY : WSaidR B y) : WSaidR B (.pair x y) := by
  intro w bw sv shown v sl hv hW hT hB hG
  obtain ⟨b, v1, v2, rfl, hb, hv1, hv2⟩ := hv
  unfold Tw.writeV
  split
  · rename_i hl
    exact rwrite_full hW hl
  · rename_i hl
    have hd : decide (400 < shown.length) = false := by simpa using hl
    have W1 := hide (hW.grown (grown_drew (grown_refl w)))
    have W0 := hide hW
    have V1 := hide hv1
    have V2 := hide hv2
    have HT := hide hT
    have HB := hide hb
    obtain ⟨T1, p1, rfl⟩ := VRep.iface hv1
    obtain ⟨T2, p2, rfl⟩ := VRep.iface hv2
    have q1 := va_pair_num
    have q2 := va_pair_truth
    have q3 := va_pair_pair
    clear hW hT hb hv1 hv2
    go_enter Tryz.func95, Tryz.ntmps95
    go_wp2_with fail
    refine (Full_any (unhide W0)).mono ?_
    rintro e1 w1 ⟨rfl, rfl⟩
    rw [hd]
    have D1 : Hid (w.grownBy w.drew none) := grown_drew (grown_refl _)
    generalize w.drew = w1 at *
    go_wp2_with fail
    refine (Put_any (unhide W1) hB ⟨#[40]⟩ (by simp [ByteArray.size]) (by simp [ByteArray.size])).mono ?_
    rintro e1 w2 ⟨rfl, hk, sv2, hW2⟩
    have K2 : Hid (TK B WrS w w2) := (TK.of_grown _ _ D1.out).trans hk
    have W2 := hide hW2
    obtain ⟨c0, c1, _, _⟩ := two_cells (K2.out.cells (unhide HB) (by decide))
    clear hk hW2
    go_wp2_with fail
    refine (hX ((unhide V1).tkS K2.out (by decide)) (unhide W2) ((unhide HT).tk K2.out hG) hB hG).mono ?_
    rintro e1 w3 ⟨rfl, hk, sv3, hW3⟩
    have K3 : Hid (TK B WrS w w3) := K2.out.trans hk
    have W3 := hide hW3
    clear hk hW3 c0 c1
    go_wp2_with fail
    refine (Put_any (unhide W3) hB ⟨#[44, 32]⟩ (by simp [ByteArray.size]) (by simp [ByteArray.size])).mono ?_
    rintro e1 w4 ⟨rfl, hk, sv4, hW4⟩
    have K4 : Hid (TK B WrS w w4) := K3.out.trans hk
    have W4 := hide hW4
    obtain ⟨c0, c1, _, _⟩ := two_cells (K4.out.cells (unhide HB) (by decide))
    clear hk hW4
    go_wp2_with fail
    refine (hY ((unhide V2).tkS K4.out (by decide)) (unhide W4) ((unhide HT).tk K4.out hG) hB hG).mono ?_
    rintro e1 w5 ⟨rfl, hk, sv5, hW5⟩
    have K5 : Hid (TK B WrS w w5) := K4.out.trans hk
    have W5 := hide hW5
    clear hk hW5 c0 c1
    go_wp2_with fail
    refine (Put_any (unhide W5) hB ⟨#[41]⟩ (by simp [ByteArray.size]) (by simp [ByteArray.size])).mono ?_
    rintro e1 w6 ⟨rfl, hk, sv6, hW6⟩
    have X : Hid (WPostR B w bw (Tw.putS 400 (Tw.writeV y (Tw.putS 400 (Tw.writeV x (Tw.putS 400 shown [40])) [44, 32])) [41]) (.returned (.tuple #[])) w6) := ⟨rfl, K5.out.trans hk, sv6, hW6⟩
    clear hk hW6
    go_wp2_with fail
    go_end0
    exact X.out

theorem rwrite_all (hFI : Said.FormatInt) (hFB : Said.FormatBool) : ∀ x : Tw.Val, WSaidR B x
  | .num n => rwrite_num hFI n
  | .truth b => rwrite_truth hFB b
  | .side b => by
    intro hv hW hT hB hG
    obtain rfl := (hv : _ = _)
    unfold Tw.writeV
    split
    · rename_i hl
      exact rwrite_full hW hl
    · rename_i hl
      exact rwrite_fun (va_side_num _) (va_side_truth _) (va_side_pair _) (va_side_clo _) (va_side_side _) (.inr ⟨rfl, rfl⟩) hW hl hB
  | .clo .. => by
    intro hv hW hT hB hG
    obtain ⟨b, fb, ev, v1, hi, rfl, _⟩ := hv
    unfold Tw.writeV
    split
    · rename_i hl
      exact rwrite_full hW hl
    · rename_i hl
      exact rwrite_fun (va_clo_num _) (va_clo_truth _) (va_clo_pair _) (va_clo_clo _) (va_clo_side _) (.inl ⟨rfl, rfl⟩) hW hl hB
  | .pair x y => rwrite_pair (rwrite_all hFI hFB x) (rwrite_all hFI hFB y)

set_option maxRecDepth 100000 in
set_option maxHeartbeats 2000000 in
theorem rshow_any (hFI : Said.FormatInt) (hFB : Said.FormatBool) {w : World} {sl : List Nat} {x : Tw.Val} {v : Value} (hv : VRep w sl x v) (hT : Tab w) (hG : 1 < w.heap.size) :
    Calls Tryz.prog 51 #[v] w fun e w' => e = .returned (bytesV (Tw.toldS 400 (Tw.writeV x []))) ∧ TK w.heap.size WrS w w' := by
  have HV := hide hv
  have HT := hide hT
  obtain ⟨T, p, rfl⟩ := VRep.iface hv
  clear hv hT
  go_enter Tryz.func51, Tryz.ntmps51
  go_wp2_with fail
  refine (NewWriter_any w 400 (by omega)).mono ?_
  rintro e1 w1 ⟨rfl, hg, hb⟩
  have G1 := hide hg
  have B1 := hide hb
  clear hg hb
  go_wp2_with fail
  refine (rwrite_all hFI hFB x (B := w.heap.size) ((unhide HV).tkS (TK.of_grown 0 WrS (unhide G1)) (by decide)) (unhide B1) ((unhide HT).tk (TK.of_grown w.heap.size [] (unhide G1)) hG) (Nat.le_refl _) hG).mono ?_
  rintro e1 w2 ⟨rfl, hk, sv2, hW2⟩
  have K2 : Hid (TK w.heap.size WrS w w2) := (TK.of_grown _ _ (unhide G1)).trans hk
  have W2 := hide hW2
  clear hk hW2
  go_wp2_with fail
  refine (Told_any (unhide W2)).mono ?_
  rintro e1 w3 ⟨rfl, hg⟩
  have K3 : Hid (TK w.heap.size WrS w w3) := K2.out.trans (TK.of_grown _ _ hg)
  clear hg
  go_wp2_with fail
  go_ret
  exact ⟨rfl, K3.out⟩

end Go.Proofs.YtckhafpejefbbaaGreatDoor

/- run.Text and the method Run. -/
namespace Go.Proofs.YtckhafpejefbbaaGreatDoor
open Go.RowKit

abbrev RunWS : List TypeId := [311, 117, 329, 5]

theorem TK.setNew {B : Nat} {S : List TypeId} {w w1 : World} (h : TK B S w w1) {b : Nat} (j : Nat) (v : Value) (hb : w.heap.size ≤ b) : TK B S w (w1.setCell ⟨b, j, none⟩ v) := by
  have key : ∀ k, k < w.heap.size → (w1.setCell ⟨b, j, none⟩ v).heap[k]? = w1.heap[k]? := fun k hk => heap_setCell_other _ _ _ _ (by simp; omega)
  exact ⟨fun {k} x y => (key k y).trans (h.low x y), h.os, h.tape, h.output, by simpa using h.size, fun {k c t m} x y => (key k (Array.getElem?_eq_some_iff.1 x).1).trans (h.cells x y), fun {k o} x y => (key k (Array.getElem?_eq_some_iff.1 x).1).trans (h.other x y)⟩

theorem three_set {w : World} {b : Nat} {x y z : Value} {t : TypeId} (h : w.heap[b]? = some (.cells #[x, y, z] t (0, 0))) (p q r : Value) : (((w.setCell ⟨b, 0, none⟩ p).setCell ⟨b, 1, none⟩ q).setCell ⟨b, 2, none⟩ r).heap[b]? = some (.cells #[p, q, r] t (0, 0)) := by
  have h1 : (w.setCell ⟨b, 0, none⟩ p).heap[b]? = some (.cells #[p, y, z] t (0, 0)) := by rw [heap_setCell_same _ _ _ _ _ _ h]; rfl
  have h2 : ((w.setCell ⟨b, 0, none⟩ p).setCell ⟨b, 1, none⟩ q).heap[b]? = some (.cells #[p, q, z] t (0, 0)) := by rw [heap_setCell_same _ _ _ _ _ _ h1]; rfl
  rw [heap_setCell_same _ _ _ _ _ _ h2]; rfl

theorem TK.drew {B : Nat} {S : List TypeId} {w w1 : World} (h : TK B S w w1) : TK B S w w1.drew := h.trans (TK.of_grown _ _ (grown_drew (grown_refl _)))

set_option maxRecDepth 100000 in
set_option maxHeartbeats 2000000 in
theorem rText_any (hFI : Said.FormatInt) (hFB : Said.FormatBool) {w : World} {hi fuel bud : Nat} {t : Tw.T} {tv : Value} (hr : Rep w 0 hi t tv) (hb : bud ≤ 3000) (hT : Tab w) (hG : 1 < w.heap.size) {kind : Int} {steps : Nat} {shown : List UInt8} (hf : Tw.runS fuel t bud = some (kind, steps, shown)) :
    Calls Tryz.prog 33 #[tv, .int .i64 bud] w fun e w' => e = .returned (.agg #[.int .i64 kind, .int .i64 steps, bytesV shown]) ∧ TK w.heap.size RunWS w w' := by
  unfold Tw.runS at hf
  obtain ⟨a, ha, hf⟩ := Option.bind_eq_some_iff.1 hf
  have HR := hide hr
  have HT := hide hT
  have HA := hide ha
  obtain ⟨PT, nt, rfl⟩ := hr.iface
  clear hr hT ha
  have A1 : Hid (w.grownBy (w.alloc (.cells #[.int .i64 0, .int .i64 0, .string ⟨#[]⟩] 39)) none) := World.grownBy_alloc _ _ none
  have A2 : Hid (w.grownBy ((w.alloc (.cells #[.int .i64 0, .int .i64 0, .string ⟨#[]⟩] 39)).alloc (.cells #[.int .i64 bud, .int .i64 0, .int .i64 0] 117)) none) := grown_alloc A1.out _
  have R0 : Hid (RunAt w.heap.size ((w.alloc (.cells #[.int .i64 0, .int .i64 0, .string ⟨#[]⟩] 39)).alloc (.cells #[.int .i64 bud, .int .i64 0, .int .i64 0] 117)) (w.heap.size + 1) bud [] ⟨[], 0, 0⟩) := by
    refine { runner := ?_, len := rfl, nodup := by simp, slot := fun h => by simp at h, steps := by simp, bud := hb, lob := by omega, los := fun h => by simp at h }
    have := new_block (w.alloc (.cells #[.int .i64 0, .int .i64 0, .string ⟨#[]⟩] 39)) (.cells #[.int .i64 bud, .int .i64 0, .int .i64 0] 117)
    rw [World.size_alloc] at this
    exact this
  have C0 : Hid (((w.alloc (.cells #[.int .i64 0, .int .i64 0, .string ⟨#[]⟩] 39)).alloc (.cells #[.int .i64 bud, .int .i64 0, .int .i64 0] 117)).heap[w.heap.size]? = some (.cells #[.int .i64 0, .int .i64 0, .string ⟨#[]⟩] 39 (0, 0))) :=
    (Below.heap_alloc _ _ _ (by simp)).trans (new_block w _)
  go_enter Tryz.func33, Tryz.ntmps33
  go_wp2_with fail
  refine (eval_all fuel (unhide R0) ((unhide HR).grown A2.out (Nat.le_refl _) (Nat.le_refl _)) (show ERep _ [] [] (.pointer none) from rfl) (unhide HA)).mono ?_
  rintro e1 w1 ⟨v, sl1, rfl, hv, hk, hp, hR⟩
  have K1 : Hid (TK w.heap.size RunS w w1) := (TK.of_grown _ _ A2.out).trans hk
  have R1 := hide hR
  have C1 := hide (hk.cells (unhide C0) (by decide))
  obtain ⟨c0, c1, c2, f0, f1, f2⟩ := three_cells (unhide C1)
  obtain ⟨d0, d1, d2, _, _, _⟩ := three_cells hR.runner
  have z1 := (unhide K1).size
  obtain ⟨a1, a2⟩ := a
  clear hk hp hR A1 A2 C0 R0
  cases a1 with
  | none =>
    simp only [Option.some.injEq, Prod.mk.injEq] at hf
    obtain ⟨rfl, rfl, rfl⟩ := hf
    obtain rfl : v = .nilIface := hv
    go_wp2_with fail
    go_region
    go_wp2_with fail
    obtain ⟨e0, e1, e2, _, _, _⟩ := three_cells (three_set (unhide C1) (.int .i64 a2.fin) (.int .i64 a2.steps) (.string ⟨#[]⟩))
    refine bodyPost_ret (v := .agg #[.int .i64 a2.fin, .int .i64 a2.steps, bytesV []]) (by simp [results, Tryz.results33, go_sem, e0, e1, e2]) rfl ⟨rfl, ?_⟩
    exact (((((unhide K1).sub (by decide)).setNew 0 _ (Nat.le_refl _)).setNew 1 _ (Nat.le_refl _)).setNew 2 _ (Nat.le_refl _)).drew
  | some x =>
    simp only [Option.some.injEq, Prod.mk.injEq] at hf
    obtain ⟨rfl, rfl, rfl⟩ := hf
    have V1 : Hid (VRep w1 sl1 x v) := hv
    obtain ⟨T, p, rfl⟩ := VRep.iface hv
    clear hv
    go_wp2_with fail
    have D1 : Hid (w1.grownBy w1.drew none) := grown_drew (grown_refl _)
    go_region_held3 (fun W => W.cell? ⟨w.heap.size + 1, 1, none⟩ = some (.int .i64 a2.steps)) (go_keep)
      ((go_at_call 51; refine (rshow_any hFI hFB ((unhide V1).tk (TK.of_grown 0 _ D1.out) (List.prefix_refl _)) ((unhide HT).tk ((unhide K1).trans (TK.of_grown _ _ D1.out)) hG) (by have := D1.out.size; omega)).mono ?_; rintro e1 w2 ⟨rfl, hk⟩
        have K2 : Hid (TK w.heap.size RunWS w w2) := ((unhide K1).drew.sub (by decide)).trans ((hk.base (by have := D1.out.size; omega)).sub (by decide))
        have C2 := hide (hk.cells (unhide C1) (by decide))
        obtain ⟨g0, g1, g2, k0, k1, k2⟩ := three_cells (unhide C2)
        obtain ⟨_, e1, _, _, _, _⟩ := three_cells (hk.cells (unhide R1).runner (by decide))
        clear hk))
    go_wp2_with fail
    have C2 : w2.heap[w.heap.size]? = some (.cells #[.int .i64 0, .int .i64 0, .string ⟨#[]⟩] 39 (0, 0)) := unhide C2
    obtain ⟨e0, e1, e2, _, _, _⟩ := three_cells (three_set C2 (.int .i64 0) (.int .i64 a2.steps) (bytesV (Tw.toldS 400 (Tw.writeV x []))))
    refine bodyPost_ret (v := .agg #[.int .i64 0, .int .i64 a2.steps, bytesV (Tw.toldS 400 (Tw.writeV x []))]) (by simp [results, Tryz.results33, go_sem, e0, e1, e2]) rfl ⟨rfl, ?_⟩
    exact ((((unhide K2).setNew 0 _ (Nat.le_refl _)).setNew 1 _ (Nat.le_refl _)).setNew 2 _ (Nat.le_refl _))

def budget (n : Int) : Nat := (min (max n 0) 3000).toNat

set_option maxRecDepth 100000 in
set_option maxHeartbeats 2000000 in
theorem Run_any (hFI : Said.FormatInt) (hFB : Said.FormatBool) {w : World} {bt fuel : Nat} {s : ByteArray} {t : Tw.T} (n : Int) (h : TextAt w bt s t) (hT : Tab w) (hG : 1 < w.heap.size) {kind : Int} {steps : Nat} {shown : List UInt8} (hf : Tw.runS fuel t (budget n) = some (kind, steps, shown)) :
    Calls Tryz.prog 21 #[.pointer (some ⟨bt, 0, none⟩), .int .i64 n] w fun e w' => e = .returned (.agg #[.int .i64 kind, .int .i64 steps, bytesV shown]) ∧ TK w.heap.size RunWS w w' := by
  obtain ⟨hi, tv, h1, h2⟩ := h
  have HR := hide h2
  have HT := hide hT
  have HF := hide hf
  have lb : bt < w.heap.size := (Array.getElem?_eq_some_iff.1 h1).1
  obtain ⟨PT, nt, rfl⟩ := h2.iface
  obtain ⟨_, c1, _, _⟩ := two_cells h1
  have A1 : Hid (w.grownBy (w.alloc (.cells #[.int .i64 0, .int .i64 0, .string ⟨#[]⟩] 39)) none) := World.grownBy_alloc _ _ none
  have C0 : Hid ((w.alloc (.cells #[.int .i64 0, .int .i64 0, .string ⟨#[]⟩] 39)).heap[w.heap.size]? = some (.cells #[.int .i64 0, .int .i64 0, .string ⟨#[]⟩] 39 (0, 0))) := new_block w _
  have hb : budget n ≤ 3000 := by unfold budget; omega
  have hb2 : ((budget n : Nat) : Int) = min (max n 0) 3000 := by unfold budget; omega
  clear h1 h2 hT hf
  have fin : Hid (∀ x : Int, x = ((budget n : Nat) : Int) → Calls Tryz.prog 33 #[.iface PT (.pointer (some ⟨nt, 0, none⟩)), .int .i64 x] (w.alloc (.cells #[.int .i64 0, .int .i64 0, .string ⟨#[]⟩] 39)) fun e w' => e = .returned (.agg #[.int .i64 kind, .int .i64 steps, bytesV shown]) ∧ TK w.heap.size RunWS w w' ∧ w'.heap[w.heap.size]? = some (.cells #[.int .i64 0, .int .i64 0, .string ⟨#[]⟩] 39 (0, 0))) := by
    rintro x rfl
    refine (rText_any hFI hFB ((unhide HR).grown A1.out (Nat.le_refl _) (Nat.le_refl _)) hb ((unhide HT).tk (TK.of_grown w.heap.size [] A1.out) hG) (by have := A1.out.size; omega) (unhide HF)).mono ?_
    rintro e w' ⟨rfl, hk⟩
    exact ⟨rfl, (TK.of_grown _ _ A1.out).trans (hk.base A1.out.size), hk.cells (unhide C0) (by decide)⟩
  go_enter Tryz.func21, Tryz.ntmps21
  go_wp2_with fail
  all_goals
    refine (unhide fin _ (by omega)).mono ?_
    rintro e1 w1 ⟨rfl, hk, hc⟩
    have K1 := hide hk
    have C1 := hide hc
    obtain ⟨g0, g1, g2, k0, k1, k2⟩ := three_cells hc
    clear hk hc
    go_wp2_with fail
    obtain ⟨e0, e1, e2, _, _, _⟩ := three_cells (three_set (unhide C1) (.int .i64 kind) (.int .i64 steps) (bytesV shown))
    refine bodyPost_ret (v := .agg #[.int .i64 kind, .int .i64 steps, bytesV shown]) (by simp [results, Tryz.results21, go_sem, e0, e1, e2]) rfl ⟨rfl, ?_⟩
    exact (((unhide K1).setNew 0 _ (Nat.le_refl _)).setNew 1 _ (Nat.le_refl _)).setNew 2 _ (Nat.le_refl _)

end Go.Proofs.YtckhafpejefbbaaGreatDoor

/- Tokens of texts that are put together. -/
namespace Go.Proofs.YtckhafpejefbbaaGreatDoor.Tw
open Go

inductive Lex : Nat → List UInt8 → List Tok → Prop
  | nil (off : Nat) : Lex off [] []
  | gap {off : Nat} {m : List UInt8} {ts : List Tok} (h : m ≠ []) (hg : 0 < gapL m) (hr : Lex (off + (gapL m).toNat) (m.drop (gapL m).toNat) ts) : Lex off m ts
  | tok {off : Nat} {m : List UInt8} {ts : List Tok} (h : m ≠ []) (hg : ¬ 0 < gapL m) (h0 : (firstL m).2 ≠ 0) (hr : Lex (off + (firstL m).2.toNat) (m.drop (firstL m).2.toNat) ts) : Lex off m (⟨(firstL m).1, off, off + (firstL m).2.toNat⟩ :: ts)

inductive LexE : Nat → List UInt8 → Nat → Prop
  | here {off : Nat} {m : List UInt8} (h : m ≠ []) (hg : ¬ 0 < gapL m) (h0 : (firstL m).2 = 0) : LexE off m off
  | gap {off : Nat} {m : List UInt8} {k : Nat} (h : m ≠ []) (hg : 0 < gapL m) (hr : LexE (off + (gapL m).toNat) (m.drop (gapL m).toNat) k) : LexE off m k
  | tok {off : Nat} {m : List UInt8} {k : Nat} (h : m ≠ []) (hg : ¬ 0 < gapL m) (h0 : (firstL m).2 ≠ 0) (hr : LexE (off + (firstL m).2.toNat) (m.drop (firstL m).2.toNat) k) : LexE off m k

theorem splitFrom_lex (l : List UInt8) : ∀ (fuel k : Nat) (acc : List Tok), k ≤ l.length → l.length < fuel + k →
    (∃ body, splitFrom l fuel k acc = .ok (acc ++ body ++ [⟨0, l.length, l.length⟩]) ∧ Lex k (l.drop k) body) ∨ (∃ e, splitFrom l fuel k acc = .error e ∧ LexE k (l.drop k) e) := by
  intro fuel
  induction fuel with
  | zero => intro k acc h1 h2; omega
  | succ n ih =>
    intro k acc h1 h2
    rw [splitFrom]
    by_cases hk : k < l.length
    · have hl : 0 < (l.drop k).length := by simp; omega
      have hne : l.drop k ≠ [] := by intro e; rw [e] at hl; simp at hl
      have g1 := gapL_le (l.drop k) hl
      have f1 := firstL_le (l.drop k) hl
      simp only [List.length_drop] at g1 f1
      rw [if_pos hk]
      by_cases hg : 0 < gapL (l.drop k)
      · rw [if_pos hg]
        have := ih (k + (gapL (l.drop k)).toNat) acc (by omega) (by omega)
        rw [← List.drop_drop] at this
        rcases this with ⟨body, h, hL⟩ | ⟨e, h, hL⟩
        · exact .inl ⟨body, h, .gap hne hg hL⟩
        · exact .inr ⟨e, h, .gap hne hg hL⟩
      · rw [if_neg hg]
        by_cases h0 : (firstL (l.drop k)).2 = 0
        · rw [if_pos h0]
          exact .inr ⟨k, rfl, .here hne hg h0⟩
        · rw [if_neg h0]
          have := ih (k + (firstL (l.drop k)).2.toNat) (acc ++ [⟨(firstL (l.drop k)).1, k, k + (firstL (l.drop k)).2.toNat⟩]) (by omega) (by omega)
          rw [← List.drop_drop] at this
          rcases this with ⟨body, h, hL⟩ | ⟨e, h, hL⟩
          · exact .inl ⟨_ :: body, by rw [h]; simp, .tok hne hg h0 hL⟩
          · exact .inr ⟨e, h, .tok hne hg h0 hL⟩
    · have hkl : k = l.length := by omega
      subst hkl
      rw [if_neg hk]
      refine .inl ⟨[], by simp, ?_⟩
      rw [List.drop_length]
      exact .nil _

theorem Lex.unique : ∀ {off : Nat} {m : List UInt8} {ts us : List Tok}, Lex off m ts → Lex off m us → ts = us := by
  intro off m ts us h
  induction h generalizing us with
  | nil off => intro k; cases k with
    | nil => rfl
    | gap h => exact absurd rfl h
    | tok h => exact absurd rfl h
  | gap h hg hr ih => intro k; cases k with
    | nil => exact absurd rfl h
    | gap _ _ hr' => exact ih hr'
    | tok _ hg' => exact absurd hg hg'
  | tok h hg h0 hr ih => intro k; cases k with
    | nil => exact absurd rfl h
    | gap _ hg' => exact absurd hg' hg
    | tok _ _ _ hr' => rw [ih hr']

theorem Lex.not_err : ∀ {off : Nat} {m : List UInt8} {ts : List Tok} {e : Nat}, Lex off m ts → LexE off m e → False := by
  intro off m ts e h
  induction h with
  | nil => intro k; cases k with
    | here h => exact absurd rfl h
    | gap h => exact absurd rfl h
    | tok h => exact absurd rfl h
  | gap h hg hr ih => intro k; cases k with
    | here _ hg' => exact absurd hg hg'
    | gap _ _ hr' => exact ih hr'
    | tok _ hg' => exact absurd hg hg'
  | tok h hg h0 hr ih => intro k; cases k with
    | here _ _ h0' => exact absurd h0' h0
    | gap _ hg' => exact absurd hg' hg
    | tok _ _ _ hr' => exact ih hr'

theorem split_ok_iff {l : List UInt8} {ts : List Tok} : split l = .ok ts ↔ ∃ body, Lex 0 l body ∧ ts = body ++ [⟨0, l.length, l.length⟩] := by
  have := splitFrom_lex l (l.length + 1) 0 [] (by omega) (by omega)
  simp only [List.drop_zero, List.nil_append] at this
  constructor
  · intro h
    rcases this with ⟨body, h', hL⟩ | ⟨e, h', _⟩
    · rw [split, h'] at h
      cases h
      exact ⟨body, hL, rfl⟩
    · rw [split, h'] at h
      cases h
  · rintro ⟨body, hL, rfl⟩
    rcases this with ⟨body', h', hL'⟩ | ⟨e, h', hE⟩
    · rw [split, h', hL.unique hL']
    · exact (hL.not_err hE).elim

end Go.Proofs.YtckhafpejefbbaaGreatDoor.Tw

/- The parser's twin: once stuck, always stuck; the depth is as it was. -/
namespace Go.Proofs.YtckhafpejefbbaaGreatDoor.Tw
open Go

theorem failS_stuck {ts : List Tok} {st st' : PS} (h : failS ts st = some st') : st'.stuck = true ∧ st'.depth = st.depth := by
  unfold failS at h
  split at h
  · rename_i hs
    cases h
    exact ⟨hs, rfl⟩
  · obtain ⟨t, _, h⟩ := Option.bind_eq_some_iff.1 h
    cases h
    exact ⟨rfl, rfl⟩

def Mild (st st' : PS) : Prop := (st'.stuck = false → st.stuck = false) ∧ st'.depth = st.depth
theorem Mild.refl (st : PS) : Mild st st := ⟨id, rfl⟩
theorem Mild.trans {a b c : PS} (h : Mild a b) (k : Mild b c) : Mild a c := ⟨fun x => h.1 (k.1 x), k.2.trans h.2⟩

theorem failS_mild {ts : List Tok} {st st' : PS} (h : failS ts st = some st') : Mild st st' := ⟨fun x => (by rw [(failS_stuck h).1] at x; cases x), (failS_stuck h).2⟩

theorem takeS_mild {ts : List Tok} {s : Int} {st st' : PS} {t : Tok} (h : takeS ts s st = some (t, st')) : Mild st st' := by
  unfold takeS at h
  obtain ⟨t0, _, h⟩ := Option.bind_eq_some_iff.1 h
  split at h
  · split at h
    · cases h; exact .refl _
    · split at h
      · cases h; exact ⟨fun x => x, rfl⟩
      · cases h
  · obtain ⟨s1, h1, h⟩ := Option.bind_eq_some_iff.1 h
    cases h
    exact failS_mild h1

theorem takeAnyS_mild {ts : List Tok} : ∀ {l : List Int} {st st' : PS} {k : Int}, takeAnyS ts l st = some (k, st') → Mild st st'
  | [], st, st', k, h => by cases h; exact .refl _
  | s :: l, st, st', k, h => by
    rw [takeAnyS] at h
    obtain ⟨t0, _, h⟩ := Option.bind_eq_some_iff.1 h
    split at h
    · obtain ⟨⟨t1, s1⟩, h1, h⟩ := Option.bind_eq_some_iff.1 h
      cases h
      exact takeS_mild h1
    · exact takeAnyS_mild h

theorem beginS_mild {ts : List Tok} {s : Int} {st st' : PS} {k : Nat} (h : beginS ts s st = some (k, st')) : (st'.stuck = false → st.stuck = false) ∧ st'.depth = st.depth + 1 := by
  unfold beginS at h
  obtain ⟨s1, h1, h⟩ := Option.bind_eq_some_iff.1 h
  have m1 : Mild st s1 := by
    split at h1
    · exact failS_mild h1
    · cases h1; exact .refl _
  split at h
  · obtain ⟨⟨t1, s2⟩, h2, h⟩ := Option.bind_eq_some_iff.1 h
    cases h
    have m2 := takeS_mild h2
    exact ⟨fun x => m1.1 (m2.1 x), by rw [m2.2]; simp [m1.2]⟩
  · cases h

theorem endS_mild {st st' : PS} (h : endS st = some st') : st'.stuck = st.stuck ∧ st.depth = st'.depth + 1 := by
  unfold endS at h
  split at h
  · cases h
  · cases h
    exact ⟨rfl, by simp; omega⟩

theorem binderS_mild {l : List UInt8} {ts : List Tok} {st st' : PS} {b : List UInt8 × Nat} (h : binderS l ts st = some (b, st')) : Mild st st' := by
  unfold binderS at h
  obtain ⟨⟨t1, s1⟩, h1, h⟩ := Option.bind_eq_some_iff.1 h
  split at h
  · cases h; exact takeS_mild h1
  · cases h

theorem Mild.block {a b c d : PS} (h1 : (b.stuck = false → a.stuck = false) ∧ b.depth = a.depth + 1) (h2 : Mild b c) (h3 : d.stuck = c.stuck ∧ c.depth = d.depth + 1) : Mild a d := by
  refine ⟨fun x => h1.1 (h2.1 (by rw [← h3.1]; exact x)), ?_⟩
  have := h1.2
  have := h2.2
  have := h3.2
  omega

section
variable (l : List UInt8) (ts : List Tok)

structure MAll (n : Nat) : Prop where
  expr : ∀ {st st' t}, exprS l ts n st = some (t, st') → Mild st st'
  lett : ∀ {st st' t}, letS l ts n st = some (t, st') → Mild st st'
  fn : ∀ {st st' t}, funS l ts n st = some (t, st') → Mild st st'
  cond : ∀ {st st' t}, condS l ts n st = some (t, st') → Mild st st'
  cmp : ∀ {st st' t}, cmpS l ts n st = some (t, st') → Mild st st'
  sum : ∀ {st st' t}, sumS l ts n st = some (t, st') → Mild st st'
  term : ∀ {st st' t}, termS l ts n st = some (t, st') → Mild st st'
  part : ∀ {p st st' t}, partS l ts n p st = some (t, st') → Mild st st'
  chain : ∀ {p g st st' t}, chainS l ts n p g st = some (t, st') → Mild st st'
  chainFrom : ∀ {p g a st st' t}, chainFromS l ts n p g a st = some (t, st') → Mild st st'
  call : ∀ {st st' t}, callS l ts n st = some (t, st') → Mild st st'
  callFrom : ∀ {a st st' t}, callFromS l ts n a st = some (t, st') → Mild st st'
  atom : ∀ {st st' t}, atomS l ts n st = some (t, st') → Mild st st'
  bracket : ∀ {st st' t}, bracketS l ts n st = some (t, st') → Mild st st'

theorem mild_all : ∀ n, MAll l ts n
  | 0 => by constructor <;> (intros; rename_i h; simp [exprS, letS, funS, condS, cmpS, sumS, termS, partS, chainS, chainFromS, callS, callFromS, atomS, bracketS] at h)
  | n + 1 => by
    have ih := mild_all n
    constructor
    · intro st st' t h
      rw [exprS] at h
      obtain ⟨k, _, h⟩ := Option.bind_eq_some_iff.1 h
      split at h
      · exact ih.lett h
      · split at h
        · exact ih.fn h
        · split at h
          · exact ih.cond h
          · exact ih.cmp h
    · intro st st' t h
      simp only [letS, Option.bind_eq_some_iff, Option.some.injEq, Prod.mk.injEq, Prod.exists] at h
      obtain ⟨_, _, h1, _, _, h2, _, _, _, h3, _, _, h4, _, _, h5, _, _, h6, _, _, h7, _, h8, _, rfl⟩ := h
      exact Mild.block (beginS_mild h1) (((((takeAnyS_mild h2).trans (binderS_mild h3)).trans (takeS_mild h4)).trans (ih.expr h5)).trans ((takeS_mild h6).trans (ih.expr h7))) (endS_mild h8)
    · intro st st' t h
      simp only [funS, Option.bind_eq_some_iff, Option.some.injEq, Prod.mk.injEq, Prod.exists] at h
      obtain ⟨_, _, h1, _, _, _, h2, _, _, h3, _, _, h4, _, h5, _, rfl⟩ := h
      exact Mild.block (beginS_mild h1) (((binderS_mild h2).trans (takeS_mild h3)).trans (ih.expr h4)) (endS_mild h5)
    · intro st st' t h
      simp only [condS, Option.bind_eq_some_iff, Option.some.injEq, Prod.mk.injEq, Prod.exists] at h
      obtain ⟨_, _, h1, _, _, h2, _, _, h3, _, _, h4, _, _, h5, _, _, h6, _, h7, _, rfl⟩ := h
      exact Mild.block (beginS_mild h1) ((((ih.expr h2).trans (takeS_mild h3)).trans (ih.expr h4)).trans ((takeS_mild h5).trans (ih.expr h6))) (endS_mild h7)
    · intro st st' t h
      simp only [cmpS, Option.bind_eq_some_iff, Prod.exists] at h
      obtain ⟨_, _, h1, _, _, h2, h⟩ := h
      split at h
      · cases h
        exact (ih.sum h1).trans (takeAnyS_mild h2)
      · simp only [Option.bind_eq_some_iff, Option.some.injEq, Prod.mk.injEq, Prod.exists] at h
        obtain ⟨_, _, h3, _, rfl⟩ := h
        exact ((ih.sum h1).trans (takeAnyS_mild h2)).trans (ih.sum h3)
    · intro st st' t h
      rw [sumS] at h
      exact ih.chain h
    · intro st st' t h
      rw [termS] at h
      exact ih.chain h
    · intro p st st' t h
      cases p with
      | term => rw [partS] at h; exact ih.term h
      | call => rw [partS] at h; exact ih.call h
    · intro p g st st' t h
      simp only [chainS, Option.bind_eq_some_iff, Prod.exists] at h
      obtain ⟨_, _, h1, h2⟩ := h
      exact (ih.part h1).trans (ih.chainFrom h2)
    · intro p g a st st' t h
      simp only [chainFromS, Option.bind_eq_some_iff, Prod.exists] at h
      obtain ⟨_, _, h1, h⟩ := h
      split at h
      · cases h
        exact takeAnyS_mild h1
      · simp only [Option.bind_eq_some_iff, Prod.exists] at h
        obtain ⟨_, _, h2, h3⟩ := h
        exact ((takeAnyS_mild h1).trans (ih.part h2)).trans (ih.chainFrom h3)
    · intro st st' t h
      simp only [callS, Option.bind_eq_some_iff, Prod.exists] at h
      obtain ⟨_, _, h1, h2⟩ := h
      exact (ih.atom h1).trans (ih.callFrom h2)
    · intro a st st' t h
      simp only [callFromS, Option.bind_eq_some_iff] at h
      obtain ⟨_, h1, h⟩ := h
      split at h
      · simp only [Option.bind_eq_some_iff, Prod.exists] at h
        obtain ⟨_, _, h2, h3⟩ := h
        exact (ih.atom h2).trans (ih.callFrom h3)
      · cases h
        exact .refl _
    · intro st st' t h
      simp only [atomS, Option.bind_eq_some_iff] at h
      obtain ⟨k, h1, h⟩ := h
      split at h
      · exact ih.bracket h
      · split at h
        · simp only [Option.bind_eq_some_iff, Option.some.injEq, Prod.mk.injEq, Prod.exists] at h
          obtain ⟨_, _, h2, _, _, _, rfl⟩ := h
          exact takeS_mild h2
        · simp only [Option.bind_eq_some_iff, Option.some.injEq, Prod.mk.injEq] at h
          obtain ⟨_, h2, _, rfl⟩ := h
          exact failS_mild h2
    · intro st st' t h
      simp only [bracketS, Option.bind_eq_some_iff, Prod.exists] at h
      obtain ⟨_, _, h1, _, _, h2, _, _, h3, h⟩ := h
      split at h
      · simp only [Option.bind_eq_some_iff, Option.some.injEq, Prod.mk.injEq, Prod.exists] at h
        obtain ⟨_, _, h4, _, _, h5, _, h6, _, rfl⟩ := h
        exact Mild.block (beginS_mild h1) ((((ih.expr h2).trans (takeAnyS_mild h3)).trans (ih.expr h4)).trans (takeS_mild h5)) (endS_mild h6)
      · simp only [Option.bind_eq_some_iff, Option.some.injEq, Prod.mk.injEq, Prod.exists] at h
        obtain ⟨_, _, h5, _, h6, _, rfl⟩ := h
        exact Mild.block (beginS_mild h1) (((ih.expr h2).trans (takeAnyS_mild h3)).trans (takeS_mild h5)) (endS_mild h6)

end
end Go.Proofs.YtckhafpejefbbaaGreatDoor.Tw

/- The parser's twin answers, of whatever tokens. -/
namespace Go.Proofs.YtckhafpejefbbaaGreatDoor.Tw
open Go

structure GoodToks (l : List UInt8) (ts : List Tok) : Prop where
  few : ts.length ≤ 301
  pos : 0 < ts.length
  last : ∃ e, ts[ts.length - 1]? = some e ∧ e.sort = 0
  ahead : ∀ (i : Nat) (t : Tok), i + 1 < ts.length → ts[i]? = some t → t.sort ≠ 0
  place : ∀ (i : Nat) (t : Tok), ts[i]? = some t → t.fr ≤ t.to ∧ t.to ≤ l.length
  value : ∀ (i : Nat) (t : Tok), ts[i]? = some t → t.sort = 2 → ∃ v, valueS (piece l t.fr t.to) = some v

def PS.rem (ts : List Tok) (st : PS) : Nat := if st.stuck then 0 else ts.length - st.next

structure PS.ok (ts : List Tok) (st : PS) : Prop where
  deep : st.depth ≤ 41
  live : st.stuck = false → st.depth ≤ 40 ∧ st.next < ts.length

variable {l : List UInt8} {ts : List Tok} (G : GoodToks l ts)
include G
set_option linter.unusedSectionVars false

omit G in
def Part.c : Part → Nat
  | .term => 8
  | .call => 5
omit G in
omit G in
structure TAll (l : List UInt8) (ts : List Tok) (n : Nat) : Prop where
  expr : ∀ {st}, st.ok ts → 20 * st.rem ts + 12 ≤ n → ∃ x st', exprS l ts n st = some (x, st') ∧ st'.ok ts ∧ st'.rem ts ≤ st.rem ts
  lett : ∀ {st}, st.ok ts → st.stuck = false → 20 * st.rem ts + 1 ≤ n → ∃ x st', letS l ts n st = some (x, st') ∧ st'.ok ts ∧ st'.rem ts ≤ st.rem ts
  fn : ∀ {st}, st.ok ts → st.stuck = false → 20 * st.rem ts + 1 ≤ n → ∃ x st', funS l ts n st = some (x, st') ∧ st'.ok ts ∧ st'.rem ts ≤ st.rem ts
  cond : ∀ {st}, st.ok ts → st.stuck = false → 20 * st.rem ts + 1 ≤ n → ∃ x st', condS l ts n st = some (x, st') ∧ st'.ok ts ∧ st'.rem ts ≤ st.rem ts
  cmp : ∀ {st}, st.ok ts → 20 * st.rem ts + 11 ≤ n → ∃ x st', cmpS l ts n st = some (x, st') ∧ st'.ok ts ∧ st'.rem ts ≤ st.rem ts
  sum : ∀ {st}, st.ok ts → 20 * st.rem ts + 10 ≤ n → ∃ x st', sumS l ts n st = some (x, st') ∧ st'.ok ts ∧ st'.rem ts ≤ st.rem ts
  term : ∀ {st}, st.ok ts → 20 * st.rem ts + 7 ≤ n → ∃ x st', termS l ts n st = some (x, st') ∧ st'.ok ts ∧ st'.rem ts ≤ st.rem ts
  part : ∀ {p st}, st.ok ts → 20 * st.rem ts + p.c ≤ n → ∃ x st', partS l ts n p st = some (x, st') ∧ st'.ok ts ∧ st'.rem ts ≤ st.rem ts
  chain : ∀ {p g st}, (∀ x ∈ g, x ≠ 0) → st.ok ts → 20 * st.rem ts + (p.c + 1) ≤ n → ∃ x st', chainS l ts n p g st = some (x, st') ∧ st'.ok ts ∧ st'.rem ts ≤ st.rem ts
  chainFrom : ∀ {p g a st}, (∀ x ∈ g, x ≠ 0) → st.ok ts → 20 * st.rem ts + 1 ≤ n → ∃ x st', chainFromS l ts n p g a st = some (x, st') ∧ st'.ok ts ∧ st'.rem ts ≤ st.rem ts
  call : ∀ {st}, st.ok ts → 20 * st.rem ts + 4 ≤ n → ∃ x st', callS l ts n st = some (x, st') ∧ st'.ok ts ∧ st'.rem ts ≤ st.rem ts
  callFrom : ∀ {a st}, st.ok ts → 20 * st.rem ts + 3 ≤ n → ∃ x st', callFromS l ts n a st = some (x, st') ∧ st'.ok ts ∧ st'.rem ts ≤ st.rem ts
  atom : ∀ {st}, st.ok ts → 20 * st.rem ts + 2 ≤ n → ∃ x st', atomS l ts n st = some (x, st') ∧ st'.ok ts ∧ st'.rem ts ≤ st.rem ts ∧ (st.stuck = false → st'.rem ts < st.rem ts)
  bracket : ∀ {st}, st.ok ts → st.stuck = false → 20 * st.rem ts + 1 ≤ n → ∃ x st', bracketS l ts n st = some (x, st') ∧ st'.ok ts ∧ st'.rem ts < st.rem ts

end Go.Proofs.YtckhafpejefbbaaGreatDoor.Tw

/- What the tokens of a text are like; read's twin up to the types. -/
namespace Go.Proofs.YtckhafpejefbbaaGreatDoor.Tw
open Go

theorem runL_all (p : Int → Bool) (m : List UInt8) : ∀ c ∈ runL p m, p c.toNat = true := by
  intro c hc
  have := List.all_takeWhile (p := fun c : UInt8 => p c.toNat) (l := m)
  exact List.all_eq_true.1 this c hc

theorem runL_take (p : Int → Bool) : ∀ m : List UInt8, m.take (runL p m).length = runL p m
  | [] => rfl
  | c :: m => by
    unfold runL
    rw [List.takeWhile_cons]
    split
    · simp only [List.length_cons, List.take_succ_cons]
      have := runL_take p m
      unfold runL at this
      rw [this]
    · rfl

theorem wordSort_pos (l : List UInt8) : wordSortL l ≠ 0 ∧ wordSortL l ≠ 2 := by
  unfold wordSortL
  repeat' split
  all_goals simp

theorem signI_sort (c : Int) : (signI c).2 ≠ 0 → (signI c).1 ≠ 0 ∧ (signI c).1 ≠ 2 := by
  unfold signI
  repeat' split
  all_goals simp

theorem firstL_tok {m : List UInt8} (h0 : (firstL m).2 ≠ 0) : (firstL m).1 ≠ 0 ∧ ((firstL m).1 = 2 → m.take (firstL m).2.toNat ≠ [] ∧ (∀ c ∈ m.take (firstL m).2.toNat, digitI c.toNat = true) ∧ (m.take (firstL m).2.toNat).length ≤ 9) := by
  unfold firstL at h0 ⊢
  split at h0
  · rename_i h1
    simp only [h1, if_true]
    unfold wordL at h0 ⊢
    split at h0
    · simp at h0
    · rename_i h2
      rw [if_neg h2]
      exact ⟨(wordSort_pos _).1, fun h => absurd h (wordSort_pos _).2⟩
  · rename_i h1
    rw [if_neg h1]
    split at h0
    · rename_i h2
      simp only [h2, if_true]
      unfold numberL at h0 ⊢
      split at h0
      · simp at h0
      · rename_i h3
        rw [if_neg h3]
        refine ⟨by simp, fun _ => ?_⟩
        have e : m.take ((2 : Int), ((runL digitI m).length : Int)).2.toNat = runL digitI m := by
          show m.take (Int.toNat _) = _
          rw [Int.toNat_natCast, runL_take]
        rw [e]
        exact ⟨fun e => by rw [e] at h0; simp at h0, runL_all _ _, by omega⟩
    · rename_i h2
      rw [if_neg h2]
      split at h0
      · rename_i h3
        simp [h3]
      · rename_i h3
        rw [if_neg h3]
        have := signI_sort _ h0
        exact ⟨this.1, fun h => absurd h this.2⟩

structure TokOf (off : Nat) (m : List UInt8) (t : Tok) : Prop where
  sort : t.sort ≠ 0
  low : off ≤ t.fr
  lt : t.fr < t.to
  high : t.to ≤ off + m.length
  int : t.sort = 2 → piece m (t.fr - off) (t.to - off) ≠ [] ∧ (∀ c ∈ piece m (t.fr - off) (t.to - off), digitI c.toNat = true) ∧ (piece m (t.fr - off) (t.to - off)).length ≤ 9

theorem TokOf.later {off k : Nat} {m : List UInt8} {t : Tok} (hk : k ≤ m.length) (h : TokOf (off + k) (m.drop k) t) : TokOf off m t := by
  have h2 := h.low
  have h3 := h.lt
  have h4 := h.high
  simp only [List.length_drop] at h4
  have e : piece (m.drop k) (t.fr - (off + k)) (t.to - (off + k)) = piece m (t.fr - off) (t.to - off) := by
    unfold piece
    rw [List.drop_drop]
    congr 1
    · omega
    · congr 1; omega
  refine ⟨h.sort, by omega, h3, by omega, fun h5 => ?_⟩
  have := h.int h5
  rw [e] at this
  exact this

theorem Lex.toks : ∀ {off : Nat} {m : List UInt8} {ts : List Tok}, Lex off m ts → (∀ t ∈ ts, TokOf off m t) ∧ ts.length ≤ m.length := by
  intro off m ts h
  induction h with
  | nil => simp
  | @gap off m ts h hg hr ih =>
    have hl : 0 < m.length := List.length_pos_iff.2 h
    have g1 := gapL_le m hl
    have hk : (gapL m).toNat ≤ m.length := by omega
    refine ⟨fun t ht => (ih.1 t ht).later hk, ?_⟩
    have := ih.2
    simp only [List.length_drop] at this
    omega
  | @tok off m ts h hg h0 hr ih =>
    have hl : 0 < m.length := List.length_pos_iff.2 h
    have f1 := firstL_le m hl
    have hk : (firstL m).2.toNat ≤ m.length := by omega
    refine ⟨fun t ht => ?_, ?_⟩
    · simp only [List.mem_cons] at ht
      rcases ht with rfl | ht
      · obtain ⟨a, b⟩ := firstL_tok h0
        refine ⟨a, Nat.le_refl _, by simp; omega, by simp; omega, fun h5 => ?_⟩
        have := b h5
        have e : piece m (off - off) (off + (firstL m).2.toNat - off) = m.take (firstL m).2.toNat := by
          unfold piece
          rw [Nat.sub_self, List.drop_zero, Nat.sub_zero, Nat.add_sub_cancel_left]
        simp only
        rw [e]
        exact this
      · exact (ih.1 t ht).later hk
    · have := ih.2
      simp only [List.length_drop] at this
      simp
      omega

end Go.Proofs.YtckhafpejefbbaaGreatDoor.Tw

/- The tree of tokens that lie in a greater row: as it was, moved. -/
namespace Go.Proofs.YtckhafpejefbbaaGreatDoor.Tw
open Go

structure Mv where
  fr : Nat → Nat
  to : Nat → Nat
  val : Nat → Int → Int
  nm : Nat → List UInt8 → List UInt8

def Tok.re (m : Mv) (t : Tok) : Tok := ⟨t.sort, m.fr t.fr, m.to t.to⟩

def T.re (m : Mv) : T → T
  | .name f t x => .name (m.fr f) (m.to t) (m.nm f x)
  | .int f t x => .int (m.fr f) (m.to t) (m.val f x)
  | .truth f t x => .truth (m.fr f) (m.to t) x
  | .side f t x => .side (m.fr f) (m.to t) x
  | .bracket f t i => .bracket (m.fr f) (m.to t) (i.re m)
  | .pair f t x y => .pair (m.fr f) (m.to t) (x.re m) (y.re m)
  | .call f t x y => .call (m.fr f) (m.to t) (x.re m) (y.re m)
  | .binary f t s x y => .binary (m.fr f) (m.to t) s (x.re m) (y.re m)
  | .cond f t x y z => .cond (m.fr f) (m.to t) (x.re m) (y.re m) (z.re m)
  | .fn f t n k x => .fn (m.fr f) (m.to t) (m.nm k n) (m.fr k) (x.re m)
  | .lett f t r n k x y => .lett (m.fr f) (m.to t) r (m.nm k n) (m.fr k) (x.re m) (y.re m)

def T.deep : T → Nat
  | .name _ _ _ | .int _ _ _ | .truth _ _ _ | .side _ _ _ => 0
  | .bracket _ _ i => 1 + i.deep
  | .pair _ _ x y => 1 + max x.deep y.deep
  | .call _ _ x y => max x.deep y.deep
  | .binary _ _ _ x y => max x.deep y.deep
  | .cond _ _ x y z => 1 + max x.deep (max y.deep z.deep)
  | .fn _ _ _ _ x => 1 + x.deep
  | .lett _ _ _ _ _ x y => 1 + max x.deep y.deep

def stopSort (s : Int) : Bool := decide (s ∉ [23, 15, 19, 20, 21, 22, 1, 2, 10, 11, 12, 13, 16])

structure Emb (l1 l2 : List UInt8) (ts1 ts2 : List Tok) (o : Nat) (m : Mv) (N : Nat) : Prop where
  tok : ∀ i, i < N → ∃ t, ts1[i]? = some t ∧ ts2[i + o]? = some (t.re m) ∧ t.sort ≠ 0 ∧ (m.fr t.fr ≤ m.to t.to ∧ m.to t.to ≤ l2.length) ∧
    (t.sort = 2 → ∀ v, valueS (piece l1 t.fr t.to) = some v → valueS (piece l2 (m.fr t.fr) (m.to t.to)) = some (m.val t.fr v)) ∧ (t.sort ≠ 2 → piece l2 (m.fr t.fr) (m.to t.to) = m.nm t.fr (piece l1 t.fr t.to))
  eof : ∃ t, ts1[N]? = some t ∧ t.sort = 0
  stop : ∃ t, ts2[N + o]? = some t ∧ stopSort t.sort = true
  few : N + o ≤ 300

structure Sim (o dd N : Nat) (s1 s2 : PS) : Prop where
  k1 : s1.stuck = false
  k2 : s2.stuck = false
  nx : s2.next = s1.next + o
  dp : s2.depth = s1.depth + dd
  le : s1.next ≤ N

variable {l1 l2 : List UInt8} {ts1 ts2 : List Tok} {o N dd : Nat} {m : Mv}

theorem takeS_fine {ts : List Tok} {s : Int} {st st' : PS} {t : Tok} (h : takeS ts s st = some (t, st')) (hs : st'.stuck = false) (h0 : s ≠ 0) : tokS ts st = some t ∧ t.sort = s ∧ st' = { st with next := st.next + 1 } ∧ st.next ≤ 300 := by
  unfold takeS at h
  obtain ⟨t0, ht, h⟩ := Option.bind_eq_some_iff.1 h
  split at h
  · rename_i hq
    split at h
    · rename_i hn
      cases h
      exact ⟨ht, hq, rfl, hn⟩
    · cases h
  · obtain ⟨s1, h1, h⟩ := Option.bind_eq_some_iff.1 h
    cases h
    rw [(failS_stuck h1).1] at hs
    cases hs

end Go.Proofs.YtckhafpejefbbaaGreatDoor.Tw

/- The tree of tokens that lie in a greater row: the whole grammar. -/
namespace Go.Proofs.YtckhafpejefbbaaGreatDoor.Tw
open Go

variable {l1 l2 : List UInt8} {ts1 ts2 : List Tok} {o N dd : Nat} {m : Mv}

variable (l1 l2 ts1 ts2 o m N dd)

structure SAll (n : Nat) : Prop where
  expr : ∀ {s1 s2 s1' : PS} {r : T}, Sim o dd N s1 s2 → exprS l1 ts1 n s1 = some (r, s1') → s1'.stuck = false → s2.depth + r.deep ≤ 40 → ∃ s2', exprS l2 ts2 n s2 = some (r.re m, s2') ∧ Sim o dd N s1' s2'
  lett : ∀ {s1 s2 s1' : PS} {r : T}, Sim o dd N s1 s2 → letS l1 ts1 n s1 = some (r, s1') → s1'.stuck = false → s2.depth + r.deep ≤ 40 → ∃ s2', letS l2 ts2 n s2 = some (r.re m, s2') ∧ Sim o dd N s1' s2'
  fn : ∀ {s1 s2 s1' : PS} {r : T}, Sim o dd N s1 s2 → funS l1 ts1 n s1 = some (r, s1') → s1'.stuck = false → s2.depth + r.deep ≤ 40 → ∃ s2', funS l2 ts2 n s2 = some (r.re m, s2') ∧ Sim o dd N s1' s2'
  cond : ∀ {s1 s2 s1' : PS} {r : T}, Sim o dd N s1 s2 → condS l1 ts1 n s1 = some (r, s1') → s1'.stuck = false → s2.depth + r.deep ≤ 40 → ∃ s2', condS l2 ts2 n s2 = some (r.re m, s2') ∧ Sim o dd N s1' s2'
  cmp : ∀ {s1 s2 s1' : PS} {r : T}, Sim o dd N s1 s2 → cmpS l1 ts1 n s1 = some (r, s1') → s1'.stuck = false → s2.depth + r.deep ≤ 40 → ∃ s2', cmpS l2 ts2 n s2 = some (r.re m, s2') ∧ Sim o dd N s1' s2'
  sum : ∀ {s1 s2 s1' : PS} {r : T}, Sim o dd N s1 s2 → sumS l1 ts1 n s1 = some (r, s1') → s1'.stuck = false → s2.depth + r.deep ≤ 40 → ∃ s2', sumS l2 ts2 n s2 = some (r.re m, s2') ∧ Sim o dd N s1' s2'
  term : ∀ {s1 s2 s1' : PS} {r : T}, Sim o dd N s1 s2 → termS l1 ts1 n s1 = some (r, s1') → s1'.stuck = false → s2.depth + r.deep ≤ 40 → ∃ s2', termS l2 ts2 n s2 = some (r.re m, s2') ∧ Sim o dd N s1' s2'
  part : ∀ {p : Part} {s1 s2 s1' : PS} {r : T}, Sim o dd N s1 s2 → partS l1 ts1 n p s1 = some (r, s1') → s1'.stuck = false → s2.depth + r.deep ≤ 40 → ∃ s2', partS l2 ts2 n p s2 = some (r.re m, s2') ∧ Sim o dd N s1' s2'
  chain : ∀ {p : Part} {g : List Int} {s1 s2 s1' : PS} {r : T}, (∀ x ∈ g, x ≠ 0) → (∀ x ∈ g, stopSort x = false) → Sim o dd N s1 s2 → chainS l1 ts1 n p g s1 = some (r, s1') → s1'.stuck = false → s2.depth + r.deep ≤ 40 → ∃ s2', chainS l2 ts2 n p g s2 = some (r.re m, s2') ∧ Sim o dd N s1' s2'
  chainFrom : ∀ {p : Part} {g : List Int} {a : T} {s1 s2 s1' : PS} {r : T}, (∀ x ∈ g, x ≠ 0) → (∀ x ∈ g, stopSort x = false) → Sim o dd N s1 s2 → chainFromS l1 ts1 n p g a s1 = some (r, s1') → s1'.stuck = false → s2.depth + r.deep ≤ 40 → ∃ s2', chainFromS l2 ts2 n p g (a.re m) s2 = some (r.re m, s2') ∧ Sim o dd N s1' s2'
  call : ∀ {s1 s2 s1' : PS} {r : T}, Sim o dd N s1 s2 → callS l1 ts1 n s1 = some (r, s1') → s1'.stuck = false → s2.depth + r.deep ≤ 40 → ∃ s2', callS l2 ts2 n s2 = some (r.re m, s2') ∧ Sim o dd N s1' s2'
  callFrom : ∀ {a : T} {s1 s2 s1' : PS} {r : T}, Sim o dd N s1 s2 → callFromS l1 ts1 n a s1 = some (r, s1') → s1'.stuck = false → s2.depth + r.deep ≤ 40 → ∃ s2', callFromS l2 ts2 n (a.re m) s2 = some (r.re m, s2') ∧ Sim o dd N s1' s2'
  atom : ∀ {s1 s2 s1' : PS} {r : T}, Sim o dd N s1 s2 → atomS l1 ts1 n s1 = some (r, s1') → s1'.stuck = false → s2.depth + r.deep ≤ 40 → ∃ s2', atomS l2 ts2 n s2 = some (r.re m, s2') ∧ Sim o dd N s1' s2'
  bracket : ∀ {s1 s2 s1' : PS} {r : T}, Sim o dd N s1 s2 → bracketS l1 ts1 n s1 = some (r, s1') → s1'.stuck = false → s2.depth + r.deep ≤ 40 → ∃ s2', bracketS l2 ts2 n s2 = some (r.re m, s2') ∧ Sim o dd N s1' s2'

variable {l1 l2 ts1 ts2 o m N dd}

end Go.Proofs.YtckhafpejefbbaaGreatDoor.Tw

/- Trees whose places and numbers are moved: the parser; what names, weights and types make of them. -/
namespace Go.Proofs.YtckhafpejefbbaaGreatDoor.Tw
open Go

def T.boundS : T → List (List UInt8) → Bool
  | .name _ _ x, e => e.contains x
  | .int .., _ => true
  | .truth .., _ => true
  | .side .., _ => true
  | .bracket _ _ i, e => i.boundS e
  | .pair _ _ l r, e => l.boundS e && r.boundS e
  | .call _ _ l r, e => l.boundS e && r.boundS e
  | .binary _ _ _ l r, e => l.boundS e && r.boundS e
  | .cond _ _ c t f, e => c.boundS e && (t.boundS e && f.boundS e)
  | .fn _ _ bn _ b, e => b.boundS (bn :: e)
  | .lett _ _ rc bn _ d b, e => d.boundS (if rc then bn :: e else e) && b.boundS (bn :: e)

end Go.Proofs.YtckhafpejefbbaaGreatDoor.Tw

/- A tree that was read is not too deep. -/
namespace Go.Proofs.YtckhafpejefbbaaGreatDoor.Tw
open Go

theorem begin_deep {ts : List Tok} {s : Int} {st st' : PS} {k : Nat} (h : beginS ts s st = some (k, st')) (hs : st'.stuck = false) : st.depth ≠ 40 ∧ st'.depth = st.depth + 1 ∧ st.stuck = false := by
  have m := beginS_mild h
  refine ⟨fun e => ?_, m.2, m.1 hs⟩
  unfold beginS at h
  rw [if_pos e] at h
  obtain ⟨s1, h1, h⟩ := Option.bind_eq_some_iff.1 h
  split at h
  · obtain ⟨⟨t1, s2⟩, h2, h⟩ := Option.bind_eq_some_iff.1 h
    cases h
    have := (takeS_mild h2).1 hs
    simp only at this
    rw [(failS_stuck h1).1] at this
    cases this
  · cases h

structure DAll (l : List UInt8) (ts : List Tok) (n : Nat) : Prop where
  expr : ∀ {st st' t}, exprS l ts n st = some (t, st') → st'.stuck = false → st.depth ≤ 40 → st.depth + t.deep ≤ 40
  lett : ∀ {st st' t}, letS l ts n st = some (t, st') → st'.stuck = false → st.depth ≤ 40 → st.depth + t.deep ≤ 40
  fn : ∀ {st st' t}, funS l ts n st = some (t, st') → st'.stuck = false → st.depth ≤ 40 → st.depth + t.deep ≤ 40
  cond : ∀ {st st' t}, condS l ts n st = some (t, st') → st'.stuck = false → st.depth ≤ 40 → st.depth + t.deep ≤ 40
  cmp : ∀ {st st' t}, cmpS l ts n st = some (t, st') → st'.stuck = false → st.depth ≤ 40 → st.depth + t.deep ≤ 40
  sum : ∀ {st st' t}, sumS l ts n st = some (t, st') → st'.stuck = false → st.depth ≤ 40 → st.depth + t.deep ≤ 40
  term : ∀ {st st' t}, termS l ts n st = some (t, st') → st'.stuck = false → st.depth ≤ 40 → st.depth + t.deep ≤ 40
  part : ∀ {p st st' t}, partS l ts n p st = some (t, st') → st'.stuck = false → st.depth ≤ 40 → st.depth + t.deep ≤ 40
  chain : ∀ {p g st st' t}, chainS l ts n p g st = some (t, st') → st'.stuck = false → st.depth ≤ 40 → st.depth + t.deep ≤ 40
  chainFrom : ∀ {p g a st st' t}, chainFromS l ts n p g a st = some (t, st') → st'.stuck = false → st.depth ≤ 40 → st.depth + a.deep ≤ 40 → st.depth + t.deep ≤ 40
  call : ∀ {st st' t}, callS l ts n st = some (t, st') → st'.stuck = false → st.depth ≤ 40 → st.depth + t.deep ≤ 40
  callFrom : ∀ {a st st' t}, callFromS l ts n a st = some (t, st') → st'.stuck = false → st.depth ≤ 40 → st.depth + a.deep ≤ 40 → st.depth + t.deep ≤ 40
  atom : ∀ {st st' t}, atomS l ts n st = some (t, st') → st'.stuck = false → st.depth ≤ 40 → st.depth + t.deep ≤ 40
  bracket : ∀ {st st' t}, bracketS l ts n st = some (t, st') → st'.stuck = false → st.depth ≤ 40 → st.depth + t.deep ≤ 40

end Go.Proofs.YtckhafpejefbbaaGreatDoor.Tw

/- Open's twin answers; what cannot stand behind a text is told at its place. -/
namespace Go.Proofs.YtckhafpejefbbaaGreatDoor.Tw
open Go

theorem fine_parts {fp fo : Nat} {l : List UInt8} {t : T} {sh : List UInt8} (h : openS fp fo l = some (.fine t sh)) : l.length ≤ 300 ∧ ∃ body, Lex 0 l body ∧ split l = .ok (body ++ [⟨0, l.length, l.length⟩]) ∧ parseS l (body ++ [⟨0, l.length, l.length⟩]) fp = some (.ok t) ∧ treeS fo t = some (.fine t sh) := by
  unfold openS at h
  split at h
  · cases h
  · rename_i hl
    refine ⟨by omega, ?_⟩
    unfold readS at h
    cases hs : split l with
    | error p => rw [hs] at h; cases h
    | ok ts =>
      rw [hs] at h
      simp only [Option.bind_eq_some_iff] at h
      obtain ⟨r, hr, h⟩ := h
      cases r with
      | error p => cases h
      | ok t' =>
        obtain ⟨body, hL, rfl⟩ := split_ok_iff.1 hs
        have e : t' = t := by
          simp only at h
          unfold treeS at h
          split at h
          · cases h
          · simp only [Option.bind_eq_some_iff] at h
            obtain ⟨k, _, h⟩ := h
            split at h
            · cases h
            · simp only [Option.bind_eq_some_iff] at h
              obtain ⟨o, _, h⟩ := h
              cases o with
              | none => cases h
              | some s => cases h; rfl
        subst e
        exact ⟨body, hL, rfl, hr, h⟩

end Go.Proofs.YtckhafpejefbbaaGreatDoor.Tw

/- Every name is bound: by a plain function. -/
namespace Go.Proofs.YtckhafpejefbbaaGreatDoor
open Go.RowKit

theorem look_cons {e : Tw.BEn} {env : List (List UInt8)} (hE : ∀ x, env.contains x = true → ∃ a, e.look x = some a) (bn : List UInt8) (k : Addr) : ∀ x, (bn :: env).contains x = true → ∃ a, (Tw.BEn.cons bn k e).look x = some a := by
  intro x hx
  simp only [Tw.BEn.look]
  by_cases h : bn = x
  · exact ⟨k, by rw [if_pos h]⟩
  · rw [if_neg h]
    refine hE x ?_
    simp only [List.contains_cons, Bool.or_eq_true, beq_iff_eq] at hx
    rcases hx with hx | hx
    · exact absurd hx.symm h
    · exact hx

theorem NL.bound {w : World} {hi : Nat} : ∀ {t : Tw.T} {v : Value} {e : Tw.BEn} {L : List NB} {env : List (List UInt8)}, NL w hi t v e L → t.boundS env = true → (∀ x, env.contains x = true → ∃ a, e.look x = some a) → ∀ y ∈ L, ∃ a, y.k = some a
  | .name fr to x, _, _, _, _, ⟨b, _, rfl⟩, h, hE => by
    intro y hy
    simp only [List.mem_singleton] at hy
    subst hy
    exact hE x h
  | .int .., _, _, _, _, ⟨_, rfl⟩, _, _ => by simp
  | .truth .., _, _, _, _, ⟨_, rfl⟩, _, _ => by simp
  | .side .., _, _, _, _, ⟨_, rfl⟩, _, _ => by simp
  | .bracket _ _ i, _, _, _, _, ⟨v1, _, r1⟩, h, hE => NL.bound r1 (by simpa [Tw.T.boundS] using h) hE
  | .pair .., _, _, _, _, ⟨v1, v2, L1, L2, _, r1, r2, rfl⟩, h, hE => by
    simp only [Tw.T.boundS, Bool.and_eq_true] at h
    intro y hy
    rcases List.mem_append.1 hy with hy | hy
    · exact NL.bound r1 h.1 hE y hy
    · exact NL.bound r2 h.2 hE y hy
  | .call .., _, _, _, _, ⟨v1, v2, L1, L2, _, r1, r2, rfl⟩, h, hE => by
    simp only [Tw.T.boundS, Bool.and_eq_true] at h
    intro y hy
    rcases List.mem_append.1 hy with hy | hy
    · exact NL.bound r1 h.1 hE y hy
    · exact NL.bound r2 h.2 hE y hy
  | .binary .., _, _, _, _, ⟨v1, v2, L1, L2, _, r1, r2, rfl⟩, h, hE => by
    simp only [Tw.T.boundS, Bool.and_eq_true] at h
    intro y hy
    rcases List.mem_append.1 hy with hy | hy
    · exact NL.bound r1 h.1 hE y hy
    · exact NL.bound r2 h.2 hE y hy
  | .cond .., _, _, _, _, ⟨v1, v2, v3, L1, L2, L3, _, r1, r2, r3, rfl⟩, h, hE => by
    simp only [Tw.T.boundS, Bool.and_eq_true] at h
    intro y hy
    rcases List.mem_append.1 hy with hy | hy
    · rcases List.mem_append.1 hy with hy | hy
      · exact NL.bound r1 h.1 hE y hy
      · exact NL.bound r2 h.2.1 hE y hy
    · exact NL.bound r3 h.2.2 hE y hy
  | .fn .., _, _, _, _, ⟨k, v1, _, r1⟩, h, hE => NL.bound r1 (by simpa [Tw.T.boundS] using h) (look_cons hE _ _)
  | .lett fr to rc bn bat d b, _, _, _, _, ⟨k, v1, v2, L1, L2, _, r1, r2, rfl⟩, h, hE => by
    simp only [Tw.T.boundS, Bool.and_eq_true] at h
    intro y hy
    rcases List.mem_append.1 hy with hy | hy
    · cases rc
      · exact NL.bound r1 h.1 hE y hy
      · exact NL.bound r1 h.1 (look_cons hE _ _) y hy
    · exact NL.bound r2 h.2 (look_cons hE _ _) y hy

theorem allBound_of {t : Tw.T} (h : t.boundS [] = true) : AllBound t := fun _ _ _ _ hn => hn.bound h (by simp)

end Go.Proofs.YtckhafpejefbbaaGreatDoor

/- The text of Recursive: its tokens, its tree, its runs. -/
namespace Go.Proofs.YtckhafpejefbbaaGreatDoor.Tw
open Go Go.RowKit

end Go.Proofs.YtckhafpejefbbaaGreatDoor.Tw

/- The runs of Recursive's text. -/
namespace Go.Proofs.YtckhafpejefbbaaGreatDoor.Tw
open Go Go.RowKit

end Go.Proofs.YtckhafpejefbbaaGreatDoor.Tw

/- Package tailorkeep: pick, open, awake. -/
namespace Go.Proofs.YtckhafpejefbbaaGreatDoor
open Go.RowKit

theorem tmod_nat (x : Int) (n : Nat) (hx : 0 ≤ x) (hn : 0 < n) : ∃ r : Nat, x.tmod n = r ∧ r < n := by
  refine ⟨(x.tmod n).toNat, ?_, ?_⟩
  · rw [Int.tmod_eq_emod_of_nonneg hx]
    have := Int.emod_nonneg x (show (n : Int) ≠ 0 by omega)
    omega
  · rw [Int.tmod_eq_emod_of_nonneg hx]
    have := Int.emod_nonneg x (show (n : Int) ≠ 0 by omega)
    have := Int.emod_lt_of_pos x (show (0 : Int) < n by omega)
    omega

set_option maxRecDepth 100000 in
set_option maxHeartbeats 1000000 in
theorem kopen_fine (hIB : Said.IndexByte) (hPI : Said.ParseInt) {S : List TypeId} {t : Tw.T} {shown : List UInt8} {s : ByteArray} (hF : Fine S s t shown) (w : World) :
    Calls Tryz.prog 19 #[.string s] w fun e w' => ∃ bt, e = .returned (.pointer (some ⟨bt, 0, none⟩)) ∧ TextAt w' bt s t ∧ TK w.heap.size S w w' := by
  go_enter Tryz.func19, Tryz.ntmps19
  go_wp2_with fail
  refine (Open_fine hIB hPI hF w).mono ?_
  rintro e1 w1 ⟨bt, rfl, hT, hk⟩
  have T1 := hide hT
  have K1 := hide hk
  clear hT hk
  go_wp2_with fail
  refine (Source_any (unhide T1)).mono ?_
  rintro e1 w2 ⟨rfl, rfl⟩
  go_wp2_with fail
  go_ret
  exact ⟨bt, rfl, unhide T1, unhide K1⟩

structure Lib4 : Prop where
  ib : Said.IndexByte
  pi : Said.ParseInt
  fi : Said.FormatInt
  fb : Said.FormatBool

def intB (fuel : Nat) (t : Tw.T) : Bool :=
  match Tw.inferS fuel t .nil ss0 with
  | some (r, st1) => !st1.clash && (match Tw.endlessS fuel st1 with
    | some (false, st2) => (match Tw.findS fuel st2 r with
      | some (p, st3) => (match st3.shs[p]? with
        | some x => decide (x.sort = 1)
        | none => false)
      | none => false)
    | _ => false)
  | none => false

theorem intTyped_of {fuel : Nat} {t : Tw.T} (h : intB fuel t = true) : IntTyped t := by
  unfold intB at h
  split at h
  · rename_i r st1 h1
    simp only [Bool.and_eq_true, Bool.not_eq_true'] at h
    obtain ⟨h2, h⟩ := h
    split at h
    · rename_i st2 h3
      split at h
      · rename_i p st3 h4
        split at h
        · rename_i x h5
          exact ⟨fuel, r, p, st1, st2, st3, x, h1, h2, h3, h4, h5, of_decide_eq_true h⟩
        · cases h
      · cases h
    · cases h
  · cases h

def txA : ByteArray := ⟨#[40, 102, 117, 110, 32, 120, 32, 45, 62, 32, 120, 32, 43, 32, 49, 41, 32, 52]⟩
def tA : Tw.T := .call 0 18 (.bracket 0 16 (.fn 1 15 [120] 5 (.binary 10 15 19 (.name 10 11 [120]) (.int 14 15 1)))) (.int 17 18 4)
def toksA : List Tw.Tok := [⟨16, 0, 1⟩, ⟨6, 1, 4⟩, ⟨1, 5, 6⟩, ⟨14, 7, 9⟩, ⟨1, 10, 11⟩, ⟨19, 12, 13⟩, ⟨2, 14, 15⟩, ⟨17, 15, 16⟩, ⟨2, 17, 18⟩, ⟨0, 18, 18⟩]

theorem splitA : Tw.split txA.data.toList = .ok toksA := by kernel_rfl
theorem parseA : Tw.parseS txA.data.toList toksA 100 = some (.ok tA) := by kernel_rfl
theorem weightA : Tw.weightS tA .nil = some 7 := by kernel_rfl
theorem boundA : tA.boundS [] = true := by kernel_rfl
theorem intA : intB 100 tA = true := by kernel_rfl
theorem told_num {v : Nat} (hv : v < 10 ^ 18) : Tw.toldS 400 (Tw.writeV (.num v) []) = Lib.decDigits v := by
  have hl := decDigits_len 17 v hv
  have e : Lib.itoa (v : Int) = Lib.decDigits v := by
    unfold Lib.itoa
    rw [if_neg (by omega)]
    simp
  unfold Tw.writeV
  rw [if_neg (by simp), Tw.putS, if_neg (by simp), List.nil_append, e, Tw.toldS, if_neg (by omega)]

theorem runA : Tw.runS 100 tA 5 = some (0, 1, [53]) := by
  have : Tw.evalS 5 100 tA [] ⟨[], 0, 0⟩ = some (some (.num (5 : Nat)), ⟨[some (.num 4)], 1, 0⟩) := by kernel_rfl
  rw [Tw.runS, this, Option.bind_some]
  simp only
  rw [told_num (by decide), show Lib.decDigits 5 = [53] from by unfold Lib.decDigits; rfl]

theorem fineA : Fine ShS txA tA [105, 110, 116] := ⟨by decide, ⟨toksA, 100, splitA, parseA⟩, allBound_of boundA, ⟨7, weightA, by omega⟩, (intTyped_of intA).said, by decide⟩

abbrev LawS : List TypeId := [128, 334, 329, 5, 311, 117]

theorem three_new (w : World) (x y z : Value) (t : TypeId) : (w.alloc (.cells #[x, y, z] t)).heap[w.heap.size]? = some (.cells #[x, y, z] t (0, 0)) := new_block w _

set_option maxRecDepth 100000 in
set_option maxHeartbeats 2000000 in
theorem awake_any (L : Lib4) {w : World} (hT : Tab w) (hG : 1 < w.heap.size) :
    Calls Tryz.prog 15 #[] w fun e w' => e = .returned (.bool true) ∧ TK w.heap.size LawS w w' := by
  have HT := hide hT
  clear hT
  go_enter Tryz.func15, Tryz.ntmps15
  go_wp2_with fail
  refine (kopen_fine L.ib L.pi fineA w).mono ?_
  rintro e1 w1 ⟨bt, rfl, hX, hk⟩
  have X1 := hide hX
  have K1 := hide (hk.sub (S' := LawS) (by decide))
  have z1 := hk.size
  clear hX hk
  go_wp2_with fail
  refine (Run_any L.fi L.fb 5 (unhide X1) ((unhide HT).tk (unhide K1) hG) (by omega) (show Tw.runS 100 tA (budget 5) = some (0, 1, [53]) from runA)).mono ?_
  rintro e1 w2 ⟨rfl, hk⟩
  have z2 := hk.size
  have K2 := hide ((unhide K1).trans ((hk.base z1).sub (by decide)))
  have X2 := hide ((unhide X1).tk hk (by decide))
  clear hk
  go_wp2_with fail
  have G2 : Hid (w2.grownBy (w2.alloc (.cells #[.int .i64 0, .int .i64 1, .string ⟨#[53]⟩] 39)) none) := World.grownBy_alloc _ _ none
  refine (Type_any (S := ShS) ((unhide X2).tk (TK.of_grown 0 ShS G2.out) (by decide)) fineA.of).mono ?_
  rintro e1 w3 ⟨rfl, hk⟩
  have K3 := hide (((unhide K2).trans (TK.of_grown _ _ G2.out)).trans ((hk.base (by have := G2.out.size; omega)).sub (S' := LawS) (by decide)))
  have C3 := hk.cells (three_new w2 (.int .i64 0) (.int .i64 1) (.string ⟨#[53]⟩) 39) (by decide)
  obtain ⟨c0, c1, c2, _, _, _⟩ := three_cells C3
  clear hk C3
  go_wp2_with fail
  go_ret
  exact ⟨rfl, unhide K3⟩

end Go.Proofs.YtckhafpejefbbaaGreatDoor

/- tailorkeep.digits. -/
namespace Go.Proofs.YtckhafpejefbbaaGreatDoor
open Go.RowKit

end Go.Proofs.YtckhafpejefbbaaGreatDoor

/- The text of Recursive is fine: its type, its two runs. -/
namespace Go.Proofs.YtckhafpejefbbaaGreatDoor
open Go.RowKit

structure Dig (u : Nat) (d : List UInt8) : Prop where
  val : Tw.valueS d = some (u : Int)
  dig : ∀ c ∈ d, Tw.digitI c.toNat = true
  pos : 1 ≤ d.length
  len : d.length ≤ 3
  ne : d ≠ []

end Go.Proofs.YtckhafpejefbbaaGreatDoor

/- tailorkeep.Recursive. -/
namespace Go.Proofs.YtckhafpejefbbaaGreatDoor
open Go.RowKit

end Go.Proofs.YtckhafpejefbbaaGreatDoor

/- tailorkeep.Placed. -/
namespace Go.Proofs.YtckhafpejefbbaaGreatDoor
open Go.RowKit

set_option maxRecDepth 100000 in
set_option maxHeartbeats 1000000 in
theorem pick_det (c : Int) (n : Nat) (h0 : -9223372036854775808 ≤ c) (h1 : c ≤ 9223372036854775807) (hn : 0 < n) (hn2 : n ≤ 1000000) :
    ∃ r : Nat, r < n ∧ ∀ w : World, Calls Tryz.prog 17 #[.int .i64 c, .int .i64 n] w fun e w' => e = .returned (.int .i64 r) ∧ w = w' := by
  have hz : ((n : Int) == 0) = false := by simp; omega
  have hn0 : (n : Int) ≠ 0 := by omega
  by_cases hc : c < 0
  · obtain ⟨r, hr, hr2⟩ := tmod_nat (-(c + 1)) n (by omega) hn
    rw [Int.neg_tmod] at hr
    refine ⟨r, hr2, fun w => ?_⟩
    go_enter Tryz.func17, Tryz.ntmps17
    go_wp2_with fail
    go_ret
    exact ⟨rfl, rfl⟩
  · obtain ⟨r, hr, hr2⟩ := tmod_nat c n (by omega) hn
    refine ⟨r, hr2, fun w => ?_⟩
    go_enter Tryz.func17, Tryz.ntmps17
    go_wp2_with fail
    go_ret
    exact ⟨rfl, rfl⟩

structure Lib5 : Prop extends Lib4 where
  it : Said.ItoaSmall

end Go.Proofs.YtckhafpejefbbaaGreatDoor
