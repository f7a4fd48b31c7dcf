/- Texts of the proof, put together: RunShow, RunText, LexThy, StuckThy, ParseTot, LexTot, EmbThy, EmbThy2, ReThy. -/
import Derived.Test.YtckhafpejefbbaaGreatDoorB16
import Derived.Lib.LaidTab
import Derived.Lib.Small
import Derived.Test.YtckhafpejefbbaaGreatDoorB15
import Derived.Test.YtckhafpejefbbaaGreatDoorB03
import Derived.Test.YtckhafpejefbbaaGreatDoorB04
import Derived.Test.YtckhafpejefbbaaGreatDoorB09
import Derived.Test.YtckhafpejefbbaaGreatDoorB10

/- Package run: write, show. -/
namespace Go.Proofs.YtckhafpejefbbaaGreatDoor
open Go.RowKit

variable {B : Nat}

theorem va_truth_truth (p : Value) (w : World) : Sem.run Tryz.prog (Instr.typeAssert (.iface 196 p) 119 196 true) w = .ok (.tuple #[p, .bool true]) w := by kernel_rfl
theorem va_side_truth (p : Value) (w : World) : Sem.run Tryz.prog (Instr.typeAssert (.iface 203 p) 119 196 true) w = .ok (.tuple #[.bool false, .bool false]) w := by kernel_rfl
theorem va_pair_truth (p : Value) (w : World) : Sem.run Tryz.prog (Instr.typeAssert (.iface 315 p) 119 196 true) w = .ok (.tuple #[.bool false, .bool false]) w := by kernel_rfl
theorem va_clo_truth (p : Value) (w : World) : Sem.run Tryz.prog (Instr.typeAssert (.iface 216 p) 119 196 true) w = .ok (.tuple #[.bool false, .bool false]) w := by kernel_rfl

def Tab (w : World) : Prop := Lib.TabIs Tryz.prog w "internal/strconv.uint64pow10" .u64 Lib.pow10Tab

def Said.FormatInt : Prop := ∀ (n : Int) (_ : -9223372036854775808 ≤ n) (_ : n ≤ 9223372036854775807) (w : World) (_ : Tab w),
  Calls Tryz.prog 173 #[.int .i64 n, .int .i64 10] w fun e w' => e = .returned (bytesV (Lib.itoa n)) ∧ w.grownBy w' none
def Said.FormatBool : Prop := ∀ (b : Bool) (w : World), Calls Tryz.prog 174 #[.bool b] w fun e w' => e = .returned (bytesV (Tw.boolBytes b)) ∧ w = w'

theorem decDigits_len : ∀ (k u : Nat), u < 10 ^ (k + 1) → 0 < (Lib.decDigits u).length ∧ (Lib.decDigits u).length ≤ k + 1
  | 0, u, h => by
    unfold Lib.decDigits
    rw [dif_pos (by simpa using h)]
    simp
  | k + 1, u, h => by
    unfold Lib.decDigits
    split
    · simp
    · have := decDigits_len k (u / 10) (by rw [Nat.pow_succ] at h; omega)
      simp
      omega

theorem itoa_len {n : Int} (h0 : -9223372036854775808 ≤ n) (h1 : n ≤ 9223372036854775807) : 0 < (Lib.itoa n).length ∧ (Lib.itoa n).length ≤ 1000 := by
  unfold Lib.itoa
  split
  · have := decDigits_len 19 n.natAbs (by omega)
    simp
    omega
  · have := decDigits_len 19 n.toNat (by omega)
    omega

theorem gPow : Tryz.prog.globalNamed "internal/strconv.uint64pow10" = some 1 := by kernel_rfl

theorem Tab.tk {S : List TypeId} {w w' : World} (h : Tab w) (hk : TK B S w w') (hB : 1 < B) : Tab w' := by
  have hv : w.var? Tryz.prog "internal/strconv.uint64pow10" = _ := h
  show w'.var? Tryz.prog "internal/strconv.uint64pow10" = _
  unfold World.var? at hv ⊢
  rw [gPow] at hv ⊢
  simp only [Option.bind_some] at hv ⊢
  have hlt : 1 < w.heap.size := by
    rcases Nat.lt_or_ge 1 w.heap.size with h1 | h1
    · exact h1
    · rw [Array.getElem?_eq_none h1] at hv
      simp at hv
  rw [hk.low hB hlt]
  exact hv

theorem ERep.tkS {S : List TypeId} {w w' : World} {sl : List Nat} (hk : TK B S w w') (hS : ([362, 317, 218] ++ keepT).all (fun t => !S.contains t) = true) : ∀ {e : Tw.VEnv} {v : Value}, ERep w sl e v → ERep w' sl e v
  | [], _, h => h
  | (n, k) :: o, _, ⟨b, vo, bs, hv, hl, hb, ho⟩ => ⟨b, vo, bs, hv, hl, hk.cells hb (by have := List.all_eq_true.1 hS 362 (by simp); simpa using this), ERep.tkS hk hS ho⟩

theorem VRep.tkS {S : List TypeId} {w w' : World} {sl : List Nat} (hk : TK B S w w') (hS : ([362, 317, 218] ++ keepT).all (fun t => !S.contains t) = true) : ∀ {x : Tw.Val} {v : Value}, VRep w sl x v → VRep w' sl x v
  | .num _, _, h => h
  | .truth _, _, h => h
  | .side _, _, h => h
  | .pair _ _, _, ⟨b, v1, v2, hv, hb, h1, h2⟩ => ⟨b, v1, v2, hv, hk.cells hb (by have := List.all_eq_true.1 hS 317 (by simp); simpa using this), VRep.tkS hk hS h1, VRep.tkS hk hS h2⟩
  | .clo .., _, ⟨b, fb, ev, v1, hi, hv, hb, hf, hr, he⟩ => by
    have hK : Kp w w' := hk.kp (by rw [List.all_append] at hS; exact (Bool.and_eq_true_iff.1 hS).2)
    exact ⟨b, fb, ev, v1, hi, hv, hk.cells hb (by have := List.all_eq_true.1 hS 218 (by simp); simpa using this), hK _ _ _ _ hf (by decide), hr.kp hK, he.tkS hk hS⟩

def WPostR (B : Nat) (w : World) (bw : Nat) (shown : List UInt8) (e : Ending) (w' : World) : Prop := e = .returned (.tuple #[]) ∧ TK B WrS w w' ∧ ∃ sv', BrAt w' bw 400 sv' shown

def WSaidR (B : Nat) (x : Tw.Val) : Prop := ∀ {w : World} {bw : Nat} {sv : Value} {shown : List UInt8} {v : Value} {sl : List Nat}, VRep w sl x v → BrAt w bw 400 sv shown → Tab w → B ≤ bw → 1 < B → Calls Tryz.prog 95 #[.pointer (some ⟨bw, 0, none⟩), v] w (WPostR B w bw (Tw.writeV x shown))

set_option maxRecDepth 100000 in
set_option maxHeartbeats 2000000 in
theorem rwrite_full {w : World} {bw : Nat} {sv : Value} {shown : List UInt8} {T : TypeId} {p : Value} (hW : BrAt w bw 400 sv shown) (hl : 400 < shown.length) : Calls Tryz.prog 95 #[.pointer (some ⟨bw, 0, none⟩), .iface T p] w (WPostR B w bw shown) := by
  have W0 := hide hW
  have hd : decide (400 < shown.length) = true := by simp [hl]
  clear hW
  go_enter Tryz.func95, Tryz.ntmps95
  go_wp2_with fail
  refine (Full_any (unhide W0)).mono ?_
  rintro e1 w1 ⟨rfl, rfl⟩
  rw [hd]
  go_wp2_with fail
  go_end0
  exact ⟨rfl, TK.of_grown _ _ (grown_drew (grown_refl _)), sv, (unhide W0).grown (grown_drew (grown_refl _))⟩

set_option maxRecDepth 100000 in
set_option maxHeartbeats 2000000 in
theorem rwrite_num (hFI : Said.FormatInt) (n : Int) : WSaidR B (.num n) := by
  intro w bw sv shown v sl hv hW hT hB hG
  obtain ⟨rfl, h0, h1⟩ := hv
  unfold Tw.writeV
  split
  · rename_i hl
    exact rwrite_full hW hl
  · rename_i hl
    have hd : decide (400 < shown.length) = false := by simpa using hl
    have W1 := hide (hW.grown (grown_drew (grown_refl w)))
    have W0 := hide hW
    have T1 := hide (hT.tk (TK.of_grown B [] (grown_drew (grown_refl w))) hG)
    have q := va_num_num
    have hlen := itoa_len h0 h1
    clear hW hT
    go_enter Tryz.func95, Tryz.ntmps95
    go_wp2_with fail
    refine (Full_any (unhide W0)).mono ?_
    rintro e1 w1 ⟨rfl, rfl⟩
    rw [hd]
    have D1 : Hid (w.grownBy w.drew none) := grown_drew (grown_refl _)
    generalize w.drew = w1 at *
    go_wp2_with fail
    refine (hFI n h0 h1 w1 (unhide T1)).mono ?_
    rintro e1 w2 ⟨rfl, hg⟩
    have W2 := hide ((unhide W1).grown hg)
    have G2 : Hid (w.grownBy w2 none) := grown_trans D1.out hg
    clear hg
    go_wp2_with fail
    refine (Put_any (unhide W2) hB ⟨(Lib.itoa n).toArray⟩ (by simpa [ByteArray.size] using hlen.2) (by simpa [ByteArray.size] using hlen.1)).mono ?_
    rintro e1 w3 ⟨rfl, hk, sv', hW'⟩
    have X : Hid (WPostR B w bw (Tw.putS 400 shown (Lib.itoa n)) (.returned (.tuple #[])) w3) := ⟨rfl, (TK.of_grown _ _ G2.out).trans hk, sv', by simpa using hW'⟩
    clear hk hW'
    go_wp2_with fail
    go_end0
    exact X.out

set_option maxRecDepth 100000 in
set_option maxHeartbeats 2000000 in
theorem rwrite_truth (hFB : Said.FormatBool) (n : Bool) : WSaidR B (.truth n) := by
  intro w bw sv shown v sl hv hW hT hB hG
  obtain rfl : v = _ := hv
  unfold Tw.writeV
  split
  · rename_i hl
    exact rwrite_full hW hl
  · rename_i hl
    have hd : decide (400 < shown.length) = false := by simpa using hl
    have W1 := hide (hW.grown (grown_drew (grown_refl w)))
    have W0 := hide hW
    have q := va_truth_num
    have q1 := va_truth_truth
    have hlen : 0 < (Tw.boolBytes n).length ∧ (Tw.boolBytes n).length ≤ 1000 := by cases n <;> decide
    clear hW hT
    go_enter Tryz.func95, Tryz.ntmps95
    go_wp2_with fail
    refine (Full_any (unhide W0)).mono ?_
    rintro e1 w1 ⟨rfl, rfl⟩
    rw [hd]
    have D1 : Hid (w.grownBy w.drew none) := grown_drew (grown_refl _)
    generalize w.drew = w1 at *
    go_wp2_with fail
    refine (hFB n w1).mono ?_
    rintro e1 w2 ⟨rfl, rfl⟩
    go_wp2_with fail
    refine (Put_any (unhide W1) hB ⟨(Tw.boolBytes n).toArray⟩ (by simpa [ByteArray.size] using hlen.2) (by simpa [ByteArray.size] using hlen.1)).mono ?_
    rintro e1 w3 ⟨rfl, hk, sv', hW'⟩
    have X : Hid (WPostR B w bw (Tw.putS 400 shown (Tw.boolBytes n)) (.returned (.tuple #[])) w3) := ⟨rfl, (TK.of_grown _ _ D1.out).trans hk, sv', by simpa using hW'⟩
    clear hk hW'
    go_wp2_with fail
    go_end0
    exact X.out

set_option maxRecDepth 100000 in
set_option maxHeartbeats 2000000 in
theorem rwrite_fun {w : World} {bw : Nat} {sv : Value} {shown : List UInt8} {T : TypeId} {p : Value} {x1 x2 : Value} {b1 b2 : Bool} (q1 : ∀ w : World, Sem.run Tryz.prog (Instr.typeAssert (.iface T p) 119 192 true) w = .ok (.tuple #[.int .i64 0, .bool false]) w)
    (q2 : ∀ w : World, Sem.run Tryz.prog (Instr.typeAssert (.iface T p) 119 196 true) w = .ok (.tuple #[.bool false, .bool false]) w) (q3 : ∀ w : World, Sem.run Tryz.prog (Instr.typeAssert (.iface T p) 119 315 true) w = .ok (.tuple #[.pointer none, .bool false]) w)
    (q4 : ∀ w : World, Sem.run Tryz.prog (Instr.typeAssert (.iface T p) 119 216 true) w = .ok (.tuple #[x1, .bool b1]) w) (q5 : ∀ w : World, Sem.run Tryz.prog (Instr.typeAssert (.iface T p) 119 203 true) w = .ok (.tuple #[x2, .bool b2]) w)
    (hb : (b1 = true ∧ b2 = false) ∨ (b1 = false ∧ b2 = true)) (hW : BrAt w bw 400 sv shown) (hl : ¬ 400 < shown.length) (hB : B ≤ bw) : Calls Tryz.prog 95 #[.pointer (some ⟨bw, 0, none⟩), .iface T p] w (WPostR B w bw (Tw.putS 400 shown [102, 117, 110])) := by
  have hd : decide (400 < shown.length) = false := by simpa using hl
  have W1 := hide (hW.grown (grown_drew (grown_refl w)))
  have W0 := hide hW
  clear hW
  rcases hb with ⟨rfl, rfl⟩ | ⟨rfl, rfl⟩ <;> (
    go_enter Tryz.func95, Tryz.ntmps95
    go_wp2_with fail
    refine (Full_any (unhide W0)).mono ?_
    rintro e1 w1 ⟨rfl, rfl⟩
    rw [hd]
    have D1 : Hid (w.grownBy w.drew none) := grown_drew (grown_refl _)
    generalize w.drew = w1 at *
    go_wp2_with fail
    refine (Put_any (unhide W1) hB ⟨#[102, 117, 110]⟩ (by simp [ByteArray.size]) (by simp [ByteArray.size])).mono ?_
    rintro e1 w3 ⟨rfl, hk, sv', hW'⟩
    have X : Hid (WPostR B w bw (Tw.putS 400 shown [102, 117, 110]) (.returned (.tuple #[])) w3) := ⟨rfl, (TK.of_grown _ _ D1.out).trans hk, sv', by simpa using hW'⟩
    clear hk hW'
    go_wp2_with fail
    go_end0
    exact X.out)

set_option maxRecDepth 100000 in
set_option maxHeartbeats 2000000 in
theorem rwrite_pair {x y : Tw.Val} (hX : WSaidR B x) (hY : WSaidR B y) : WSaidR B (.pair x y) := by
  intro w bw sv shown v sl hv hW hT hB hG
  obtain ⟨b, v1, v2, rfl, hb, hv1, hv2⟩ := hv
  unfold Tw.writeV
  split
  · rename_i hl
    exact rwrite_full hW hl
  · rename_i hl
    have hd : decide (400 < shown.length) = false := by simpa using hl
    have W1 := hide (hW.grown (grown_drew (grown_refl w)))
    have W0 := hide hW
    have V1 := hide hv1
    have V2 := hide hv2
    have HT := hide hT
    have HB := hide hb
    obtain ⟨T1, p1, rfl⟩ := VRep.iface hv1
    obtain ⟨T2, p2, rfl⟩ := VRep.iface hv2
    have q1 := va_pair_num
    have q2 := va_pair_truth
    have q3 := va_pair_pair
    clear hW hT hb hv1 hv2
    go_enter Tryz.func95, Tryz.ntmps95
    go_wp2_with fail
    refine (Full_any (unhide W0)).mono ?_
    rintro e1 w1 ⟨rfl, rfl⟩
    rw [hd]
    have D1 : Hid (w.grownBy w.drew none) := grown_drew (grown_refl _)
    generalize w.drew = w1 at *
    go_wp2_with fail
    refine (Put_any (unhide W1) hB ⟨#[40]⟩ (by simp [ByteArray.size]) (by simp [ByteArray.size])).mono ?_
    rintro e1 w2 ⟨rfl, hk, sv2, hW2⟩
    have K2 : Hid (TK B WrS w w2) := (TK.of_grown _ _ D1.out).trans hk
    have W2 := hide hW2
    obtain ⟨c0, c1, _, _⟩ := two_cells (K2.out.cells (unhide HB) (by decide))
    clear hk hW2
    go_wp2_with fail
    refine (hX ((unhide V1).tkS K2.out (by decide)) (unhide W2) ((unhide HT).tk K2.out hG) hB hG).mono ?_
    rintro e1 w3 ⟨rfl, hk, sv3, hW3⟩
    have K3 : Hid (TK B WrS w w3) := K2.out.trans hk
    have W3 := hide hW3
    clear hk hW3 c0 c1
    go_wp2_with fail
    refine (Put_any (unhide W3) hB ⟨#[44, 32]⟩ (by simp [ByteArray.size]) (by simp [ByteArray.size])).mono ?_
    rintro e1 w4 ⟨rfl, hk, sv4, hW4⟩
    have K4 : Hid (TK B WrS w w4) := K3.out.trans hk
    have W4 := hide hW4
    obtain ⟨c0, c1, _, _⟩ := two_cells (K4.out.cells (unhide HB) (by decide))
    clear hk hW4
    go_wp2_with fail
    refine (hY ((unhide V2).tkS K4.out (by decide)) (unhide W4) ((unhide HT).tk K4.out hG) hB hG).mono ?_
    rintro e1 w5 ⟨rfl, hk, sv5, hW5⟩
    have K5 : Hid (TK B WrS w w5) := K4.out.trans hk
    have W5 := hide hW5
    clear hk hW5 c0 c1
    go_wp2_with fail
    refine (Put_any (unhide W5) hB ⟨#[41]⟩ (by simp [ByteArray.size]) (by simp [ByteArray.size])).mono ?_
    rintro e1 w6 ⟨rfl, hk, sv6, hW6⟩
    have X : Hid (WPostR B w bw (Tw.putS 400 (Tw.writeV y (Tw.putS 400 (Tw.writeV x (Tw.putS 400 shown [40])) [44, 32])) [41]) (.returned (.tuple #[])) w6) := ⟨rfl, K5.out.trans hk, sv6, hW6⟩
    clear hk hW6
    go_wp2_with fail
    go_end0
    exact X.out

theorem rwrite_all (hFI : Said.FormatInt) (hFB : Said.FormatBool) : ∀ x : Tw.Val, WSaidR B x
  | .num n => rwrite_num hFI n
  | .truth b => rwrite_truth hFB b
  | .side b => by
    intro hv hW hT hB hG
    obtain rfl := (hv : _ = _)
    unfold Tw.writeV
    split
    · rename_i hl
      exact rwrite_full hW hl
    · rename_i hl
      exact rwrite_fun (va_side_num _) (va_side_truth _) (va_side_pair _) (va_side_clo _) (va_side_side _) (.inr ⟨rfl, rfl⟩) hW hl hB
  | .clo .. => by
    intro hv hW hT hB hG
    obtain ⟨b, fb, ev, v1, hi, rfl, _⟩ := hv
    unfold Tw.writeV
    split
    · rename_i hl
      exact rwrite_full hW hl
    · rename_i hl
      exact rwrite_fun (va_clo_num _) (va_clo_truth _) (va_clo_pair _) (va_clo_clo _) (va_clo_side _) (.inl ⟨rfl, rfl⟩) hW hl hB
  | .pair x y => rwrite_pair (rwrite_all hFI hFB x) (rwrite_all hFI hFB y)

set_option maxRecDepth 100000 in
set_option maxHeartbeats 2000000 in
theorem rshow_any (hFI : Said.FormatInt) (hFB : Said.FormatBool) {w : World} {sl : List Nat} {x : Tw.Val} {v : Value} (hv : VRep w sl x v) (hT : Tab w) (hG : 1 < w.heap.size) :
    Calls Tryz.prog 51 #[v] w fun e w' => e = .returned (bytesV (Tw.toldS 400 (Tw.writeV x []))) ∧ TK w.heap.size WrS w w' := by
  have HV := hide hv
  have HT := hide hT
  obtain ⟨T, p, rfl⟩ := VRep.iface hv
  clear hv hT
  go_enter Tryz.func51, Tryz.ntmps51
  go_wp2_with fail
  refine (NewWriter_any w 400 (by omega)).mono ?_
  rintro e1 w1 ⟨rfl, hg, hb⟩
  have G1 := hide hg
  have B1 := hide hb
  clear hg hb
  go_wp2_with fail
  refine (rwrite_all hFI hFB x (B := w.heap.size) ((unhide HV).tkS (TK.of_grown 0 WrS (unhide G1)) (by decide)) (unhide B1) ((unhide HT).tk (TK.of_grown w.heap.size [] (unhide G1)) hG) (Nat.le_refl _) hG).mono ?_
  rintro e1 w2 ⟨rfl, hk, sv2, hW2⟩
  have K2 : Hid (TK w.heap.size WrS w w2) := (TK.of_grown _ _ (unhide G1)).trans hk
  have W2 := hide hW2
  clear hk hW2
  go_wp2_with fail
  refine (Told_any (unhide W2)).mono ?_
  rintro e1 w3 ⟨rfl, hg⟩
  have K3 : Hid (TK w.heap.size WrS w w3) := K2.out.trans (TK.of_grown _ _ hg)
  clear hg
  go_wp2_with fail
  go_ret
  exact ⟨rfl, K3.out⟩

end Go.Proofs.YtckhafpejefbbaaGreatDoor

/- run.Text and the method Run. -/
namespace Go.Proofs.YtckhafpejefbbaaGreatDoor
open Go.RowKit

abbrev RunWS : List TypeId := [311, 117, 329, 5]

theorem TK.setNew {B : Nat} {S : List TypeId} {w w1 : World} (h : TK B S w w1) {b : Nat} (j : Nat) (v : Value) (hb : w.heap.size ≤ b) : TK B S w (w1.setCell ⟨b, j, none⟩ v) := by
  have key : ∀ k, k < w.heap.size → (w1.setCell ⟨b, j, none⟩ v).heap[k]? = w1.heap[k]? := fun k hk => heap_setCell_other _ _ _ _ (by simp; omega)
  exact ⟨fun {k} x y => (key k y).trans (h.low x y), h.os, h.tape, h.output, by simpa using h.size, fun {k c t m} x y => (key k (Array.getElem?_eq_some_iff.1 x).1).trans (h.cells x y), fun {k o} x y => (key k (Array.getElem?_eq_some_iff.1 x).1).trans (h.other x y)⟩

theorem three_set {w : World} {b : Nat} {x y z : Value} {t : TypeId} (h : w.heap[b]? = some (.cells #[x, y, z] t (0, 0))) (p q r : Value) : (((w.setCell ⟨b, 0, none⟩ p).setCell ⟨b, 1, none⟩ q).setCell ⟨b, 2, none⟩ r).heap[b]? = some (.cells #[p, q, r] t (0, 0)) := by
  have h1 : (w.setCell ⟨b, 0, none⟩ p).heap[b]? = some (.cells #[p, y, z] t (0, 0)) := by rw [heap_setCell_same _ _ _ _ _ _ h]; rfl
  have h2 : ((w.setCell ⟨b, 0, none⟩ p).setCell ⟨b, 1, none⟩ q).heap[b]? = some (.cells #[p, q, z] t (0, 0)) := by rw [heap_setCell_same _ _ _ _ _ _ h1]; rfl
  rw [heap_setCell_same _ _ _ _ _ _ h2]; rfl

theorem TK.drew {B : Nat} {S : List TypeId} {w w1 : World} (h : TK B S w w1) : TK B S w w1.drew := h.trans (TK.of_grown _ _ (grown_drew (grown_refl _)))

set_option maxRecDepth 100000 in
set_option maxHeartbeats 2000000 in
theorem rText_any (hFI : Said.FormatInt) (hFB : Said.FormatBool) {w : World} {hi fuel bud : Nat} {t : Tw.T} {tv : Value} (hr : Rep w 0 hi t tv) (hb : bud ≤ 3000) (hT : Tab w) (hG : 1 < w.heap.size) {kind : Int} {steps : Nat} {shown : List UInt8} (hf : Tw.runS fuel t bud = some (kind, steps, shown)) :
    Calls Tryz.prog 33 #[tv, .int .i64 bud] w fun e w' => e = .returned (.agg #[.int .i64 kind, .int .i64 steps, bytesV shown]) ∧ TK w.heap.size RunWS w w' := by
  unfold Tw.runS at hf
  obtain ⟨a, ha, hf⟩ := Option.bind_eq_some_iff.1 hf
  have HR := hide hr
  have HT := hide hT
  have HA := hide ha
  obtain ⟨PT, nt, rfl⟩ := hr.iface
  clear hr hT ha
  have A1 : Hid (w.grownBy (w.alloc (.cells #[.int .i64 0, .int .i64 0, .string ⟨#[]⟩] 39)) none) := World.grownBy_alloc _ _ none
  have A2 : Hid (w.grownBy ((w.alloc (.cells #[.int .i64 0, .int .i64 0, .string ⟨#[]⟩] 39)).alloc (.cells #[.int .i64 bud, .int .i64 0, .int .i64 0] 117)) none) := grown_alloc A1.out _
  have R0 : Hid (RunAt w.heap.size ((w.alloc (.cells #[.int .i64 0, .int .i64 0, .string ⟨#[]⟩] 39)).alloc (.cells #[.int .i64 bud, .int .i64 0, .int .i64 0] 117)) (w.heap.size + 1) bud [] ⟨[], 0, 0⟩) := by
    refine { runner := ?_, len := rfl, nodup := by simp, slot := fun h => by simp at h, steps := by simp, bud := hb, lob := by omega, los := fun h => by simp at h }
    have := new_block (w.alloc (.cells #[.int .i64 0, .int .i64 0, .string ⟨#[]⟩] 39)) (.cells #[.int .i64 bud, .int .i64 0, .int .i64 0] 117)
    rw [World.size_alloc] at this
    exact this
  have C0 : Hid (((w.alloc (.cells #[.int .i64 0, .int .i64 0, .string ⟨#[]⟩] 39)).alloc (.cells #[.int .i64 bud, .int .i64 0, .int .i64 0] 117)).heap[w.heap.size]? = some (.cells #[.int .i64 0, .int .i64 0, .string ⟨#[]⟩] 39 (0, 0))) :=
    (Below.heap_alloc _ _ _ (by simp)).trans (new_block w _)
  go_enter Tryz.func33, Tryz.ntmps33
  go_wp2_with fail
  refine (eval_all fuel (unhide R0) ((unhide HR).grown A2.out (Nat.le_refl _) (Nat.le_refl _)) (show ERep _ [] [] (.pointer none) from rfl) (unhide HA)).mono ?_
  rintro e1 w1 ⟨v, sl1, rfl, hv, hk, hp, hR⟩
  have K1 : Hid (TK w.heap.size RunS w w1) := (TK.of_grown _ _ A2.out).trans hk
  have R1 := hide hR
  have C1 := hide (hk.cells (unhide C0) (by decide))
  obtain ⟨c0, c1, c2, f0, f1, f2⟩ := three_cells (unhide C1)
  obtain ⟨d0, d1, d2, _, _, _⟩ := three_cells hR.runner
  have z1 := (unhide K1).size
  obtain ⟨a1, a2⟩ := a
  clear hk hp hR A1 A2 C0 R0
  cases a1 with
  | none =>
    simp only [Option.some.injEq, Prod.mk.injEq] at hf
    obtain ⟨rfl, rfl, rfl⟩ := hf
    obtain rfl : v = .nilIface := hv
    go_wp2_with fail
    go_region
    go_wp2_with fail
    obtain ⟨e0, e1, e2, _, _, _⟩ := three_cells (three_set (unhide C1) (.int .i64 a2.fin) (.int .i64 a2.steps) (.string ⟨#[]⟩))
    refine bodyPost_ret (v := .agg #[.int .i64 a2.fin, .int .i64 a2.steps, bytesV []]) (by simp [results, Tryz.results33, go_sem, e0, e1, e2]) rfl ⟨rfl, ?_⟩
    exact (((((unhide K1).sub (by decide)).setNew 0 _ (Nat.le_refl _)).setNew 1 _ (Nat.le_refl _)).setNew 2 _ (Nat.le_refl _)).drew
  | some x =>
    simp only [Option.some.injEq, Prod.mk.injEq] at hf
    obtain ⟨rfl, rfl, rfl⟩ := hf
    have V1 : Hid (VRep w1 sl1 x v) := hv
    obtain ⟨T, p, rfl⟩ := VRep.iface hv
    clear hv
    go_wp2_with fail
    have D1 : Hid (w1.grownBy w1.drew none) := grown_drew (grown_refl _)
    go_region_held3 (fun W => W.cell? ⟨w.heap.size + 1, 1, none⟩ = some (.int .i64 a2.steps)) (go_keep)
      ((go_at_call 51; refine (rshow_any hFI hFB ((unhide V1).tk (TK.of_grown 0 _ D1.out) (List.prefix_refl _)) ((unhide HT).tk ((unhide K1).trans (TK.of_grown _ _ D1.out)) hG) (by have := D1.out.size; omega)).mono ?_; rintro e1 w2 ⟨rfl, hk⟩
        have K2 : Hid (TK w.heap.size RunWS w w2) := ((unhide K1).drew.sub (by decide)).trans ((hk.base (by have := D1.out.size; omega)).sub (by decide))
        have C2 := hide (hk.cells (unhide C1) (by decide))
        obtain ⟨g0, g1, g2, k0, k1, k2⟩ := three_cells (unhide C2)
        obtain ⟨_, e1, _, _, _, _⟩ := three_cells (hk.cells (unhide R1).runner (by decide))
        clear hk))
    go_wp2_with fail
    have C2 : w2.heap[w.heap.size]? = some (.cells #[.int .i64 0, .int .i64 0, .string ⟨#[]⟩] 39 (0, 0)) := unhide C2
    obtain ⟨e0, e1, e2, _, _, _⟩ := three_cells (three_set C2 (.int .i64 0) (.int .i64 a2.steps) (bytesV (Tw.toldS 400 (Tw.writeV x []))))
    refine bodyPost_ret (v := .agg #[.int .i64 0, .int .i64 a2.steps, bytesV (Tw.toldS 400 (Tw.writeV x []))]) (by simp [results, Tryz.results33, go_sem, e0, e1, e2]) rfl ⟨rfl, ?_⟩
    exact ((((unhide K2).setNew 0 _ (Nat.le_refl _)).setNew 1 _ (Nat.le_refl _)).setNew 2 _ (Nat.le_refl _))

def budget (n : Int) : Nat := (min (max n 0) 3000).toNat

set_option maxRecDepth 100000 in
set_option maxHeartbeats 2000000 in
theorem Run_any (hFI : Said.FormatInt) (hFB : Said.FormatBool) {w : World} {bt fuel : Nat} {s : ByteArray} {t : Tw.T} (n : Int) (h : TextAt w bt s t) (hT : Tab w) (hG : 1 < w.heap.size) {kind : Int} {steps : Nat} {shown : List UInt8} (hf : Tw.runS fuel t (budget n) = some (kind, steps, shown)) :
    Calls Tryz.prog 21 #[.pointer (some ⟨bt, 0, none⟩), .int .i64 n] w fun e w' => e = .returned (.agg #[.int .i64 kind, .int .i64 steps, bytesV shown]) ∧ TK w.heap.size RunWS w w' := by
  obtain ⟨hi, tv, h1, h2⟩ := h
  have HR := hide h2
  have HT := hide hT
  have HF := hide hf
  have lb : bt < w.heap.size := (Array.getElem?_eq_some_iff.1 h1).1
  obtain ⟨PT, nt, rfl⟩ := h2.iface
  obtain ⟨_, c1, _, _⟩ := two_cells h1
  have A1 : Hid (w.grownBy (w.alloc (.cells #[.int .i64 0, .int .i64 0, .string ⟨#[]⟩] 39)) none) := World.grownBy_alloc _ _ none
  have C0 : Hid ((w.alloc (.cells #[.int .i64 0, .int .i64 0, .string ⟨#[]⟩] 39)).heap[w.heap.size]? = some (.cells #[.int .i64 0, .int .i64 0, .string ⟨#[]⟩] 39 (0, 0))) := new_block w _
  have hb : budget n ≤ 3000 := by unfold budget; omega
  have hb2 : ((budget n : Nat) : Int) = min (max n 0) 3000 := by unfold budget; omega
  clear h1 h2 hT hf
  have fin : Hid (∀ x : Int, x = ((budget n : Nat) : Int) → Calls Tryz.prog 33 #[.iface PT (.pointer (some ⟨nt, 0, none⟩)), .int .i64 x] (w.alloc (.cells #[.int .i64 0, .int .i64 0, .string ⟨#[]⟩] 39)) fun e w' => e = .returned (.agg #[.int .i64 kind, .int .i64 steps, bytesV shown]) ∧ TK w.heap.size RunWS w w' ∧ w'.heap[w.heap.size]? = some (.cells #[.int .i64 0, .int .i64 0, .string ⟨#[]⟩] 39 (0, 0))) := by
    rintro x rfl
    refine (rText_any hFI hFB ((unhide HR).grown A1.out (Nat.le_refl _) (Nat.le_refl _)) hb ((unhide HT).tk (TK.of_grown w.heap.size [] A1.out) hG) (by have := A1.out.size; omega) (unhide HF)).mono ?_
    rintro e w' ⟨rfl, hk⟩
    exact ⟨rfl, (TK.of_grown _ _ A1.out).trans (hk.base A1.out.size), hk.cells (unhide C0) (by decide)⟩
  go_enter Tryz.func21, Tryz.ntmps21
  go_wp2_with fail
  all_goals
    refine (unhide fin _ (by omega)).mono ?_
    rintro e1 w1 ⟨rfl, hk, hc⟩
    have K1 := hide hk
    have C1 := hide hc
    obtain ⟨g0, g1, g2, k0, k1, k2⟩ := three_cells hc
    clear hk hc
    go_wp2_with fail
    obtain ⟨e0, e1, e2, _, _, _⟩ := three_cells (three_set (unhide C1) (.int .i64 kind) (.int .i64 steps) (bytesV shown))
    refine bodyPost_ret (v := .agg #[.int .i64 kind, .int .i64 steps, bytesV shown]) (by simp [results, Tryz.results21, go_sem, e0, e1, e2]) rfl ⟨rfl, ?_⟩
    exact (((unhide K1).setNew 0 _ (Nat.le_refl _)).setNew 1 _ (Nat.le_refl _)).setNew 2 _ (Nat.le_refl _)

end Go.Proofs.YtckhafpejefbbaaGreatDoor

/- Tokens of texts that are put together. -/
namespace Go.Proofs.YtckhafpejefbbaaGreatDoor.Tw
open Go

inductive Lex : Nat → List UInt8 → List Tok → Prop
  | nil (off : Nat) : Lex off [] []
  | gap {off : Nat} {m : List UInt8} {ts : List Tok} (h : m ≠ []) (hg : 0 < gapL m) (hr : Lex (off + (gapL m).toNat) (m.drop (gapL m).toNat) ts) : Lex off m ts
  | tok {off : Nat} {m : List UInt8} {ts : List Tok} (h : m ≠ []) (hg : ¬ 0 < gapL m) (h0 : (firstL m).2 ≠ 0) (hr : Lex (off + (firstL m).2.toNat) (m.drop (firstL m).2.toNat) ts) : Lex off m (⟨(firstL m).1, off, off + (firstL m).2.toNat⟩ :: ts)

inductive LexE : Nat → List UInt8 → Nat → Prop
  | here {off : Nat} {m : List UInt8} (h : m ≠ []) (hg : ¬ 0 < gapL m) (h0 : (firstL m).2 = 0) : LexE off m off
  | gap {off : Nat} {m : List UInt8} {k : Nat} (h : m ≠ []) (hg : 0 < gapL m) (hr : LexE (off + (gapL m).toNat) (m.drop (gapL m).toNat) k) : LexE off m k
  | tok {off : Nat} {m : List UInt8} {k : Nat} (h : m ≠ []) (hg : ¬ 0 < gapL m) (h0 : (firstL m).2 ≠ 0) (hr : LexE (off + (firstL m).2.toNat) (m.drop (firstL m).2.toNat) k) : LexE off m k

theorem splitFrom_lex (l : List UInt8) : ∀ (fuel k : Nat) (acc : List Tok), k ≤ l.length → l.length < fuel + k →
    (∃ body, splitFrom l fuel k acc = .ok (acc ++ body ++ [⟨0, l.length, l.length⟩]) ∧ Lex k (l.drop k) body) ∨ (∃ e, splitFrom l fuel k acc = .error e ∧ LexE k (l.drop k) e) := by
  intro fuel
  induction fuel with
  | zero => intro k acc h1 h2; omega
  | succ n ih =>
    intro k acc h1 h2
    rw [splitFrom]
    by_cases hk : k < l.length
    · have hl : 0 < (l.drop k).length := by simp; omega
      have hne : l.drop k ≠ [] := by intro e; rw [e] at hl; simp at hl
      have g1 := gapL_le (l.drop k) hl
      have f1 := firstL_le (l.drop k) hl
      simp only [List.length_drop] at g1 f1
      rw [if_pos hk]
      by_cases hg : 0 < gapL (l.drop k)
      · rw [if_pos hg]
        have := ih (k + (gapL (l.drop k)).toNat) acc (by omega) (by omega)
        rw [← List.drop_drop] at this
        rcases this with ⟨body, h, hL⟩ | ⟨e, h, hL⟩
        · exact .inl ⟨body, h, .gap hne hg hL⟩
        · exact .inr ⟨e, h, .gap hne hg hL⟩
      · rw [if_neg hg]
        by_cases h0 : (firstL (l.drop k)).2 = 0
        · rw [if_pos h0]
          exact .inr ⟨k, rfl, .here hne hg h0⟩
        · rw [if_neg h0]
          have := ih (k + (firstL (l.drop k)).2.toNat) (acc ++ [⟨(firstL (l.drop k)).1, k, k + (firstL (l.drop k)).2.toNat⟩]) (by omega) (by omega)
          rw [← List.drop_drop] at this
          rcases this with ⟨body, h, hL⟩ | ⟨e, h, hL⟩
          · exact .inl ⟨_ :: body, by rw [h]; simp, .tok hne hg h0 hL⟩
          · exact .inr ⟨e, h, .tok hne hg h0 hL⟩
    · have hkl : k = l.length := by omega
      subst hkl
      rw [if_neg hk]
      refine .inl ⟨[], by simp, ?_⟩
      rw [List.drop_length]
      exact .nil _

theorem Lex.unique : ∀ {off : Nat} {m : List UInt8} {ts us : List Tok}, Lex off m ts → Lex off m us → ts = us := by
  intro off m ts us h
  induction h generalizing us with
  | nil off => intro k; cases k with
    | nil => rfl
    | gap h => exact absurd rfl h
    | tok h => exact absurd rfl h
  | gap h hg hr ih => intro k; cases k with
    | nil => exact absurd rfl h
    | gap _ _ hr' => exact ih hr'
    | tok _ hg' => exact absurd hg hg'
  | tok h hg h0 hr ih => intro k; cases k with
    | nil => exact absurd rfl h
    | gap _ hg' => exact absurd hg' hg
    | tok _ _ _ hr' => rw [ih hr']

theorem LexE.unique : ∀ {off : Nat} {m : List UInt8} {a b : Nat}, LexE off m a → LexE off m b → a = b := by
  intro off m a b h
  induction h with
  | here h hg h0 => intro k; cases k with
    | here => rfl
    | gap _ hg' => exact absurd hg' hg
    | tok _ _ h0' => exact absurd h0 h0'
  | gap h hg hr ih => intro k; cases k with
    | here _ hg' => exact absurd hg hg'
    | gap _ _ hr' => exact ih hr'
    | tok _ hg' => exact absurd hg hg'
  | tok h hg h0 hr ih => intro k; cases k with
    | here _ _ h0' => exact absurd h0' h0
    | gap _ hg' => exact absurd hg' hg
    | tok _ _ _ hr' => exact ih hr'

theorem Lex.not_err : ∀ {off : Nat} {m : List UInt8} {ts : List Tok} {e : Nat}, Lex off m ts → LexE off m e → False := by
  intro off m ts e h
  induction h with
  | nil => intro k; cases k with
    | here h => exact absurd rfl h
    | gap h => exact absurd rfl h
    | tok h => exact absurd rfl h
  | gap h hg hr ih => intro k; cases k with
    | here _ hg' => exact absurd hg hg'
    | gap _ _ hr' => exact ih hr'
    | tok _ hg' => exact absurd hg hg'
  | tok h hg h0 hr ih => intro k; cases k with
    | here _ _ h0' => exact absurd h0' h0
    | gap _ hg' => exact absurd hg' hg
    | tok _ _ _ hr' => exact ih hr'

theorem split_ok_iff {l : List UInt8} {ts : List Tok} : split l = .ok ts ↔ ∃ body, Lex 0 l body ∧ ts = body ++ [⟨0, l.length, l.length⟩] := by
  have := splitFrom_lex l (l.length + 1) 0 [] (by omega) (by omega)
  simp only [List.drop_zero, List.nil_append] at this
  constructor
  · intro h
    rcases this with ⟨body, h', hL⟩ | ⟨e, h', _⟩
    · rw [split, h'] at h
      cases h
      exact ⟨body, hL, rfl⟩
    · rw [split, h'] at h
      cases h
  · rintro ⟨body, hL, rfl⟩
    rcases this with ⟨body', h', hL'⟩ | ⟨e, h', hE⟩
    · rw [split, h', hL.unique hL']
    · exact (hL.not_err hE).elim

def sepH : List UInt8 → Prop
  | [] => True
  | c :: _ => wordI c.toNat = false ∧ c ≠ 62

theorem indexByte_append (c : UInt8) (r : List UInt8) : ∀ m : List UInt8, 0 ≤ Lib.indexByte m c → Lib.indexByte (m ++ r) c = Lib.indexByte m c
  | [], h => by simp [Lib.indexByte] at h
  | b :: m, h => by
    rw [List.cons_append, Lib.indexByte]
    rw [Lib.indexByte] at h
    rw [Lib.indexByte]
    split
    · rfl
    · rename_i hb
      rw [if_neg hb] at h
      have hm : 0 ≤ Lib.indexByte m c := by
        have := Lib.indexByte_ge m c
        split at h
        · simp at h
        · rename_i hq
          have hq' : Lib.indexByte m c ≠ -1 := by simpa using hq
          omega
      rw [indexByte_append c r m hm]

theorem headI_append {m : List UInt8} (h : m ≠ []) (r : List UInt8) : headI (m ++ r) = headI m := by
  cases m with
  | nil => exact absurd rfl h
  | cons c m => rfl

theorem gapL_append {m : List UInt8} (h : m ≠ []) (hg : 0 < gapL m) (r : List UInt8) : gapL (m ++ r) = gapL m := by
  unfold gapL at hg ⊢
  rw [headI_append h]
  split
  · rfl
  · rename_i h1
    rw [if_neg h1] at hg
    split
    · rename_i h2
      rw [if_pos h2] at hg
      rw [indexByte_append 125 r m (by omega)]
    · rfl

theorem gapL_append0 {m : List UInt8} (h : m ≠ []) (hg : ¬ 0 < gapL m) (h0 : (firstL m).2 ≠ 0) (r : List UInt8) : ¬ 0 < gapL (m ++ r) := by
  unfold gapL at hg ⊢
  rw [headI_append h]
  split
  · rename_i h1
    rw [if_pos h1] at hg
    omega
  · rename_i h1
    split
    · rename_i h2
      exfalso
      apply h0
      have e1 : m.take 2 ≠ [45, 62] := by
        cases m with
        | nil => exact absurd rfl h
        | cons c m => intro e; simp at e; have := e.1; subst this; simp [headI] at h2
      unfold firstL
      rw [h2, if_neg (by decide), if_neg (by decide), if_neg e1]
      rfl
    · omega

theorem runL_append (p : Int → Bool) (hp : ∀ c : UInt8, wordI c.toNat = false → p c.toNat = false) {r : List UInt8} (hr : sepH r) : ∀ m : List UInt8, runL p (m ++ r) = runL p m
  | [] => by
    cases r with
    | nil => rfl
    | cons c r => simp [runL, hp c hr.1]
  | b :: m => by
    simp only [runL, List.cons_append, List.takeWhile_cons]
    split
    · have := runL_append p hp hr m
      simp only [runL] at this
      rw [this]
    · rfl

theorem firstL_append {m : List UInt8} (h : m ≠ []) {r : List UInt8} (hr : sepH r) : firstL (m ++ r) = firstL m := by
  unfold firstL
  rw [headI_append h, runL_append wordI (fun _ h => h) hr, runL_append digitI (fun c h => by simp [wordI, digitI] at h ⊢; omega) hr]
  have : ((m ++ r).take 2 = [45, 62]) ↔ (m.take 2 = [45, 62]) := by
    cases m with
    | nil => exact absurd rfl h
    | cons a m =>
      cases m with
      | nil =>
        cases r with
        | nil => simp
        | cons c r =>
          have := hr.2
          simp [this]
      | cons b m => simp
  simp only [this]

theorem Lex.append {r : List UInt8} (hr : sepH r) {us : List Tok} : ∀ {off : Nat} {m : List UInt8} {ts : List Tok}, Lex off m ts → Lex (off + m.length) r us → Lex off (m ++ r) (ts ++ us) := by
  intro off m ts h
  induction h with
  | nil off => intro k; simpa using k
  | @gap off m ts h hg hr' ih =>
    intro k
    have hm : 0 < m.length := List.length_pos_iff.2 h
    have g1 := gapL_le m hm
    have e := gapL_append h hg r
    have hd : (m ++ r).drop (gapL m).toNat = m.drop (gapL m).toNat ++ r := List.drop_append_of_le_length (by omega)
    refine .gap (by simp [h]) (by omega) ?_
    rw [e, hd]
    refine ih ?_
    rw [List.length_drop, show off + (gapL m).toNat + (m.length - (gapL m).toNat) = off + m.length from by omega]
    exact k
  | @tok off m ts h hg h0 hr' ih =>
    intro k
    have hm : 0 < m.length := List.length_pos_iff.2 h
    have f1 := firstL_le m hm
    have e := firstL_append h hr
    have hd : (m ++ r).drop (firstL m).2.toNat = m.drop (firstL m).2.toNat ++ r := List.drop_append_of_le_length (by omega)
    rw [List.cons_append]
    have := Lex.tok (off := off) (m := m ++ r) (ts := ts ++ us) (by simp [h]) (gapL_append0 h hg h0 r) (by rw [e]; exact h0) (by
      rw [e, hd]
      refine ih ?_
      rw [List.length_drop, show off + (firstL m).2.toNat + (m.length - (firstL m).2.toNat) = off + m.length from by omega]
      exact k)
    rw [e] at this
    exact this

def Tok.shift (d : Nat) (t : Tok) : Tok := ⟨t.sort, t.fr + d, t.to + d⟩

theorem Lex.shift (d : Nat) : ∀ {off : Nat} {m : List UInt8} {ts : List Tok}, Lex off m ts → Lex (off + d) m (ts.map (Tok.shift d)) := by
  intro off m ts h
  induction h with
  | nil off => exact .nil _
  | @gap off m ts h hg hr ih => exact .gap h hg (by rw [show off + d + (gapL m).toNat = off + (gapL m).toNat + d from by omega]; exact ih)
  | @tok off m ts h hg h0 hr ih =>
    have := Lex.tok (off := off + d) h hg h0 (by rw [show off + d + (firstL m).2.toNat = off + (firstL m).2.toNat + d from by omega]; exact ih)
    simpa [Tok.shift, show off + d + (firstL m).2.toNat = off + (firstL m).2.toNat + d from by omega] using this

theorem LexE.shift (d : Nat) : ∀ {off : Nat} {m : List UInt8} {e : Nat}, LexE off m e → LexE (off + d) m (e + d) := by
  intro off m e h
  induction h with
  | here h hg h0 => exact .here h hg h0
  | @gap off m ts h hg hr ih => exact .gap h hg (by rw [show off + d + (gapL m).toNat = off + (gapL m).toNat + d from by omega]; exact ih)
  | @tok off m ts h hg h0 hr ih => exact .tok h hg h0 (by rw [show off + d + (firstL m).2.toNat = off + (firstL m).2.toNat + d from by omega]; exact ih)

theorem Lex.number {d : List UInt8} (off : Nat) (h0 : d ≠ []) (hd : ∀ c ∈ d, digitI c.toNat = true) (hl : d.length ≤ 9) : Lex off d [⟨2, off, off + d.length⟩] := by
  have hrun : runL digitI d = d := by
    clear h0 hl
    induction d with
    | nil => rfl
    | cons c d ih => simp [runL, hd c (by simp)]; exact ih (fun x hx => hd x (by simp [hx]))
  obtain ⟨c, d', rfl⟩ : ∃ c d', d = c :: d' := by cases d with
    | nil => exact absurd rfl h0
    | cons c d' => exact ⟨c, d', rfl⟩
  have hc := hd c (by simp)
  have hh : headI (c :: d') = c.toNat := rfl
  have hc' : 48 ≤ (c.toNat : Int) ∧ (c.toNat : Int) ≤ 57 := by simpa [digitI] using hc
  have e1 : firstL (c :: d') = (2, ((c :: d').length : Int)) := by
    unfold firstL
    rw [hh, if_neg (by simp [smallI]; omega), if_pos hc, hrun]
    unfold numberL
    rw [if_neg (by omega)]
  have hg : ¬ 0 < gapL (c :: d') := by
    unfold gapL
    rw [hh, if_neg (by omega), if_neg (by omega)]
    omega
  have := Lex.tok (off := off) (ts := []) h0 hg (by rw [e1]; simp; omega) (by rw [e1]; simpa using Lex.nil _)
  rw [e1] at this
  simpa using this

end Go.Proofs.YtckhafpejefbbaaGreatDoor.Tw

/- The parser's twin: once stuck, always stuck; the depth is as it was. -/
namespace Go.Proofs.YtckhafpejefbbaaGreatDoor.Tw
open Go

theorem failS_stuck {ts : List Tok} {st st' : PS} (h : failS ts st = some st') : st'.stuck = true ∧ st'.depth = st.depth := by
  unfold failS at h
  split at h
  · rename_i hs
    cases h
    exact ⟨hs, rfl⟩
  · obtain ⟨t, _, h⟩ := Option.bind_eq_some_iff.1 h
    cases h
    exact ⟨rfl, rfl⟩

def Mild (st st' : PS) : Prop := (st'.stuck = false → st.stuck = false) ∧ st'.depth = st.depth
theorem Mild.refl (st : PS) : Mild st st := ⟨id, rfl⟩
theorem Mild.trans {a b c : PS} (h : Mild a b) (k : Mild b c) : Mild a c := ⟨fun x => h.1 (k.1 x), k.2.trans h.2⟩

theorem failS_mild {ts : List Tok} {st st' : PS} (h : failS ts st = some st') : Mild st st' := ⟨fun x => (by rw [(failS_stuck h).1] at x; cases x), (failS_stuck h).2⟩

theorem takeS_mild {ts : List Tok} {s : Int} {st st' : PS} {t : Tok} (h : takeS ts s st = some (t, st')) : Mild st st' := by
  unfold takeS at h
  obtain ⟨t0, _, h⟩ := Option.bind_eq_some_iff.1 h
  split at h
  · split at h
    · cases h; exact .refl _
    · split at h
      · cases h; exact ⟨fun x => x, rfl⟩
      · cases h
  · obtain ⟨s1, h1, h⟩ := Option.bind_eq_some_iff.1 h
    cases h
    exact failS_mild h1

theorem takeAnyS_mild {ts : List Tok} : ∀ {l : List Int} {st st' : PS} {k : Int}, takeAnyS ts l st = some (k, st') → Mild st st'
  | [], st, st', k, h => by cases h; exact .refl _
  | s :: l, st, st', k, h => by
    rw [takeAnyS] at h
    obtain ⟨t0, _, h⟩ := Option.bind_eq_some_iff.1 h
    split at h
    · obtain ⟨⟨t1, s1⟩, h1, h⟩ := Option.bind_eq_some_iff.1 h
      cases h
      exact takeS_mild h1
    · exact takeAnyS_mild h

theorem beginS_mild {ts : List Tok} {s : Int} {st st' : PS} {k : Nat} (h : beginS ts s st = some (k, st')) : (st'.stuck = false → st.stuck = false) ∧ st'.depth = st.depth + 1 := by
  unfold beginS at h
  obtain ⟨s1, h1, h⟩ := Option.bind_eq_some_iff.1 h
  have m1 : Mild st s1 := by
    split at h1
    · exact failS_mild h1
    · cases h1; exact .refl _
  split at h
  · obtain ⟨⟨t1, s2⟩, h2, h⟩ := Option.bind_eq_some_iff.1 h
    cases h
    have m2 := takeS_mild h2
    exact ⟨fun x => m1.1 (m2.1 x), by rw [m2.2]; simp [m1.2]⟩
  · cases h

theorem endS_mild {st st' : PS} (h : endS st = some st') : st'.stuck = st.stuck ∧ st.depth = st'.depth + 1 := by
  unfold endS at h
  split at h
  · cases h
  · cases h
    exact ⟨rfl, by simp; omega⟩

theorem binderS_mild {l : List UInt8} {ts : List Tok} {st st' : PS} {b : List UInt8 × Nat} (h : binderS l ts st = some (b, st')) : Mild st st' := by
  unfold binderS at h
  obtain ⟨⟨t1, s1⟩, h1, h⟩ := Option.bind_eq_some_iff.1 h
  split at h
  · cases h; exact takeS_mild h1
  · cases h

theorem Mild.block {a b c d : PS} (h1 : (b.stuck = false → a.stuck = false) ∧ b.depth = a.depth + 1) (h2 : Mild b c) (h3 : d.stuck = c.stuck ∧ c.depth = d.depth + 1) : Mild a d := by
  refine ⟨fun x => h1.1 (h2.1 (by rw [← h3.1]; exact x)), ?_⟩
  have := h1.2
  have := h2.2
  have := h3.2
  omega

section
variable (l : List UInt8) (ts : List Tok)

structure MAll (n : Nat) : Prop where
  expr : ∀ {st st' t}, exprS l ts n st = some (t, st') → Mild st st'
  lett : ∀ {st st' t}, letS l ts n st = some (t, st') → Mild st st'
  fn : ∀ {st st' t}, funS l ts n st = some (t, st') → Mild st st'
  cond : ∀ {st st' t}, condS l ts n st = some (t, st') → Mild st st'
  cmp : ∀ {st st' t}, cmpS l ts n st = some (t, st') → Mild st st'
  sum : ∀ {st st' t}, sumS l ts n st = some (t, st') → Mild st st'
  term : ∀ {st st' t}, termS l ts n st = some (t, st') → Mild st st'
  part : ∀ {p st st' t}, partS l ts n p st = some (t, st') → Mild st st'
  chain : ∀ {p g st st' t}, chainS l ts n p g st = some (t, st') → Mild st st'
  chainFrom : ∀ {p g a st st' t}, chainFromS l ts n p g a st = some (t, st') → Mild st st'
  call : ∀ {st st' t}, callS l ts n st = some (t, st') → Mild st st'
  callFrom : ∀ {a st st' t}, callFromS l ts n a st = some (t, st') → Mild st st'
  atom : ∀ {st st' t}, atomS l ts n st = some (t, st') → Mild st st'
  bracket : ∀ {st st' t}, bracketS l ts n st = some (t, st') → Mild st st'

theorem mild_all : ∀ n, MAll l ts n
  | 0 => by constructor <;> (intros; rename_i h; simp [exprS, letS, funS, condS, cmpS, sumS, termS, partS, chainS, chainFromS, callS, callFromS, atomS, bracketS] at h)
  | n + 1 => by
    have ih := mild_all n
    constructor
    · intro st st' t h
      rw [exprS] at h
      obtain ⟨k, _, h⟩ := Option.bind_eq_some_iff.1 h
      split at h
      · exact ih.lett h
      · split at h
        · exact ih.fn h
        · split at h
          · exact ih.cond h
          · exact ih.cmp h
    · intro st st' t h
      simp only [letS, Option.bind_eq_some_iff, Option.some.injEq, Prod.mk.injEq, Prod.exists] at h
      obtain ⟨_, _, h1, _, _, h2, _, _, _, h3, _, _, h4, _, _, h5, _, _, h6, _, _, h7, _, h8, _, rfl⟩ := h
      exact Mild.block (beginS_mild h1) (((((takeAnyS_mild h2).trans (binderS_mild h3)).trans (takeS_mild h4)).trans (ih.expr h5)).trans ((takeS_mild h6).trans (ih.expr h7))) (endS_mild h8)
    · intro st st' t h
      simp only [funS, Option.bind_eq_some_iff, Option.some.injEq, Prod.mk.injEq, Prod.exists] at h
      obtain ⟨_, _, h1, _, _, _, h2, _, _, h3, _, _, h4, _, h5, _, rfl⟩ := h
      exact Mild.block (beginS_mild h1) (((binderS_mild h2).trans (takeS_mild h3)).trans (ih.expr h4)) (endS_mild h5)
    · intro st st' t h
      simp only [condS, Option.bind_eq_some_iff, Option.some.injEq, Prod.mk.injEq, Prod.exists] at h
      obtain ⟨_, _, h1, _, _, h2, _, _, h3, _, _, h4, _, _, h5, _, _, h6, _, h7, _, rfl⟩ := h
      exact Mild.block (beginS_mild h1) ((((ih.expr h2).trans (takeS_mild h3)).trans (ih.expr h4)).trans ((takeS_mild h5).trans (ih.expr h6))) (endS_mild h7)
    · intro st st' t h
      simp only [cmpS, Option.bind_eq_some_iff, Prod.exists] at h
      obtain ⟨_, _, h1, _, _, h2, h⟩ := h
      split at h
      · cases h
        exact (ih.sum h1).trans (takeAnyS_mild h2)
      · simp only [Option.bind_eq_some_iff, Option.some.injEq, Prod.mk.injEq, Prod.exists] at h
        obtain ⟨_, _, h3, _, rfl⟩ := h
        exact ((ih.sum h1).trans (takeAnyS_mild h2)).trans (ih.sum h3)
    · intro st st' t h
      rw [sumS] at h
      exact ih.chain h
    · intro st st' t h
      rw [termS] at h
      exact ih.chain h
    · intro p st st' t h
      cases p with
      | term => rw [partS] at h; exact ih.term h
      | call => rw [partS] at h; exact ih.call h
    · intro p g st st' t h
      simp only [chainS, Option.bind_eq_some_iff, Prod.exists] at h
      obtain ⟨_, _, h1, h2⟩ := h
      exact (ih.part h1).trans (ih.chainFrom h2)
    · intro p g a st st' t h
      simp only [chainFromS, Option.bind_eq_some_iff, Prod.exists] at h
      obtain ⟨_, _, h1, h⟩ := h
      split at h
      · cases h
        exact takeAnyS_mild h1
      · simp only [Option.bind_eq_some_iff, Prod.exists] at h
        obtain ⟨_, _, h2, h3⟩ := h
        exact ((takeAnyS_mild h1).trans (ih.part h2)).trans (ih.chainFrom h3)
    · intro st st' t h
      simp only [callS, Option.bind_eq_some_iff, Prod.exists] at h
      obtain ⟨_, _, h1, h2⟩ := h
      exact (ih.atom h1).trans (ih.callFrom h2)
    · intro a st st' t h
      simp only [callFromS, Option.bind_eq_some_iff] at h
      obtain ⟨_, h1, h⟩ := h
      split at h
      · simp only [Option.bind_eq_some_iff, Prod.exists] at h
        obtain ⟨_, _, h2, h3⟩ := h
        exact (ih.atom h2).trans (ih.callFrom h3)
      · cases h
        exact .refl _
    · intro st st' t h
      simp only [atomS, Option.bind_eq_some_iff] at h
      obtain ⟨k, h1, h⟩ := h
      split at h
      · exact ih.bracket h
      · split at h
        · simp only [Option.bind_eq_some_iff, Option.some.injEq, Prod.mk.injEq, Prod.exists] at h
          obtain ⟨_, _, h2, _, _, _, rfl⟩ := h
          exact takeS_mild h2
        · simp only [Option.bind_eq_some_iff, Option.some.injEq, Prod.mk.injEq] at h
          obtain ⟨_, h2, _, rfl⟩ := h
          exact failS_mild h2
    · intro st st' t h
      simp only [bracketS, Option.bind_eq_some_iff, Prod.exists] at h
      obtain ⟨_, _, h1, _, _, h2, _, _, h3, h⟩ := h
      split at h
      · simp only [Option.bind_eq_some_iff, Option.some.injEq, Prod.mk.injEq, Prod.exists] at h
        obtain ⟨_, _, h4, _, _, h5, _, h6, _, rfl⟩ := h
        exact Mild.block (beginS_mild h1) ((((ih.expr h2).trans (takeAnyS_mild h3)).trans (ih.expr h4)).trans (takeS_mild h5)) (endS_mild h6)
      · simp only [Option.bind_eq_some_iff, Option.some.injEq, Prod.mk.injEq, Prod.exists] at h
        obtain ⟨_, _, h5, _, h6, _, rfl⟩ := h
        exact Mild.block (beginS_mild h1) (((ih.expr h2).trans (takeAnyS_mild h3)).trans (takeS_mild h5)) (endS_mild h6)

end
end Go.Proofs.YtckhafpejefbbaaGreatDoor.Tw

/- The parser's twin answers, of whatever tokens. -/
namespace Go.Proofs.YtckhafpejefbbaaGreatDoor.Tw
open Go

structure GoodToks (l : List UInt8) (ts : List Tok) : Prop where
  few : ts.length ≤ 301
  pos : 0 < ts.length
  last : ∃ e, ts[ts.length - 1]? = some e ∧ e.sort = 0
  ahead : ∀ (i : Nat) (t : Tok), i + 1 < ts.length → ts[i]? = some t → t.sort ≠ 0
  place : ∀ (i : Nat) (t : Tok), ts[i]? = some t → t.fr ≤ t.to ∧ t.to ≤ l.length
  value : ∀ (i : Nat) (t : Tok), ts[i]? = some t → t.sort = 2 → ∃ v, valueS (piece l t.fr t.to) = some v

def PS.rem (ts : List Tok) (st : PS) : Nat := if st.stuck then 0 else ts.length - st.next

structure PS.ok (ts : List Tok) (st : PS) : Prop where
  deep : st.depth ≤ 41
  live : st.stuck = false → st.depth ≤ 40 ∧ st.next < ts.length

variable {l : List UInt8} {ts : List Tok} (G : GoodToks l ts)
include G
set_option linter.unusedSectionVars false

theorem ok_tok {st : PS} (h : st.ok ts) : ∃ t, tokS ts st = some t ∧ (st.stuck = true → t.sort = 0) ∧ (st.stuck = false → ts[st.next]? = some t) ∧ (t.sort ≠ 0 → st.stuck = false ∧ st.next + 1 < ts.length) ∧ t.fr ≤ t.to ∧ t.to ≤ l.length ∧ (t.sort = 2 → ∃ v, valueS (piece l t.fr t.to) = some v) := by
  obtain ⟨e, he, h0⟩ := G.last
  unfold tokS
  cases hs : st.stuck with
  | true =>
    refine ⟨e, by simpa using he, fun _ => h0, fun h => by simp at h, fun h => absurd h0 h, (G.place _ _ he).1, (G.place _ _ he).2, fun h => by omega⟩
  | false =>
    have hn := (h.live hs).2
    have ht : ts[st.next]? = some ts[st.next] := List.getElem?_eq_getElem hn
    refine ⟨ts[st.next], by simp, fun h => by simp at h, fun _ => ht, fun h2 => ⟨rfl, ?_⟩, (G.place _ _ ht).1, (G.place _ _ ht).2, fun h2 => G.value _ _ ht h2⟩
    rcases Nat.lt_or_ge (st.next + 1) ts.length with h3 | h3
    · exact h3
    · have : st.next = ts.length - 1 := by omega
      have e2 : ts[st.next]? = some e := by rw [this]; exact he
      rw [ht] at e2
      exact absurd (by rw [Option.some.inj e2]; exact h0) h2

theorem rem_stuck {st : PS} (h : st.stuck = true) : st.rem ts = 0 := by simp [PS.rem, h]

theorem rem_live {st : PS} (h : st.ok ts) (hs : st.stuck = false) : 0 < st.rem ts := by
  have := (h.live hs).2
  simp [PS.rem, hs]
  omega

theorem fail_tot {st : PS} (h : st.ok ts) : ∃ st', failS ts st = some st' ∧ st'.ok ts ∧ st'.stuck = true ∧ st'.depth = st.depth := by
  obtain ⟨t, ht, _⟩ := ok_tok G h
  unfold failS
  cases hs : st.stuck with
  | true => exact ⟨st, by simp, h, hs, rfl⟩
  | false =>
    rw [ht]
    exact ⟨{ st with stuck := true, fault := t.fr }, by simp, ⟨h.deep, fun h' => by simp at h'⟩, rfl, rfl⟩

theorem take_tot {st : PS} (h : st.ok ts) (s : Int) (h0 : s ≠ 0) : ∃ t st', takeS ts s st = some (t, st') ∧ st'.ok ts ∧ st'.rem ts ≤ st.rem ts ∧ (st.stuck = false → st'.rem ts < st.rem ts) ∧ st'.depth = st.depth ∧ t.fr ≤ t.to ∧ t.to ≤ l.length := by
  obtain ⟨t, ht, h1, h2, h3, h4, h5, _⟩ := ok_tok G h
  obtain ⟨sf, hf, hf1, hf2, hf3⟩ := fail_tot G h
  unfold takeS
  rw [ht]
  simp only [Option.bind_some]
  by_cases hts : t.sort = s
  · rw [if_pos hts, if_neg h0]
    obtain ⟨hs, hn⟩ := h3 (by rw [hts]; exact h0)
    have hl := h.live hs
    rw [if_pos (by have := G.few; omega)]
    refine ⟨t, _, rfl, ⟨h.deep, fun _ => ⟨hl.1, hn⟩⟩, ?_, fun _ => ?_, rfl, h4, h5⟩
    · simp [PS.rem, hs]; omega
    · simp [PS.rem, hs]; omega
  · rw [if_neg hts, hf]
    refine ⟨t, sf, rfl, hf1, by rw [rem_stuck G hf2]; omega, fun hs => ?_, hf3, h4, h5⟩
    rw [rem_stuck G hf2]
    exact rem_live G h hs

theorem any_tot {st : PS} (h : st.ok ts) : ∀ (g : List Int), (∀ x ∈ g, x ≠ 0) → ∃ k st', takeAnyS ts g st = some (k, st') ∧ st'.ok ts ∧ st'.rem ts ≤ st.rem ts ∧ (k ≠ 0 → st'.rem ts < st.rem ts) ∧ st'.depth = st.depth
  | [], _ => ⟨0, st, rfl, h, Nat.le_refl _, fun h => absurd rfl h, rfl⟩
  | s :: g, hg => by
    obtain ⟨t, ht, h1, h2, h3, h4, h5, _⟩ := ok_tok G h
    rw [takeAnyS, ht]
    simp only [Option.bind_some]
    by_cases hts : t.sort = s
    · rw [if_pos hts]
      have hs0 := hg s (by simp)
      obtain ⟨hs, hn⟩ := h3 (by rw [hts]; exact hs0)
      obtain ⟨t', st', h6, h7, h8, h9, h10, _⟩ := take_tot G h s hs0
      rw [h6]
      exact ⟨_, st', rfl, h7, h8, fun _ => h9 hs, h10⟩
    · rw [if_neg hts]
      exact any_tot h g (fun x hx => hg x (by simp [hx]))

theorem begin_tot {st : PS} (h : st.ok ts) (hs : st.stuck = false) (s : Int) (h0 : s ≠ 0) : ∃ k st', beginS ts s st = some (k, st') ∧ st'.ok ts ∧ st'.rem ts < st.rem ts ∧ st'.depth = st.depth + 1 := by
  obtain ⟨sf, hf, hf1, hf2, hf3⟩ := fail_tot G h
  have hl := h.live hs
  have hr := rem_live G h hs
  unfold beginS
  by_cases hd : st.depth = 40
  · rw [if_pos hd, hf]
    simp only [Option.bind_some]
    rw [if_pos (by omega)]
    have ok2 : PS.ok ts { sf with depth := sf.depth + 1 } := ⟨by simp; omega, fun h' => by simp [hf2] at h'⟩
    obtain ⟨t', st', h6, h7, h8, h9, h10, _⟩ := take_tot G ok2 s h0
    rw [h6]
    refine ⟨_, st', rfl, h7, ?_, by rw [h10]; simp; omega⟩
    have : PS.rem ts { sf with depth := sf.depth + 1 } = 0 := by simp [PS.rem, hf2]
    omega
  · rw [if_neg hd]
    simp only [Option.bind_some]
    rw [if_pos (by omega)]
    have ok2 : PS.ok ts { st with depth := st.depth + 1 } := ⟨by simp; omega, fun _ => ⟨by simp; omega, hl.2⟩⟩
    obtain ⟨t', st', h6, h7, h8, h9, h10, _⟩ := take_tot G ok2 s h0
    rw [h6]
    have : PS.rem ts { st with depth := st.depth + 1 } = st.rem ts := by simp [PS.rem]
    have := h9 hs
    exact ⟨_, st', rfl, h7, by omega, by rw [h10]⟩

theorem end_tot {st : PS} (h : st.ok ts) (hd : 0 < st.depth) : ∃ st', endS st = some st' ∧ st'.ok ts ∧ st'.rem ts = st.rem ts := by
  unfold endS
  rw [if_neg (by omega)]
  exact ⟨_, rfl, ⟨by have := h.deep; simp; omega, fun h' => by have := h.live h'; simp; omega⟩, rfl⟩

theorem binder_tot {st : PS} (h : st.ok ts) : ∃ b st', binderS l ts st = some (b, st') ∧ st'.ok ts ∧ st'.rem ts ≤ st.rem ts ∧ st'.depth = st.depth := by
  obtain ⟨t, st', h1, h2, h3, _, h5, h6, h7⟩ := take_tot G h 1 (by omega)
  unfold binderS
  rw [h1]
  simp only [Option.bind_some]
  rw [if_pos ⟨h6, h7⟩]
  exact ⟨_, st', rfl, h2, h3, h5⟩

theorem leaf_tot {t : Tok} (h4 : t.fr ≤ t.to) (h5 : t.to ≤ l.length) (h6 : t.sort = 2 → ∃ v, valueS (piece l t.fr t.to) = some v) : ∃ x, leafS l t = some x := by
  unfold leafS
  split
  · rename_i h2
    obtain ⟨v, hv⟩ := h6 h2
    rw [if_pos ⟨h4, h5⟩, hv]
    exact ⟨_, rfl⟩
  · split
    · exact ⟨_, rfl⟩
    · split
      · exact ⟨_, rfl⟩
      · rw [if_pos ⟨h4, h5⟩]; exact ⟨_, rfl⟩

omit G in
def Part.c : Part → Nat
  | .term => 8
  | .call => 5
omit G in
theorem Part.c_pos (p : Part) : 5 ≤ p.c ∧ p.c ≤ 8 := by cases p <;> simp [Part.c]

omit G in
structure TAll (l : List UInt8) (ts : List Tok) (n : Nat) : Prop where
  expr : ∀ {st}, st.ok ts → 20 * st.rem ts + 12 ≤ n → ∃ x st', exprS l ts n st = some (x, st') ∧ st'.ok ts ∧ st'.rem ts ≤ st.rem ts
  lett : ∀ {st}, st.ok ts → st.stuck = false → 20 * st.rem ts + 1 ≤ n → ∃ x st', letS l ts n st = some (x, st') ∧ st'.ok ts ∧ st'.rem ts ≤ st.rem ts
  fn : ∀ {st}, st.ok ts → st.stuck = false → 20 * st.rem ts + 1 ≤ n → ∃ x st', funS l ts n st = some (x, st') ∧ st'.ok ts ∧ st'.rem ts ≤ st.rem ts
  cond : ∀ {st}, st.ok ts → st.stuck = false → 20 * st.rem ts + 1 ≤ n → ∃ x st', condS l ts n st = some (x, st') ∧ st'.ok ts ∧ st'.rem ts ≤ st.rem ts
  cmp : ∀ {st}, st.ok ts → 20 * st.rem ts + 11 ≤ n → ∃ x st', cmpS l ts n st = some (x, st') ∧ st'.ok ts ∧ st'.rem ts ≤ st.rem ts
  sum : ∀ {st}, st.ok ts → 20 * st.rem ts + 10 ≤ n → ∃ x st', sumS l ts n st = some (x, st') ∧ st'.ok ts ∧ st'.rem ts ≤ st.rem ts
  term : ∀ {st}, st.ok ts → 20 * st.rem ts + 7 ≤ n → ∃ x st', termS l ts n st = some (x, st') ∧ st'.ok ts ∧ st'.rem ts ≤ st.rem ts
  part : ∀ {p st}, st.ok ts → 20 * st.rem ts + p.c ≤ n → ∃ x st', partS l ts n p st = some (x, st') ∧ st'.ok ts ∧ st'.rem ts ≤ st.rem ts
  chain : ∀ {p g st}, (∀ x ∈ g, x ≠ 0) → st.ok ts → 20 * st.rem ts + (p.c + 1) ≤ n → ∃ x st', chainS l ts n p g st = some (x, st') ∧ st'.ok ts ∧ st'.rem ts ≤ st.rem ts
  chainFrom : ∀ {p g a st}, (∀ x ∈ g, x ≠ 0) → st.ok ts → 20 * st.rem ts + 1 ≤ n → ∃ x st', chainFromS l ts n p g a st = some (x, st') ∧ st'.ok ts ∧ st'.rem ts ≤ st.rem ts
  call : ∀ {st}, st.ok ts → 20 * st.rem ts + 4 ≤ n → ∃ x st', callS l ts n st = some (x, st') ∧ st'.ok ts ∧ st'.rem ts ≤ st.rem ts
  callFrom : ∀ {a st}, st.ok ts → 20 * st.rem ts + 3 ≤ n → ∃ x st', callFromS l ts n a st = some (x, st') ∧ st'.ok ts ∧ st'.rem ts ≤ st.rem ts
  atom : ∀ {st}, st.ok ts → 20 * st.rem ts + 2 ≤ n → ∃ x st', atomS l ts n st = some (x, st') ∧ st'.ok ts ∧ st'.rem ts ≤ st.rem ts ∧ (st.stuck = false → st'.rem ts < st.rem ts)
  bracket : ∀ {st}, st.ok ts → st.stuck = false → 20 * st.rem ts + 1 ≤ n → ∃ x st', bracketS l ts n st = some (x, st') ∧ st'.ok ts ∧ st'.rem ts < st.rem ts

theorem tot_all : ∀ n, TAll l ts n
  | 0 => by constructor <;> intros <;> first | omega | (rename_i p _ _ hn; have := p.c_pos; omega)
  | n + 1 => by
    have ih := tot_all n
    have hM := mild_all l ts n
    constructor
    · intro st h hn
      obtain ⟨t, ht, h1, h2, h3, _⟩ := ok_tok G h
      rw [exprS, ht]
      simp only [Option.bind_some]
      split
      · rename_i hs; exact ih.lett h (h3 (by omega)).1 (by omega)
      · split
        · rename_i hs; exact ih.fn h (h3 (by omega)).1 (by omega)
        · split
          · rename_i hs; exact ih.cond h (h3 (by omega)).1 (by omega)
          · exact ih.cmp h (by omega)
    · intro st h hs hn
      obtain ⟨k, s1, e1, o1, r1, d1⟩ := begin_tot G h hs 3 (by omega)
      obtain ⟨rc, s2, e2, o2, r2, _, d2⟩ := any_tot G o1 [4] (by simp)
      obtain ⟨bd, s3, e3, o3, r3, d3⟩ := binder_tot G o2
      obtain ⟨t4, s4, e4, o4, r4, _, d4, _⟩ := take_tot G o3 15 (by omega)
      obtain ⟨x5, s5, e5, o5, r5⟩ := ih.expr o4 (by omega)
      have d5 := (hM.expr e5).2
      obtain ⟨t6, s6, e6, o6, r6, _, d6, _⟩ := take_tot G o5 5 (by omega)
      obtain ⟨x7, s7, e7, o7, r7⟩ := ih.expr o6 (by omega)
      have d7 := (hM.expr e7).2
      obtain ⟨s8, e8, o8, r8⟩ := end_tot G o7 (by omega)
      rw [letS, e1]; simp only [Option.bind_some]; rw [e2]; simp only [Option.bind_some]; rw [e3]; simp only [Option.bind_some]; rw [e4]; simp only [Option.bind_some]; rw [e5]; simp only [Option.bind_some]; rw [e6]; simp only [Option.bind_some]; rw [e7]; simp only [Option.bind_some]; rw [e8]
      exact ⟨_, s8, rfl, o8, by omega⟩
    · intro st h hs hn
      obtain ⟨k, s1, e1, o1, r1, d1⟩ := begin_tot G h hs 6 (by omega)
      obtain ⟨bd, s3, e3, o3, r3, d3⟩ := binder_tot G o1
      obtain ⟨t4, s4, e4, o4, r4, _, d4, _⟩ := take_tot G o3 14 (by omega)
      obtain ⟨x5, s5, e5, o5, r5⟩ := ih.expr o4 (by omega)
      have d5 := (hM.expr e5).2
      obtain ⟨s8, e8, o8, r8⟩ := end_tot G o5 (by omega)
      rw [funS, e1]; simp only [Option.bind_some]; rw [e3]; simp only [Option.bind_some]; rw [e4]; simp only [Option.bind_some]; rw [e5]; simp only [Option.bind_some]; rw [e8]
      exact ⟨_, s8, rfl, o8, by omega⟩
    · intro st h hs hn
      obtain ⟨k, s1, e1, o1, r1, d1⟩ := begin_tot G h hs 7 (by omega)
      obtain ⟨x2, s2, e2, o2, r2⟩ := ih.expr o1 (by omega)
      have d2 := (hM.expr e2).2
      obtain ⟨t3, s3, e3, o3, r3, _, d3, _⟩ := take_tot G o2 8 (by omega)
      obtain ⟨x4, s4, e4, o4, r4⟩ := ih.expr o3 (by omega)
      have d4 := (hM.expr e4).2
      obtain ⟨t5, s5, e5, o5, r5, _, d5, _⟩ := take_tot G o4 9 (by omega)
      obtain ⟨x6, s6, e6, o6, r6⟩ := ih.expr o5 (by omega)
      have d6 := (hM.expr e6).2
      obtain ⟨s8, e8, o8, r8⟩ := end_tot G o6 (by omega)
      rw [condS, e1]; simp only [Option.bind_some]; rw [e2]; simp only [Option.bind_some]; rw [e3]; simp only [Option.bind_some]; rw [e4]; simp only [Option.bind_some]; rw [e5]; simp only [Option.bind_some]; rw [e6]; simp only [Option.bind_some]; rw [e8]
      exact ⟨_, s8, rfl, o8, by omega⟩
    · intro st h hn
      obtain ⟨x1, s1, e1, o1, r1⟩ := ih.sum h (by omega)
      obtain ⟨k, s2, e2, o2, r2, r2', _⟩ := any_tot G o1 [23, 15] (by simp)
      rw [cmpS, e1]; simp only [Option.bind_some]; rw [e2]; simp only [Option.bind_some]
      split
      · exact ⟨_, s2, rfl, o2, by omega⟩
      · rename_i hk
        have := r2' hk
        obtain ⟨x3, s3, e3, o3, r3⟩ := ih.sum o2 (by omega)
        rw [e3]
        exact ⟨_, s3, rfl, o3, by omega⟩
    · intro st h hn
      rw [sumS]
      exact ih.chain (p := .term) (by simp) h (by simp [Part.c]; omega)
    · intro st h hn
      rw [termS]
      exact ih.chain (p := .call) (by simp) h (by simp [Part.c]; omega)
    · intro p st h hn
      cases p with
      | term => rw [partS]; exact ih.term h (by simp [Part.c] at hn; omega)
      | call => rw [partS]; exact ih.call h (by simp [Part.c] at hn; omega)
    · intro p g st hg h hn
      obtain ⟨x1, s1, e1, o1, r1⟩ := ih.part (p := p) h (by omega)
      obtain ⟨x2, s2, e2, o2, r2⟩ := ih.chainFrom (p := p) (a := x1) hg o1 (by have := p.c_pos; omega)
      rw [chainS, e1]; simp only [Option.bind_some]; rw [e2]
      exact ⟨_, s2, rfl, o2, by omega⟩
    · intro p g a st hg h hn
      obtain ⟨k, s1, e1, o1, r1, r1', _⟩ := any_tot G h g hg
      rw [chainFromS, e1]; simp only [Option.bind_some]
      split
      · exact ⟨_, s1, rfl, o1, r1⟩
      · rename_i hk
        have := r1' hk
        obtain ⟨x2, s2, e2, o2, r2⟩ := ih.part (p := p) o1 (by have := p.c_pos; omega)
        rw [e2]; simp only [Option.bind_some]
        obtain ⟨x3, s3, e3, o3, r3⟩ := ih.chainFrom (p := p) (a := .binary a.fr x2.to k a x2) hg o2 (by omega)
        rw [e3]
        exact ⟨_, s3, rfl, o3, by omega⟩
    · intro st h hn
      obtain ⟨x1, s1, e1, o1, r1, _⟩ := ih.atom h (by omega)
      obtain ⟨x2, s2, e2, o2, r2⟩ := ih.callFrom (a := x1) o1 (by omega)
      rw [callS, e1]; simp only [Option.bind_some]; rw [e2]
      exact ⟨_, s2, rfl, o2, by omega⟩
    · intro a st h hn
      obtain ⟨t, ht, h1, h2, h3, _⟩ := ok_tok G h
      rw [callFromS, ht]; simp only [Option.bind_some]
      split
      · rename_i hb
        have h0 : t.sort ≠ 0 := by intro e; rw [e] at hb; simp [beginsAtom] at hb
        obtain ⟨x1, s1, e1, o1, r1, r1'⟩ := ih.atom h (by omega)
        have := r1' (h3 h0).1
        rw [e1]; simp only [Option.bind_some]
        obtain ⟨x2, s2, e2, o2, r2⟩ := ih.callFrom (a := .call a.fr x1.to a x1) o1 (by omega)
        rw [e2]
        exact ⟨_, s2, rfl, o2, by omega⟩
      · exact ⟨_, st, rfl, h, Nat.le_refl _⟩
    · intro st h hn
      obtain ⟨t, ht, h1, h2, h3, h4, h5, h6⟩ := ok_tok G h
      rw [atomS, ht]; simp only [Option.bind_some]
      split
      · rename_i hs
        obtain ⟨x1, s1, e1, o1, r1⟩ := ih.bracket h (h3 (by omega)).1 (by omega)
        exact ⟨x1, s1, e1, o1, by omega, fun _ => r1⟩
      · split
        · rename_i hb
          have h0 : t.sort ≠ 0 := by intro e; rw [e] at hb; simp [beginsAtom] at hb
          obtain ⟨t', s1, e1, o1, r1, r1', _⟩ := take_tot G h t.sort h0
          obtain ⟨x, hx⟩ := leaf_tot G h4 h5 h6
          rw [e1]; simp only [Option.bind_some]; rw [hx]
          exact ⟨_, s1, rfl, o1, r1, r1'⟩
        · obtain ⟨sf, hf, hf1, hf2, hf3⟩ := fail_tot G h
          rw [hf]
          exact ⟨_, sf, rfl, hf1, by rw [rem_stuck G hf2]; omega, fun hs => by rw [rem_stuck G hf2]; exact rem_live G h hs⟩
    · intro st h hs hn
      obtain ⟨k, s1, e1, o1, r1, d1⟩ := begin_tot G h hs 16 (by omega)
      obtain ⟨x2, s2, e2, o2, r2⟩ := ih.expr o1 (by omega)
      have d2 := (hM.expr e2).2
      obtain ⟨c, s3, e3, o3, r3, r3', d3⟩ := any_tot G o2 [18] (by simp)
      rw [bracketS, e1]; simp only [Option.bind_some]; rw [e2]; simp only [Option.bind_some]; rw [e3]; simp only [Option.bind_some]
      split
      · obtain ⟨x4, s4, e4, o4, r4⟩ := ih.expr o3 (by omega)
        have d4 := (hM.expr e4).2
        obtain ⟨t5, s5, e5, o5, r5, _, d5, _⟩ := take_tot G o4 17 (by omega)
        obtain ⟨s8, e8, o8, r8⟩ := end_tot G o5 (by omega)
        rw [e4]; simp only [Option.bind_some]; rw [e5]; simp only [Option.bind_some]; rw [e8]
        exact ⟨_, s8, rfl, o8, by omega⟩
      · obtain ⟨t5, s5, e5, o5, r5, _, d5, _⟩ := take_tot G o3 17 (by omega)
        obtain ⟨s8, e8, o8, r8⟩ := end_tot G o5 (by omega)
        rw [e5]; simp only [Option.bind_some]; rw [e8]
        exact ⟨_, s8, rfl, o8, by omega⟩

theorem parse_tot (n : Nat) (hn : 6100 ≤ n) : ∃ r, parseS l ts n = some r := by
  have o : PS.ok ts ⟨0, 0, false, 0⟩ := ⟨by simp, fun _ => ⟨by simp, G.pos⟩⟩
  have hr : PS.rem ts ⟨0, 0, false, 0⟩ ≤ 301 := by have := G.few; simp [PS.rem]; omega
  obtain ⟨x, st, h1, o1, _⟩ := (tot_all G n).expr o (by omega)
  obtain ⟨t, ht, _⟩ := ok_tok G o1
  obtain ⟨sf, hf, _⟩ := fail_tot G o1
  unfold parseS
  rw [h1]
  simp only [Option.bind_some]
  unfold takeS
  rw [ht]
  simp only [Option.bind_some, if_true]
  split
  · exact ⟨_, rfl⟩
  · rw [hf]; exact ⟨_, rfl⟩

end Go.Proofs.YtckhafpejefbbaaGreatDoor.Tw

/- What the tokens of a text are like; read's twin up to the types. -/
namespace Go.Proofs.YtckhafpejefbbaaGreatDoor.Tw
open Go

theorem parseUintM_ok : ∀ (d : List UInt8) (acc k : Nat), (∀ c ∈ d, digitI c.toNat = true) → acc < 10 ^ k → d.length + k ≤ 18 → ∃ u, Lib.parseUintM (2 ^ 64 - 1) acc d = .ok u ∧ u < 10 ^ (d.length + k)
  | [], acc, k, _, ha, _ => ⟨acc, rfl, by simpa using ha⟩
  | c :: r, acc, k, hd, ha, hl => by
    have hc := hd c (by simp)
    simp only [digitI, decide_eq_true_eq] at hc
    have hk : acc < 10 ^ 17 := Nat.lt_of_lt_of_le ha (Nat.pow_le_pow_right (by omega) (by simp at hl; omega))
    rw [Lib.parseUintM, if_pos (by omega), if_neg (by omega), if_neg (by omega)]
    obtain ⟨u, h1, h2⟩ := parseUintM_ok r (acc * 10 + (c.toNat - 48)) (k + 1) (fun x hx => hd x (by simp [hx])) (by rw [Nat.pow_succ]; omega) (by simp at hl; omega)
    exact ⟨u, h1, by rw [List.length_cons, show r.length + 1 + k = r.length + (k + 1) by omega]; exact h2⟩

theorem value_digits {d : List UInt8} (h0 : d ≠ []) (hd : ∀ c ∈ d, digitI c.toNat = true) (hl : d.length ≤ 9) : ∃ v, valueS d = some v := by
  cases d with
  | nil => exact absurd rfl h0
  | cons c r =>
    have hc := hd c (by simp)
    simp only [digitI, decide_eq_true_eq] at hc
    obtain ⟨u, h1, h2⟩ := parseUintM_ok (c :: r) 0 0 hd (by simp) (by omega)
    have hu : u < 10 ^ 9 := Nat.lt_of_lt_of_le h2 (Nat.pow_le_pow_right (by omega) (by simpa using hl))
    unfold valueS Lib.parseIntB
    simp only
    rw [if_neg (show ¬ (c.toNat = 43 ∨ c.toNat = 45) by omega), Lib.parseUintB, if_neg (by simp), h1]
    simp only
    rw [if_neg (by omega), if_neg (by omega)]
    exact ⟨_, rfl⟩

theorem runL_all (p : Int → Bool) (m : List UInt8) : ∀ c ∈ runL p m, p c.toNat = true := by
  intro c hc
  have := List.all_takeWhile (p := fun c : UInt8 => p c.toNat) (l := m)
  exact List.all_eq_true.1 this c hc

theorem runL_take (p : Int → Bool) : ∀ m : List UInt8, m.take (runL p m).length = runL p m
  | [] => rfl
  | c :: m => by
    unfold runL
    rw [List.takeWhile_cons]
    split
    · simp only [List.length_cons, List.take_succ_cons]
      have := runL_take p m
      unfold runL at this
      rw [this]
    · rfl

theorem wordSort_pos (l : List UInt8) : wordSortL l ≠ 0 ∧ wordSortL l ≠ 2 := by
  unfold wordSortL
  repeat' split
  all_goals simp

theorem signI_sort (c : Int) : (signI c).2 ≠ 0 → (signI c).1 ≠ 0 ∧ (signI c).1 ≠ 2 := by
  unfold signI
  repeat' split
  all_goals simp

theorem firstL_tok {m : List UInt8} (h0 : (firstL m).2 ≠ 0) : (firstL m).1 ≠ 0 ∧ ((firstL m).1 = 2 → m.take (firstL m).2.toNat ≠ [] ∧ (∀ c ∈ m.take (firstL m).2.toNat, digitI c.toNat = true) ∧ (m.take (firstL m).2.toNat).length ≤ 9) := by
  unfold firstL at h0 ⊢
  split at h0
  · rename_i h1
    simp only [h1, if_true]
    unfold wordL at h0 ⊢
    split at h0
    · simp at h0
    · rename_i h2
      rw [if_neg h2]
      exact ⟨(wordSort_pos _).1, fun h => absurd h (wordSort_pos _).2⟩
  · rename_i h1
    rw [if_neg h1]
    split at h0
    · rename_i h2
      simp only [h2, if_true]
      unfold numberL at h0 ⊢
      split at h0
      · simp at h0
      · rename_i h3
        rw [if_neg h3]
        refine ⟨by simp, fun _ => ?_⟩
        have e : m.take ((2 : Int), ((runL digitI m).length : Int)).2.toNat = runL digitI m := by
          show m.take (Int.toNat _) = _
          rw [Int.toNat_natCast, runL_take]
        rw [e]
        exact ⟨fun e => by rw [e] at h0; simp at h0, runL_all _ _, by omega⟩
    · rename_i h2
      rw [if_neg h2]
      split at h0
      · rename_i h3
        simp [h3]
      · rename_i h3
        rw [if_neg h3]
        have := signI_sort _ h0
        exact ⟨this.1, fun h => absurd h this.2⟩

structure TokOf (off : Nat) (m : List UInt8) (t : Tok) : Prop where
  sort : t.sort ≠ 0
  low : off ≤ t.fr
  lt : t.fr < t.to
  high : t.to ≤ off + m.length
  int : t.sort = 2 → piece m (t.fr - off) (t.to - off) ≠ [] ∧ (∀ c ∈ piece m (t.fr - off) (t.to - off), digitI c.toNat = true) ∧ (piece m (t.fr - off) (t.to - off)).length ≤ 9

theorem TokOf.later {off k : Nat} {m : List UInt8} {t : Tok} (hk : k ≤ m.length) (h : TokOf (off + k) (m.drop k) t) : TokOf off m t := by
  have h2 := h.low
  have h3 := h.lt
  have h4 := h.high
  simp only [List.length_drop] at h4
  have e : piece (m.drop k) (t.fr - (off + k)) (t.to - (off + k)) = piece m (t.fr - off) (t.to - off) := by
    unfold piece
    rw [List.drop_drop]
    congr 1
    · omega
    · congr 1; omega
  refine ⟨h.sort, by omega, h3, by omega, fun h5 => ?_⟩
  have := h.int h5
  rw [e] at this
  exact this

theorem Lex.toks : ∀ {off : Nat} {m : List UInt8} {ts : List Tok}, Lex off m ts → (∀ t ∈ ts, TokOf off m t) ∧ ts.length ≤ m.length := by
  intro off m ts h
  induction h with
  | nil => simp
  | @gap off m ts h hg hr ih =>
    have hl : 0 < m.length := List.length_pos_iff.2 h
    have g1 := gapL_le m hl
    have hk : (gapL m).toNat ≤ m.length := by omega
    refine ⟨fun t ht => (ih.1 t ht).later hk, ?_⟩
    have := ih.2
    simp only [List.length_drop] at this
    omega
  | @tok off m ts h hg h0 hr ih =>
    have hl : 0 < m.length := List.length_pos_iff.2 h
    have f1 := firstL_le m hl
    have hk : (firstL m).2.toNat ≤ m.length := by omega
    refine ⟨fun t ht => ?_, ?_⟩
    · simp only [List.mem_cons] at ht
      rcases ht with rfl | ht
      · obtain ⟨a, b⟩ := firstL_tok h0
        refine ⟨a, Nat.le_refl _, by simp; omega, by simp; omega, fun h5 => ?_⟩
        have := b h5
        have e : piece m (off - off) (off + (firstL m).2.toNat - off) = m.take (firstL m).2.toNat := by
          unfold piece
          rw [Nat.sub_self, List.drop_zero, Nat.sub_zero, Nat.add_sub_cancel_left]
        simp only
        rw [e]
        exact this
      · exact (ih.1 t ht).later hk
    · have := ih.2
      simp only [List.length_drop] at this
      simp
      omega

theorem split_good {l : List UInt8} {ts : List Tok} (h : split l = .ok ts) (hl : l.length ≤ 300) : GoodToks l ts := by
  obtain ⟨body, hL, rfl⟩ := split_ok_iff.1 h
  obtain ⟨h1, h2⟩ := hL.toks
  have at_ : ∀ (i : Nat) (t : Tok), (body ++ [⟨0, l.length, l.length⟩])[i]? = some t → (i < body.length ∧ t ∈ body) ∨ t = ⟨0, l.length, l.length⟩ := by
    intro i t hi
    rcases Nat.lt_or_ge i body.length with hb | hb
    · rw [List.getElem?_append_left hb] at hi
      exact .inl ⟨hb, List.mem_of_getElem? hi⟩
    · rw [List.getElem?_append_right hb] at hi
      have := List.mem_of_getElem? hi
      simp only [List.mem_singleton] at this
      exact .inr this
  refine ⟨by simp; omega, by simp, ⟨⟨0, l.length, l.length⟩, by simp, rfl⟩, ?_, ?_, ?_⟩
  · intro i t hi ht
    rw [List.getElem?_append_left (by simp at hi; omega)] at ht
    exact (h1 t (List.mem_of_getElem? ht)).sort
  · intro i t ht
    rcases at_ i t ht with ⟨_, hb⟩ | rfl
    · have := h1 t hb
      have a := this.lt
      have b := this.high
      omega
    · simp
  · intro i t ht hs
    rcases at_ i t ht with ⟨_, hb⟩ | rfl
    · have := (h1 t hb).int hs
      simp only [Nat.sub_zero] at this
      exact value_digits this.1 this.2.1 this.2.2
    · simp at hs

end Go.Proofs.YtckhafpejefbbaaGreatDoor.Tw

/- The tree of tokens that lie in a greater row: as it was, moved. -/
namespace Go.Proofs.YtckhafpejefbbaaGreatDoor.Tw
open Go

structure Mv where
  fr : Nat → Nat
  to : Nat → Nat
  val : Nat → Int → Int
  nm : Nat → List UInt8 → List UInt8

def Tok.re (m : Mv) (t : Tok) : Tok := ⟨t.sort, m.fr t.fr, m.to t.to⟩

def T.re (m : Mv) : T → T
  | .name f t x => .name (m.fr f) (m.to t) (m.nm f x)
  | .int f t x => .int (m.fr f) (m.to t) (m.val f x)
  | .truth f t x => .truth (m.fr f) (m.to t) x
  | .side f t x => .side (m.fr f) (m.to t) x
  | .bracket f t i => .bracket (m.fr f) (m.to t) (i.re m)
  | .pair f t x y => .pair (m.fr f) (m.to t) (x.re m) (y.re m)
  | .call f t x y => .call (m.fr f) (m.to t) (x.re m) (y.re m)
  | .binary f t s x y => .binary (m.fr f) (m.to t) s (x.re m) (y.re m)
  | .cond f t x y z => .cond (m.fr f) (m.to t) (x.re m) (y.re m) (z.re m)
  | .fn f t n k x => .fn (m.fr f) (m.to t) (m.nm k n) (m.fr k) (x.re m)
  | .lett f t r n k x y => .lett (m.fr f) (m.to t) r (m.nm k n) (m.fr k) (x.re m) (y.re m)

theorem T.re_fr (m : Mv) (t : T) : (t.re m).fr = m.fr t.fr := by cases t <;> rfl
theorem T.re_to (m : Mv) (t : T) : (t.re m).to = m.to t.to := by cases t <;> rfl

def T.deep : T → Nat
  | .name _ _ _ | .int _ _ _ | .truth _ _ _ | .side _ _ _ => 0
  | .bracket _ _ i => 1 + i.deep
  | .pair _ _ x y => 1 + max x.deep y.deep
  | .call _ _ x y => max x.deep y.deep
  | .binary _ _ _ x y => max x.deep y.deep
  | .cond _ _ x y z => 1 + max x.deep (max y.deep z.deep)
  | .fn _ _ _ _ x => 1 + x.deep
  | .lett _ _ _ _ _ x y => 1 + max x.deep y.deep

def stopSort (s : Int) : Bool := decide (s ∉ [23, 15, 19, 20, 21, 22, 1, 2, 10, 11, 12, 13, 16])

structure Emb (l1 l2 : List UInt8) (ts1 ts2 : List Tok) (o : Nat) (m : Mv) (N : Nat) : Prop where
  tok : ∀ i, i < N → ∃ t, ts1[i]? = some t ∧ ts2[i + o]? = some (t.re m) ∧ t.sort ≠ 0 ∧ (m.fr t.fr ≤ m.to t.to ∧ m.to t.to ≤ l2.length) ∧
    (t.sort = 2 → ∀ v, valueS (piece l1 t.fr t.to) = some v → valueS (piece l2 (m.fr t.fr) (m.to t.to)) = some (m.val t.fr v)) ∧ (t.sort ≠ 2 → piece l2 (m.fr t.fr) (m.to t.to) = m.nm t.fr (piece l1 t.fr t.to))
  eof : ∃ t, ts1[N]? = some t ∧ t.sort = 0
  stop : ∃ t, ts2[N + o]? = some t ∧ stopSort t.sort = true
  few : N + o ≤ 300

structure Sim (o dd N : Nat) (s1 s2 : PS) : Prop where
  k1 : s1.stuck = false
  k2 : s2.stuck = false
  nx : s2.next = s1.next + o
  dp : s2.depth = s1.depth + dd
  le : s1.next ≤ N

variable {l1 l2 : List UInt8} {ts1 ts2 : List Tok} {o N dd : Nat} {m : Mv}

def TokIn (l1 l2 : List UInt8) (m : Mv) (t : Tok) : Prop := (m.fr t.fr ≤ m.to t.to ∧ m.to t.to ≤ l2.length) ∧
    (t.sort = 2 → ∀ v, valueS (piece l1 t.fr t.to) = some v → valueS (piece l2 (m.fr t.fr) (m.to t.to)) = some (m.val t.fr v)) ∧ (t.sort ≠ 2 → piece l2 (m.fr t.fr) (m.to t.to) = m.nm t.fr (piece l1 t.fr t.to))

theorem Sim.toks (E : Emb l1 l2 ts1 ts2 o m N) {s1 s2 : PS} (S : Sim o dd N s1 s2) :
    (s1.next < N ∧ ∃ t, tokS ts1 s1 = some t ∧ tokS ts2 s2 = some (t.re m) ∧ t.sort ≠ 0 ∧ TokIn l1 l2 m t) ∨
    (s1.next = N ∧ ∃ t u, tokS ts1 s1 = some t ∧ tokS ts2 s2 = some u ∧ t.sort = 0 ∧ stopSort u.sort = true) := by
  have e1 : tokS ts1 s1 = ts1[s1.next]? := by simp [tokS, S.k1]
  have e2 : tokS ts2 s2 = ts2[s1.next + o]? := by simp [tokS, S.k2, S.nx]
  rw [e1, e2]
  rcases Nat.lt_or_ge s1.next N with h | h
  · obtain ⟨t, h1, h2, h3, h4⟩ := E.tok _ h
    exact .inl ⟨h, t, h1, h2, h3, h4⟩
  · have hN : s1.next = N := by have := S.le; omega
    obtain ⟨t, h1, h2⟩ := E.eof
    obtain ⟨u, h3, h4⟩ := E.stop
    rw [hN]
    exact .inr ⟨rfl, t, u, h1, h3, h2, h4⟩

theorem takeS_fine {ts : List Tok} {s : Int} {st st' : PS} {t : Tok} (h : takeS ts s st = some (t, st')) (hs : st'.stuck = false) (h0 : s ≠ 0) : tokS ts st = some t ∧ t.sort = s ∧ st' = { st with next := st.next + 1 } ∧ st.next ≤ 300 := by
  unfold takeS at h
  obtain ⟨t0, ht, h⟩ := Option.bind_eq_some_iff.1 h
  split at h
  · rename_i hq
    split at h
    · rename_i hn
      cases h
      exact ⟨ht, hq, rfl, hn⟩
    · cases h
  · obtain ⟨s1, h1, h⟩ := Option.bind_eq_some_iff.1 h
    cases h
    rw [(failS_stuck h1).1] at hs
    cases hs

theorem Sim.take (E : Emb l1 l2 ts1 ts2 o m N) {s1 s2 s1' : PS} (S : Sim o dd N s1 s2) {s : Int} {t : Tok} (h : takeS ts1 s s1 = some (t, s1')) (hs : s1'.stuck = false) (h0 : s ≠ 0) :
    s1.next < N ∧ TokIn l1 l2 m t ∧ ∃ s2', takeS ts2 s s2 = some (t.re m, s2') ∧ Sim o dd N s1' s2' ∧ s1'.depth = s1.depth := by
  obtain ⟨ht, hq, rfl, hn⟩ := takeS_fine h hs h0
  rcases S.toks E with ⟨hl, t', e1, e2, e3, e4⟩ | ⟨_, t', u, e1, _, e3, _⟩
  · rw [ht] at e1
    cases e1
    refine ⟨hl, e4, { s2 with next := s2.next + 1 }, ?_, ⟨S.k1, S.k2, by simp [S.nx]; omega, S.dp, by simp; omega⟩, rfl⟩
    unfold takeS
    rw [e2]
    have hq2 : (t.re m).sort = s := hq
    have hn2 : s2.next ≤ 300 := by have := S.nx; have := E.few; omega
    simp [hq2, h0, hn2]
  · rw [ht] at e1
    cases e1
    exact absurd (hq.symm.trans e3) h0

theorem Sim.takeAny (E : Emb l1 l2 ts1 ts2 o m N) {s1 s2 : PS} (S : Sim o dd N s1 s2) : ∀ {g : List Int}, (∀ x ∈ g, x ≠ 0) → (∀ x ∈ g, stopSort x = false) ∨ s1.next < N → ∀ {k : Int} {s1' : PS}, takeAnyS ts1 g s1 = some (k, s1') → s1'.stuck = false →
    ∃ s2', takeAnyS ts2 g s2 = some (k, s2') ∧ Sim o dd N s1' s2' ∧ s1'.depth = s1.depth
  | [], _, _, k, s1', h, _ => by
    cases h
    exact ⟨s2, rfl, S, rfl⟩
  | x :: g, h0, hg, k, s1', h, hs => by
    rw [takeAnyS] at h
    obtain ⟨t, ht, h⟩ := Option.bind_eq_some_iff.1 h
    have ih : ∀ {k : Int} {s1' : PS}, takeAnyS ts1 g s1 = some (k, s1') → s1'.stuck = false → ∃ s2', takeAnyS ts2 g s2 = some (k, s2') ∧ Sim o dd N s1' s2' ∧ s1'.depth = s1.depth := Sim.takeAny E S (g := g) (fun y hy => h0 y (by simp [hy])) (hg.imp (fun hh y hy => hh y (by simp [hy])) id)
    rcases S.toks E with ⟨hl, t', e1, e2, e3, e4⟩ | ⟨hN, t', u, e1, e2, e3, e4⟩
    · rw [ht] at e1
      cases e1
      split at h
      · rename_i hx
        obtain ⟨⟨t2, s2''⟩, h1, h⟩ := Option.bind_eq_some_iff.1 h
        cases h
        obtain ⟨_, _, s2', q1, q2, q3⟩ := S.take E h1 hs (h0 x (by simp))
        refine ⟨s2', ?_, q2, q3⟩
        rw [takeAnyS, e2]
        have hx2 : (t.re m).sort = x := hx
        rw [Option.bind_some, if_pos hx2, q1]
        rfl
      · rename_i hx
        obtain ⟨s2', q1, q2, q3⟩ := ih h hs
        refine ⟨s2', ?_, q2, q3⟩
        rw [takeAnyS, e2]
        have hx2 : ¬ (t.re m).sort = x := hx
        simp [hx2, q1]
    · rw [ht] at e1
      cases e1
      have hx : ¬ t.sort = x := by rw [e3]; exact fun e => h0 x (by simp) e.symm
      rw [if_neg hx] at h
      rcases hg with hg | hg
      · obtain ⟨s2', q1, q2, q3⟩ := ih h hs
        refine ⟨s2', ?_, q2, q3⟩
        rw [takeAnyS, e2]
        have hx2 : ¬ u.sort = x := by
          intro e
          have := hg x (by simp)
          rw [← e, e4] at this
          cases this
        simp [hx2, q1]
      · omega

theorem Sim.begin (E : Emb l1 l2 ts1 ts2 o m N) {s1 s2 s1' : PS} (S : Sim o dd N s1 s2) {s : Int} {k : Nat} (h : beginS ts1 s s1 = some (k, s1')) (hs : s1'.stuck = false) (h0 : s ≠ 0) (hd : s2.depth < 40) :
    ∃ s2', beginS ts2 s s2 = some (m.fr k, s2') ∧ Sim o dd N s1' s2' ∧ s1'.depth = s1.depth + 1 := by
  have hd1 : ¬ s1.depth = 40 := by have := S.dp; omega
  unfold beginS at h
  rw [if_neg hd1, Option.bind_some] at h
  split at h
  · obtain ⟨⟨t1, s3⟩, h2, h⟩ := Option.bind_eq_some_iff.1 h
    cases h
    have S1 : Sim o dd N { s1 with depth := s1.depth + 1 } { s2 with depth := s2.depth + 1 } := ⟨S.k1, S.k2, S.nx, by simp [S.dp]; omega, S.le⟩
    obtain ⟨_, _, s2', q1, q2, q3⟩ := S1.take E h2 hs h0
    refine ⟨s2', ?_, q2, q3⟩
    unfold beginS
    rw [if_neg (by omega), Option.bind_some, if_pos (by omega), q1]
    rfl
  · cases h

theorem Sim.end {s1 s2 s1' : PS} (S : Sim o dd N s1 s2) (h : endS s1 = some s1') : ∃ s2', endS s2 = some s2' ∧ Sim o dd N s1' s2' ∧ s1.depth = s1'.depth + 1 := by
  unfold endS at h
  split at h
  · cases h
  · rename_i h0
    cases h
    have := S.dp
    refine ⟨{ s2 with depth := s2.depth - 1 }, by unfold endS; rw [if_neg (by omega)], ⟨S.k1, S.k2, S.nx, by simp; omega, S.le⟩, by simp; omega⟩

theorem Sim.binder (E : Emb l1 l2 ts1 ts2 o m N) {s1 s2 s1' : PS} (S : Sim o dd N s1 s2) {x : List UInt8} {k : Nat} (h : binderS l1 ts1 s1 = some ((x, k), s1')) (hs : s1'.stuck = false) :
    s1.next < N ∧ ∃ s2', binderS l2 ts2 s2 = some ((m.nm k x, m.fr k), s2') ∧ Sim o dd N s1' s2' ∧ s1'.depth = s1.depth := by
  unfold binderS at h
  obtain ⟨⟨t, s3⟩, h1, h⟩ := Option.bind_eq_some_iff.1 h
  split at h
  · rename_i hp
    cases h
    obtain ⟨hl, q0, s2', q1, q2, q3⟩ := S.take E h1 hs (by decide)
    obtain ⟨ht, hsort, _, _⟩ := takeS_fine h1 hs (by decide)
    refine ⟨hl, s2', ?_, q2, q3⟩
    unfold binderS
    rw [q1, Option.bind_some]
    have hp2 : (t.re m).fr ≤ (t.re m).to ∧ (t.re m).to ≤ l2.length := q0.1
    simp only [hp2, and_self, if_true]
    rw [show piece l2 (t.re m).fr (t.re m).to = m.nm t.fr (piece l1 t.fr t.to) from q0.2.2 (by rw [hsort]; decide)]
    rfl
  · cases h

theorem leafS_re {t : Tok} (hq : TokIn l1 l2 m t) {x : T} (h : leafS l1 t = some x) : leafS l2 (t.re m) = some (x.re m) ∧ x.deep = 0 := by
  have hc' : (t.re m).fr ≤ (t.re m).to ∧ (t.re m).to ≤ l2.length := hq.1
  unfold leafS at h ⊢
  split at h
  · rename_i hq2
    rw [if_pos (show (t.re m).sort = 2 from hq2), if_pos hc']
    split at h
    · obtain ⟨v, hv, h⟩ := Option.bind_eq_some_iff.1 h
      cases h
      rw [show valueS (piece l2 (t.re m).fr (t.re m).to) = some (m.val t.fr v) from hq.2.1 hq2 v hv]
      exact ⟨rfl, rfl⟩
    · cases h
  · rename_i hq0
    rw [if_neg (show ¬ (t.re m).sort = 2 from hq0)]
    split at h
    · rename_i hq2
      rw [if_pos (show (t.re m).sort = 10 ∨ (t.re m).sort = 11 from hq2)]
      cases h
      exact ⟨rfl, rfl⟩
    · rename_i hq2
      rw [if_neg (show ¬ ((t.re m).sort = 10 ∨ (t.re m).sort = 11) from hq2)]
      split at h
      · rename_i hq3
        rw [if_pos (show (t.re m).sort = 12 ∨ (t.re m).sort = 13 from hq3)]
        cases h
        exact ⟨rfl, rfl⟩
      · rename_i hq3
        rw [if_neg (show ¬ ((t.re m).sort = 12 ∨ (t.re m).sort = 13) from hq3), if_pos hc', show piece l2 (t.re m).fr (t.re m).to = m.nm t.fr (piece l1 t.fr t.to) from hq.2.2 hq0]
        split at h
        · cases h
          exact ⟨rfl, rfl⟩
        · cases h

end Go.Proofs.YtckhafpejefbbaaGreatDoor.Tw

/- The tree of tokens that lie in a greater row: the whole grammar. -/
namespace Go.Proofs.YtckhafpejefbbaaGreatDoor.Tw
open Go

theorem chainFrom_deep (l : List UInt8) (ts : List Tok) : ∀ (n : Nat) {p : Part} {g : List Int} {a r : T} {st st' : PS}, chainFromS l ts n p g a st = some (r, st') → a.deep ≤ r.deep
  | 0, _, _, _, _, _, _, h => by simp [chainFromS] at h
  | n + 1, p, g, a, r, st, st', h => by
    simp only [chainFromS, Option.bind_eq_some_iff, Prod.exists] at h
    obtain ⟨_, _, _, h⟩ := h
    split at h
    · cases h; exact Nat.le_refl _
    · simp only [Option.bind_eq_some_iff, Prod.exists] at h
      obtain ⟨_, _, _, h3⟩ := h
      have := chainFrom_deep l ts n h3
      simp only [T.deep] at this
      omega

theorem chainFrom_deep' (l : List UInt8) (ts : List Tok) {n : Nat} {p : Part} {g : List Int} {a b r : T} {f t : Nat} {s : Int} {st st' : PS} (h : chainFromS l ts n p g (.binary f t s a b) st = some (r, st')) : b.deep ≤ r.deep := by
  have := chainFrom_deep l ts n h
  simp only [T.deep] at this
  omega

theorem callFrom_deep (l : List UInt8) (ts : List Tok) : ∀ (n : Nat) {a r : T} {st st' : PS}, callFromS l ts n a st = some (r, st') → a.deep ≤ r.deep
  | 0, _, _, _, _, h => by simp [callFromS] at h
  | n + 1, a, r, st, st', h => by
    simp only [callFromS, Option.bind_eq_some_iff] at h
    obtain ⟨_, _, h⟩ := h
    split at h
    · simp only [Option.bind_eq_some_iff, Prod.exists] at h
      obtain ⟨_, _, _, h3⟩ := h
      have := callFrom_deep l ts n h3
      simp only [T.deep] at this
      omega
    · cases h; exact Nat.le_refl _

variable {l1 l2 : List UInt8} {ts1 ts2 : List Tok} {o N dd : Nat} {m : Mv}

theorem Sim.one (E : Emb l1 l2 ts1 ts2 o m N) {s1 s2 s1' : PS} (S : Sim o dd N s1 s2) {x k : Int} (hx : x ≠ 0) (h : takeAnyS ts1 [x] s1 = some (k, s1')) (hk : k ≠ 0 ∨ s1'.next < N) : s1.next < N := by
  rcases S.toks E with ⟨hl, _⟩ | ⟨hN, t, u, e1, e2, e3, e4⟩
  · exact hl
  · exfalso
    rw [takeAnyS, e1, Option.bind_some, if_neg (by rw [e3]; exact fun e => hx e.symm), takeAnyS] at h
    cases h
    rcases hk with hk | hk
    · exact hk rfl
    · omega

variable (l1 l2 ts1 ts2 o m N dd)

structure SAll (n : Nat) : Prop where
  expr : ∀ {s1 s2 s1' : PS} {r : T}, Sim o dd N s1 s2 → exprS l1 ts1 n s1 = some (r, s1') → s1'.stuck = false → s2.depth + r.deep ≤ 40 → ∃ s2', exprS l2 ts2 n s2 = some (r.re m, s2') ∧ Sim o dd N s1' s2'
  lett : ∀ {s1 s2 s1' : PS} {r : T}, Sim o dd N s1 s2 → letS l1 ts1 n s1 = some (r, s1') → s1'.stuck = false → s2.depth + r.deep ≤ 40 → ∃ s2', letS l2 ts2 n s2 = some (r.re m, s2') ∧ Sim o dd N s1' s2'
  fn : ∀ {s1 s2 s1' : PS} {r : T}, Sim o dd N s1 s2 → funS l1 ts1 n s1 = some (r, s1') → s1'.stuck = false → s2.depth + r.deep ≤ 40 → ∃ s2', funS l2 ts2 n s2 = some (r.re m, s2') ∧ Sim o dd N s1' s2'
  cond : ∀ {s1 s2 s1' : PS} {r : T}, Sim o dd N s1 s2 → condS l1 ts1 n s1 = some (r, s1') → s1'.stuck = false → s2.depth + r.deep ≤ 40 → ∃ s2', condS l2 ts2 n s2 = some (r.re m, s2') ∧ Sim o dd N s1' s2'
  cmp : ∀ {s1 s2 s1' : PS} {r : T}, Sim o dd N s1 s2 → cmpS l1 ts1 n s1 = some (r, s1') → s1'.stuck = false → s2.depth + r.deep ≤ 40 → ∃ s2', cmpS l2 ts2 n s2 = some (r.re m, s2') ∧ Sim o dd N s1' s2'
  sum : ∀ {s1 s2 s1' : PS} {r : T}, Sim o dd N s1 s2 → sumS l1 ts1 n s1 = some (r, s1') → s1'.stuck = false → s2.depth + r.deep ≤ 40 → ∃ s2', sumS l2 ts2 n s2 = some (r.re m, s2') ∧ Sim o dd N s1' s2'
  term : ∀ {s1 s2 s1' : PS} {r : T}, Sim o dd N s1 s2 → termS l1 ts1 n s1 = some (r, s1') → s1'.stuck = false → s2.depth + r.deep ≤ 40 → ∃ s2', termS l2 ts2 n s2 = some (r.re m, s2') ∧ Sim o dd N s1' s2'
  part : ∀ {p : Part} {s1 s2 s1' : PS} {r : T}, Sim o dd N s1 s2 → partS l1 ts1 n p s1 = some (r, s1') → s1'.stuck = false → s2.depth + r.deep ≤ 40 → ∃ s2', partS l2 ts2 n p s2 = some (r.re m, s2') ∧ Sim o dd N s1' s2'
  chain : ∀ {p : Part} {g : List Int} {s1 s2 s1' : PS} {r : T}, (∀ x ∈ g, x ≠ 0) → (∀ x ∈ g, stopSort x = false) → Sim o dd N s1 s2 → chainS l1 ts1 n p g s1 = some (r, s1') → s1'.stuck = false → s2.depth + r.deep ≤ 40 → ∃ s2', chainS l2 ts2 n p g s2 = some (r.re m, s2') ∧ Sim o dd N s1' s2'
  chainFrom : ∀ {p : Part} {g : List Int} {a : T} {s1 s2 s1' : PS} {r : T}, (∀ x ∈ g, x ≠ 0) → (∀ x ∈ g, stopSort x = false) → Sim o dd N s1 s2 → chainFromS l1 ts1 n p g a s1 = some (r, s1') → s1'.stuck = false → s2.depth + r.deep ≤ 40 → ∃ s2', chainFromS l2 ts2 n p g (a.re m) s2 = some (r.re m, s2') ∧ Sim o dd N s1' s2'
  call : ∀ {s1 s2 s1' : PS} {r : T}, Sim o dd N s1 s2 → callS l1 ts1 n s1 = some (r, s1') → s1'.stuck = false → s2.depth + r.deep ≤ 40 → ∃ s2', callS l2 ts2 n s2 = some (r.re m, s2') ∧ Sim o dd N s1' s2'
  callFrom : ∀ {a : T} {s1 s2 s1' : PS} {r : T}, Sim o dd N s1 s2 → callFromS l1 ts1 n a s1 = some (r, s1') → s1'.stuck = false → s2.depth + r.deep ≤ 40 → ∃ s2', callFromS l2 ts2 n (a.re m) s2 = some (r.re m, s2') ∧ Sim o dd N s1' s2'
  atom : ∀ {s1 s2 s1' : PS} {r : T}, Sim o dd N s1 s2 → atomS l1 ts1 n s1 = some (r, s1') → s1'.stuck = false → s2.depth + r.deep ≤ 40 → ∃ s2', atomS l2 ts2 n s2 = some (r.re m, s2') ∧ Sim o dd N s1' s2'
  bracket : ∀ {s1 s2 s1' : PS} {r : T}, Sim o dd N s1 s2 → bracketS l1 ts1 n s1 = some (r, s1') → s1'.stuck = false → s2.depth + r.deep ≤ 40 → ∃ s2', bracketS l2 ts2 n s2 = some (r.re m, s2') ∧ Sim o dd N s1' s2'

variable {l1 l2 ts1 ts2 o m N dd}

theorem Sim.dp2 {s1 s2 t1 t2 : PS} (S : Sim o dd N s1 s2) (S' : Sim o dd N t1 t2) (h : t1.depth = s1.depth) : t2.depth = s2.depth := by
  have := S.dp
  have := S'.dp
  omega

theorem sim_step (E : Emb l1 l2 ts1 ts2 o m N) {n : Nat} (ih : SAll l1 l2 ts1 ts2 o N dd m n) : SAll l1 l2 ts1 ts2 o N dd m (n + 1) := by
  have M := mild_all l1 ts1 n
  constructor
  case expr =>
    intro s1 s2 s1' r S h hs hd
    rw [exprS] at h
    obtain ⟨t, ht, h⟩ := Option.bind_eq_some_iff.1 h
    rcases S.toks E with ⟨hl, t', e1, e2, e3, e4⟩ | ⟨hN, t', u, e1, e2, e3, e4⟩
    · rw [ht] at e1
      cases e1
      rw [exprS, e2, Option.bind_some]
      have hsort : (t.re m).sort = t.sort := rfl
      rw [hsort]
      split at h
      · rename_i q
        rw [if_pos q]
        exact ih.lett S h hs hd
      · rename_i q
        rw [if_neg q]
        split at h
        · rename_i q
          rw [if_pos q]
          exact ih.fn S h hs hd
        · rename_i q
          rw [if_neg q]
          split at h
          · rename_i q
            rw [if_pos q]
            exact ih.cond S h hs hd
          · rename_i q
            rw [if_neg q]
            exact ih.cmp S h hs hd
    · -- behind the last token no expr begins: it would be stuck
      rw [ht] at e1
      cases e1
      exfalso
      rw [e3, if_neg (by decide), if_neg (by decide), if_neg (by decide)] at h
      have key : ∀ j {s s' : PS} {q : T}, s = s1 → (atomS l1 ts1 j s = some (q, s') → s'.stuck = true) := by
        intro j s s' q hq hm
        subst hq
        cases j with
        | zero => simp [atomS] at hm
        | succ j =>
          rw [atomS, ht, Option.bind_some, e3, if_neg (by decide), if_neg (by decide)] at hm
          obtain ⟨s3, q1, hm⟩ := Option.bind_eq_some_iff.1 hm
          cases hm
          exact (failS_stuck q1).1
      have kcall : ∀ j {s' : PS} {q : T}, callS l1 ts1 j s1 = some (q, s') → s'.stuck = true := by
        intro j s' q hm
        cases j with
        | zero => simp [callS] at hm
        | succ j =>
          rw [callS] at hm
          obtain ⟨⟨a, s3⟩, q1, hm⟩ := Option.bind_eq_some_iff.1 hm
          have := key j rfl q1
          cases hq : s'.stuck
          · have := ((mild_all l1 ts1 j).callFrom hm).1 hq
            simp_all
          · rfl
      have kchain : ∀ j {p : Part} {g : List Int} {s' : PS} {q : T}, (∀ j {s' : PS} {q : T}, partS l1 ts1 j p s1 = some (q, s') → s'.stuck = true) → chainS l1 ts1 j p g s1 = some (q, s') → s'.stuck = true := by
        intro j p g s' q hp hm
        cases j with
        | zero => simp [chainS] at hm
        | succ j =>
          rw [chainS] at hm
          obtain ⟨⟨a, s3⟩, q1, hm⟩ := Option.bind_eq_some_iff.1 hm
          have := hp j q1
          cases hq : s'.stuck
          · have := ((mild_all l1 ts1 j).chainFrom hm).1 hq
            simp_all
          · rfl
      have kpc : ∀ j {s' : PS} {q : T}, partS l1 ts1 j .call s1 = some (q, s') → s'.stuck = true := by
        intro j s' q hm
        cases j with
        | zero => simp [partS] at hm
        | succ j => rw [partS] at hm; exact kcall j hm
      have kpt : ∀ j {s' : PS} {q : T}, partS l1 ts1 j .term s1 = some (q, s') → s'.stuck = true := by
        intro j s' q hm
        cases j with
        | zero => simp [partS] at hm
        | succ j =>
          rw [partS] at hm
          cases j with
          | zero => simp [termS] at hm
          | succ j => rw [termS] at hm; exact kchain j kpc hm
      cases n with
      | zero => simp [cmpS] at h
      | succ n =>
        rw [cmpS] at h
        obtain ⟨⟨a, s3⟩, q1, h⟩ := Option.bind_eq_some_iff.1 h
        have k1 : s3.stuck = true := by
          cases n with
          | zero => simp [sumS] at q1
          | succ n => rw [sumS] at q1; exact kchain n kpt q1
        obtain ⟨⟨sg, s4⟩, q2, h⟩ := Option.bind_eq_some_iff.1 h
        simp only at h q2
        have k2 : s4.stuck = true := by
          cases hq : s4.stuck
          · have := (takeAnyS_mild q2).1 hq
            simp_all
          · rfl
        split at h
        · cases h
          simp_all
        · obtain ⟨⟨c, s5⟩, q3, h⟩ := Option.bind_eq_some_iff.1 h
          cases h
          have := ((mild_all l1 ts1 n).sum q3).1 hs
          simp_all
  case lett =>
    intro s1 s2 s1' r S h hs hd
    simp only [letS, Option.bind_eq_some_iff, Option.some.injEq, Prod.mk.injEq, Prod.exists] at h
    obtain ⟨k, t1, h1, rc, t2, h2, bn, bat, t3, h3, c4, t4, h4, d, t5, h5, c6, t6, h6, x, t7, h7, t8, h8, rfl, rfl⟩ := h
    simp only [T.deep] at hd
    have g7 : t7.stuck = false := by rw [← (endS_mild h8).1]; exact hs
    have m7 := M.expr h7
    have g6 := m7.1 g7
    have m6 := takeS_mild h6
    have g5 := m6.1 g6
    have m5 := M.expr h5
    have g4 := m5.1 g5
    have m4 := takeS_mild h4
    have g3 := m4.1 g4
    have m3 := binderS_mild h3
    have g2 := m3.1 g3
    have m2 := takeAnyS_mild h2
    have g1 := m2.1 g2
    obtain ⟨u1, e1, S1, p1⟩ := S.begin E h1 g1 (by decide) (by omega)
    have hb3 : t2.next < N := by
      unfold binderS at h3
      obtain ⟨⟨c, s9⟩, q1, q2⟩ := Option.bind_eq_some_iff.1 h3
      obtain ⟨qa, qb, _, _⟩ := takeS_fine q1 (by split at q2 <;> cases q2; exact g3) (by decide)
      -- the state is one of those that lie in the row
      rcases Nat.lt_or_ge t2.next N with hlt | hge
      · exact hlt
      · exfalso
        have hle : t1.next ≤ N := S1.le
        have hcase : t2.next = t1.next ∨ (t2.next = t1.next + 1 ∧ t1.next < N) := by
          rcases S1.toks E with ⟨hl, _⟩ | ⟨hN, t, u, e1, e2, e3, e4⟩
          · rw [takeAnyS] at h2
            obtain ⟨tt, _, h2⟩ := Option.bind_eq_some_iff.1 h2
            split at h2
            · obtain ⟨⟨c9, s9⟩, q9, h2⟩ := Option.bind_eq_some_iff.1 h2
              cases h2
              obtain ⟨_, _, rfl, _⟩ := takeS_fine q9 g2 (by decide)
              exact .inr ⟨rfl, hl⟩
            · rw [takeAnyS] at h2
              cases h2
              exact .inl rfl
          · rw [takeAnyS, e1, Option.bind_some, if_neg (by rw [e3]; decide), takeAnyS] at h2
            cases h2
            exact .inl rfl
        have hN : t2.next = N := by omega
        obtain ⟨te, he, h0⟩ := E.eof
        have : tokS ts1 t2 = some te := by simp [tokS, g2, hN, he]
        rw [this] at qa
        cases qa
        rw [h0] at qb
        cases qb
    have hb1 : t1.next < N := S1.one E (by decide) h2 (.inr hb3)
    obtain ⟨u2, e2, S2, p2⟩ := S1.takeAny E (by simp) (.inr hb1) h2 g2
    obtain ⟨_, u3, e3, S3, p3⟩ := S2.binder E h3 g3
    obtain ⟨_, _, u4, e4, S4, p4⟩ := S3.take E h4 g4 (by decide)
    have d4 : u4.depth = s2.depth + 1 := by have := S.dp; have := S4.dp; omega
    obtain ⟨u5, e5, S5⟩ := ih.expr S4 h5 g5 (by omega)
    obtain ⟨_, _, u6, e6, S6, p6⟩ := S5.take E h6 g6 (by decide)
    have d6 : u6.depth = s2.depth + 1 := by have := S6.dp; have := S4.dp; have := m5.2; omega
    obtain ⟨u7, e7, S7⟩ := ih.expr S6 h7 g7 (by omega)
    obtain ⟨u8, e8, S8, _⟩ := S7.end h8
    refine ⟨u8, ?_, S8⟩
    simp only [letS, e1, e2, e3, e4, e5, e6, e7, e8, Option.bind_some, T.re_to]
    rfl
  case fn =>
    intro s1 s2 s1' r S h hs hd
    simp only [funS, Option.bind_eq_some_iff, Option.some.injEq, Prod.mk.injEq, Prod.exists] at h
    obtain ⟨k, t1, h1, bn, bat, t3, h3, c4, t4, h4, d, t5, h5, t8, h8, rfl, rfl⟩ := h
    simp only [T.deep] at hd
    have g5 : t5.stuck = false := by rw [← (endS_mild h8).1]; exact hs
    have m5 := M.expr h5
    have g4 := m5.1 g5
    have m4 := takeS_mild h4
    have g3 := m4.1 g4
    have m3 := binderS_mild h3
    have g1 := m3.1 g3
    obtain ⟨u1, e1, S1, p1⟩ := S.begin E h1 g1 (by decide) (by omega)
    obtain ⟨_, u3, e3, S3, p3⟩ := S1.binder E h3 g3
    obtain ⟨_, _, u4, e4, S4, p4⟩ := S3.take E h4 g4 (by decide)
    have d4 : u4.depth = s2.depth + 1 := by have := S.dp; have := S4.dp; omega
    obtain ⟨u5, e5, S5⟩ := ih.expr S4 h5 g5 (by omega)
    obtain ⟨u8, e8, S8, _⟩ := S5.end h8
    refine ⟨u8, ?_, S8⟩
    simp only [funS, e1, e3, e4, e5, e8, Option.bind_some, T.re_to]
    rfl
  case cond =>
    intro s1 s2 s1' r S h hs hd
    simp only [condS, Option.bind_eq_some_iff, Option.some.injEq, Prod.mk.injEq, Prod.exists] at h
    obtain ⟨k, t1, h1, x, t2, h2, c3, t3, h3, y, t4, h4, c5, t5, h5, z, t6, h6, t8, h8, rfl, rfl⟩ := h
    simp only [T.deep] at hd
    have g6 : t6.stuck = false := by rw [← (endS_mild h8).1]; exact hs
    have m6 := M.expr h6
    have g5 := m6.1 g6
    have m5 := takeS_mild h5
    have g4 := m5.1 g5
    have m4 := M.expr h4
    have g3 := m4.1 g4
    have m3 := takeS_mild h3
    have g2 := m3.1 g3
    have m2 := M.expr h2
    have g1 := m2.1 g2
    obtain ⟨u1, e1, S1, p1⟩ := S.begin E h1 g1 (by decide) (by omega)
    have d1 : u1.depth = s2.depth + 1 := by have := S.dp; have := S1.dp; omega
    obtain ⟨u2, e2, S2⟩ := ih.expr S1 h2 g2 (by omega)
    obtain ⟨_, _, u3, e3, S3, p3⟩ := S2.take E h3 g3 (by decide)
    have d3 : u3.depth = s2.depth + 1 := by have := S3.dp; have := S1.dp; have := m2.2; omega
    obtain ⟨u4, e4, S4⟩ := ih.expr S3 h4 g4 (by omega)
    obtain ⟨_, _, u5, e5, S5, p5⟩ := S4.take E h5 g5 (by decide)
    have d5 : u5.depth = s2.depth + 1 := by have := S5.dp; have := S3.dp; have := m4.2; omega
    obtain ⟨u6, e6, S6⟩ := ih.expr S5 h6 g6 (by omega)
    obtain ⟨u8, e8, S8, _⟩ := S6.end h8
    refine ⟨u8, ?_, S8⟩
    simp only [condS, e1, e2, e3, e4, e5, e6, e8, Option.bind_some, T.re_to]
    rfl
  case cmp =>
    intro s1 s2 s1' r S h hs hd
    simp only [cmpS, Option.bind_eq_some_iff, Prod.exists] at h
    obtain ⟨x, t1, h1, sg, t2, h2, h⟩ := h
    split at h
    · rename_i q
      cases h
      have g1 := (takeAnyS_mild h2).1 hs
      obtain ⟨u1, e1, S1⟩ := ih.sum S h1 g1 hd
      obtain ⟨u2, e2, S2, _⟩ := S1.takeAny E (by simp) (.inl (by decide)) h2 hs
      refine ⟨u2, ?_, S2⟩
      simp only [cmpS, e1, e2, Option.bind_some, q, if_true]
    · rename_i q
      simp only [Option.bind_eq_some_iff, Option.some.injEq, Prod.mk.injEq, Prod.exists] at h
      obtain ⟨y, t3, h3, rfl, rfl⟩ := h
      simp only [T.deep] at hd
      have m3 := M.sum h3
      have g2 := m3.1 hs
      have m2 := takeAnyS_mild h2
      have g1 := m2.1 g2
      have m1 := M.sum h1
      obtain ⟨u1, e1, S1⟩ := ih.sum S h1 g1 (by omega)
      obtain ⟨u2, e2, S2, _⟩ := S1.takeAny E (by simp) (.inl (by decide)) h2 g2
      have d2 : u2.depth = s2.depth := by have := S2.dp; have := S.dp; have := m1.2; have := m2.2; omega
      obtain ⟨u3, e3, S3⟩ := ih.sum S2 h3 hs (by omega)
      refine ⟨u3, ?_, S3⟩
      simp only [cmpS, e1, e2, e3, Option.bind_some, if_neg q, T.re_to, T.re_fr]
      rfl
  case sum =>
    intro s1 s2 s1' r S h hs hd
    rw [sumS] at h ⊢
    exact ih.chain (by simp) (by decide) S h hs hd
  case term =>
    intro s1 s2 s1' r S h hs hd
    rw [termS] at h ⊢
    exact ih.chain (by simp) (by decide) S h hs hd
  case part =>
    intro p s1 s2 s1' r S h hs hd
    cases p with
    | term => rw [partS] at h ⊢; exact ih.term S h hs hd
    | call => rw [partS] at h ⊢; exact ih.call S h hs hd
  case chain =>
    intro p g s1 s2 s1' r hg0 hg S h hs hd
    simp only [chainS, Option.bind_eq_some_iff, Prod.exists] at h
    obtain ⟨a, t1, h1, h2⟩ := h
    have g1 := (M.chainFrom h2).1 hs
    have := chainFrom_deep l1 ts1 n h2
    obtain ⟨u1, e1, S1⟩ := ih.part S h1 g1 (by omega)
    have d1 : u1.depth = s2.depth := S.dp2 S1 (M.part h1).2
    obtain ⟨u2, e2, S2⟩ := ih.chainFrom hg0 hg S1 h2 hs (by omega)
    refine ⟨u2, ?_, S2⟩
    simp only [chainS, e1, e2, Option.bind_some]
  case chainFrom =>
    intro p g a s1 s2 s1' r hg0 hg S h hs hd
    simp only [chainFromS, Option.bind_eq_some_iff, Prod.exists] at h
    obtain ⟨sg, t1, h1, h⟩ := h
    split at h
    · rename_i q
      cases h
      obtain ⟨u1, e1, S1, _⟩ := S.takeAny E hg0 (.inl hg) h1 hs
      refine ⟨u1, ?_, S1⟩
      simp only [chainFromS, e1, Option.bind_some, q, if_true]
    · rename_i q
      simp only [Option.bind_eq_some_iff, Prod.exists] at h
      obtain ⟨c, t2, h2, h3⟩ := h
      have hdeep := chainFrom_deep' l1 ts1 h3
      have g2 := (M.chainFrom h3).1 hs
      have m2 := M.part h2
      have g1 := m2.1 g2
      have m1 := takeAnyS_mild h1
      obtain ⟨u1, e1, S1, _⟩ := S.takeAny E hg0 (.inl hg) h1 g1
      have d1 : u1.depth = s2.depth := S.dp2 S1 m1.2
      obtain ⟨u2, e2, S2⟩ := ih.part S1 h2 g2 (by omega)
      have d2 : u2.depth = s2.depth := by rw [S1.dp2 S2 m2.2, d1]
      obtain ⟨u3, e3, S3⟩ := ih.chainFrom hg0 hg S2 h3 hs (by omega)
      refine ⟨u3, ?_, S3⟩
      simp only [chainFromS, e1, e2, Option.bind_some, if_neg q, T.re_to, T.re_fr]
      exact e3
  case call =>
    intro s1 s2 s1' r S h hs hd
    simp only [callS, Option.bind_eq_some_iff, Prod.exists] at h
    obtain ⟨a, t1, h1, h2⟩ := h
    have g1 := (M.callFrom h2).1 hs
    have := callFrom_deep l1 ts1 n h2
    obtain ⟨u1, e1, S1⟩ := ih.atom S h1 g1 (by omega)
    have d1 : u1.depth = s2.depth := S.dp2 S1 (M.atom h1).2
    obtain ⟨u2, e2, S2⟩ := ih.callFrom S1 h2 hs (by omega)
    refine ⟨u2, ?_, S2⟩
    simp only [callS, e1, e2, Option.bind_some]
  case callFrom =>
    intro a s1 s2 s1' r S h hs hd
    simp only [callFromS, Option.bind_eq_some_iff] at h
    obtain ⟨t, ht, h⟩ := h
    rcases S.toks E with ⟨hl, t', e1, e2, e3, e4⟩ | ⟨hN, t', u, e1, e2, e3, e4⟩
    · rw [ht] at e1
      cases e1
      have hsort : (t.re m).sort = t.sort := rfl
      split at h
      · rename_i q
        simp only [Option.bind_eq_some_iff, Prod.exists] at h
        obtain ⟨c, t2, h2, h3⟩ := h
        have hdeep := callFrom_deep l1 ts1 n h3
        simp only [T.deep] at hdeep
        have g2 := (M.callFrom h3).1 hs
        have m2 := M.atom h2
        obtain ⟨u2, e2', S2⟩ := ih.atom S h2 g2 (by omega)
        have d2 : u2.depth = s2.depth := S.dp2 S2 m2.2
        obtain ⟨u3, e3', S3⟩ := ih.callFrom S2 h3 hs (by omega)
        refine ⟨u3, ?_, S3⟩
        simp only [callFromS, e2, Option.bind_some, hsort, q, if_true, e2', T.re_to, T.re_fr]
        exact e3'
      · rename_i q
        cases h
        refine ⟨s2, ?_, S⟩
        simp only [callFromS, e2, Option.bind_some, hsort, if_neg q]
    · rw [ht] at e1
      cases e1
      rw [e3, if_neg (by decide)] at h
      cases h
      refine ⟨s2, ?_, S⟩
      have q : ¬ beginsAtom u.sort = true := by
        simp [stopSort] at e4
        simp [beginsAtom]
        omega
      simp only [callFromS, e2, Option.bind_some, if_neg q]
  case atom =>
    intro s1 s2 s1' r S h hs hd
    simp only [atomS, Option.bind_eq_some_iff] at h
    obtain ⟨t, ht, h⟩ := h
    rcases S.toks E with ⟨hl, t', e1, e2, e3, e4⟩ | ⟨hN, t', u, e1, e2, e3, e4⟩
    · rw [ht] at e1
      cases e1
      have hsort : (t.re m).sort = t.sort := rfl
      split at h
      · rename_i q
        obtain ⟨u2, e2', S2⟩ := ih.bracket S h hs hd
        refine ⟨u2, ?_, S2⟩
        simp only [atomS, e2, Option.bind_some, hsort, q, if_true, e2']
      · rename_i q
        split at h
        · rename_i q2
          simp only [Option.bind_eq_some_iff, Option.some.injEq, Prod.mk.injEq, Prod.exists] at h
          obtain ⟨c, t2, h2, x, h3, rfl, rfl⟩ := h
          obtain ⟨_, _, u2, e2', S2, _⟩ := S.take E h2 hs e3
          obtain ⟨e3', _⟩ := leafS_re e4 h3
          refine ⟨u2, ?_, S2⟩
          simp only [atomS, e2, Option.bind_some, hsort, if_neg q, q2, if_true, e2', e3']
        · simp only [Option.bind_eq_some_iff, Option.some.injEq, Prod.mk.injEq] at h
          obtain ⟨_, h2, _, rfl⟩ := h
          rw [(failS_stuck h2).1] at hs
          cases hs
    · rw [ht] at e1
      cases e1
      rw [e3, if_neg (by decide), if_neg (by decide)] at h
      simp only [Option.bind_eq_some_iff, Option.some.injEq, Prod.mk.injEq] at h
      obtain ⟨_, h2, _, rfl⟩ := h
      rw [(failS_stuck h2).1] at hs
      cases hs
  case bracket =>
    intro s1 s2 s1' r S h hs hd
    simp only [bracketS, Option.bind_eq_some_iff, Prod.exists] at h
    obtain ⟨k, t1, h1, x, t2, h2, sg, t3, h3, h⟩ := h
    split at h
    · rename_i q
      simp only [Option.bind_eq_some_iff, Option.some.injEq, Prod.mk.injEq, Prod.exists] at h
      obtain ⟨y, t4, h4, c5, t5, h5, t6, h6, rfl, rfl⟩ := h
      simp only [T.deep] at hd
      have g5 : t5.stuck = false := by rw [← (endS_mild h6).1]; exact hs
      have m5 := takeS_mild h5
      have g4 := m5.1 g5
      have m4 := M.expr h4
      have g3 := m4.1 g4
      have m3 := takeAnyS_mild h3
      have g2 := m3.1 g3
      have m2 := M.expr h2
      have g1 := m2.1 g2
      obtain ⟨u1, e1, S1, p1⟩ := S.begin E h1 g1 (by decide) (by omega)
      have d1 : u1.depth = s2.depth + 1 := by have := S.dp; have := S1.dp; omega
      obtain ⟨u2, e2, S2⟩ := ih.expr S1 h2 g2 (by omega)
      have hl2 : t2.next < N := S2.one E (by decide) h3 (.inl (by rw [q]; decide))
      obtain ⟨u3, e3, S3, p3⟩ := S2.takeAny E (by simp) (.inr hl2) h3 g3
      have d3 : u3.depth = s2.depth + 1 := by have := S3.dp; have := S1.dp; have := m2.2; omega
      obtain ⟨u4, e4, S4⟩ := ih.expr S3 h4 g4 (by omega)
      obtain ⟨_, _, u5, e5, S5, p5⟩ := S4.take E h5 g5 (by decide)
      obtain ⟨u6, e6, S6, _⟩ := S5.end h6
      refine ⟨u6, ?_, S6⟩
      simp only [bracketS, e1, e2, e3, e4, e5, e6, Option.bind_some, q, if_true]
      rfl
    · rename_i q
      simp only [Option.bind_eq_some_iff, Option.some.injEq, Prod.mk.injEq, Prod.exists] at h
      obtain ⟨c5, t5, h5, t6, h6, rfl, rfl⟩ := h
      simp only [T.deep] at hd
      have g5 : t5.stuck = false := by rw [← (endS_mild h6).1]; exact hs
      have m5 := takeS_mild h5
      have g3 := m5.1 g5
      have m3 := takeAnyS_mild h3
      have g2 := m3.1 g3
      have m2 := M.expr h2
      have g1 := m2.1 g2
      obtain ⟨u1, e1, S1, p1⟩ := S.begin E h1 g1 (by decide) (by omega)
      have d1 : u1.depth = s2.depth + 1 := by have := S.dp; have := S1.dp; omega
      obtain ⟨u2, e2, S2⟩ := ih.expr S1 h2 g2 (by omega)
      have hk : sg ≠ 0 ∨ t3.next < N := by
        rcases S2.toks E with ⟨hl, tt, q1, q2, q3, q4⟩ | ⟨hN, t, u, q1, q2, q3, q4⟩
        · rw [takeAnyS, q1, Option.bind_some] at h3
          split at h3
          · obtain ⟨⟨c9, s9⟩, q9, h3⟩ := Option.bind_eq_some_iff.1 h3
            cases h3
            obtain ⟨w1, w2, _, _⟩ := takeS_fine q9 g3 (by decide)
            exact .inl (by simp [w2])
          · rw [takeAnyS] at h3
            cases h3
            exact .inr hl
        · exfalso
          rw [takeAnyS, q1, Option.bind_some, if_neg (by rw [q3]; decide), takeAnyS] at h3
          cases h3
          obtain ⟨w1, w2, _, _⟩ := takeS_fine h5 g5 (by decide)
          rw [q1] at w1
          cases w1
          rw [q3] at w2
          cases w2
      have hl2 : t2.next < N := S2.one E (by decide) h3 hk
      obtain ⟨u3, e3, S3, p3⟩ := S2.takeAny E (by simp) (.inr hl2) h3 g3
      obtain ⟨_, _, u5, e5, S5, p5⟩ := S3.take E h5 g5 (by decide)
      obtain ⟨u6, e6, S6, _⟩ := S5.end h6
      refine ⟨u6, ?_, S6⟩
      simp only [bracketS, e1, e2, e3, e5, e6, Option.bind_some, if_neg q]
      rfl

theorem sim_all (E : Emb l1 l2 ts1 ts2 o m N) : ∀ n, SAll l1 l2 ts1 ts2 o N dd m n
  | 0 => by constructor <;> (intros; rename_i h _ _; simp [exprS, letS, funS, condS, cmpS, sumS, termS, partS, chainS, chainFromS, callS, callFromS, atomS, bracketS] at h)
  | n + 1 => sim_step E (sim_all E n)

end Go.Proofs.YtckhafpejefbbaaGreatDoor.Tw

/- Trees whose places and numbers are moved: the parser; what names, weights and types make of them. -/
namespace Go.Proofs.YtckhafpejefbbaaGreatDoor.Tw
open Go

theorem Emb.of_map {l1 l2 : List UInt8} {m : Mv} {body : List Tok} (h : ∀ t ∈ body, t.sort ≠ 0 ∧ TokIn l1 l2 m t) {e1 e2 : Tok} (h1 : e1.sort = 0) (h2 : stopSort e2.sort = true) (pre post : List Tok) (hf : body.length + pre.length ≤ 300) :
    Emb l1 l2 (body ++ [e1]) (pre ++ (body.map (Tok.re m) ++ e2 :: post)) pre.length m body.length := by
  refine ⟨fun i hi => ?_, ⟨e1, by simp, h1⟩, ⟨e2, ?_, h2⟩, hf⟩
  · have hb : body[i]? = some body[i] := List.getElem?_eq_getElem hi
    refine ⟨body[i], by rw [List.getElem?_append_left hi, hb], ?_, (h _ (List.getElem_mem hi)).1, (h _ (List.getElem_mem hi)).2⟩
    rw [List.getElem?_append_right (by omega), Nat.add_sub_cancel, List.getElem?_append_left (by simpa using hi), List.getElem?_map, hb]
    rfl
  · rw [List.getElem?_append_right (by omega), Nat.add_sub_cancel, List.getElem?_append_right (by simp)]
    simp

theorem parse_re {l1 l2 : List UInt8} {m : Mv} {body : List Tok} (h : ∀ t ∈ body, t.sort ≠ 0 ∧ TokIn l1 l2 m t) {e1 e2 : Tok} (h1 : e1.sort = 0) (h2 : e2.sort = 0) (hf : body.length ≤ 300) {fuel : Nat} {t : T} (hp : parseS l1 (body ++ [e1]) fuel = some (.ok t)) (hd : t.deep ≤ 40) :
    parseS l2 (body.map (Tok.re m) ++ [e2]) fuel = some (.ok (t.re m)) := by
  have E : Emb l1 l2 (body ++ [e1]) (body.map (Tok.re m) ++ [e2]) 0 m body.length := by
    have := Emb.of_map h h1 (e2 := e2) (by rw [h2]; decide) [] [] (by simpa using hf)
    simpa using this
  unfold parseS at hp
  obtain ⟨⟨x, s1⟩, hx, hp⟩ := Option.bind_eq_some_iff.1 hp
  obtain ⟨⟨k, s2⟩, hk, hp⟩ := Option.bind_eq_some_iff.1 hp
  simp only [Option.some.injEq] at hp hk
  have hs2 : s2.stuck = false := by
    cases hq : s2.stuck
    · rfl
    · rw [hq] at hp; simp at hp
  rw [hs2] at hp
  simp only [Bool.false_eq_true, if_false, Except.ok.injEq] at hp
  subst hp
  have hs1 := (takeS_mild hk).1 hs2
  have S0 : Sim 0 0 body.length ⟨0, 0, false, 0⟩ ⟨0, 0, false, 0⟩ := ⟨rfl, rfl, rfl, rfl, Nat.zero_le _⟩
  obtain ⟨s3, e3, S3⟩ := (sim_all E fuel).expr S0 hx hs1 (by simpa using hd)
  have hN : s1.next = body.length := by
    rcases S3.toks E with ⟨_, tt, q1, _, q3, _⟩ | ⟨hN, _⟩
    · exfalso
      unfold takeS at hk
      rw [q1, Option.bind_some] at hk
      rw [if_neg q3] at hk
      obtain ⟨s9, q9, hk⟩ := Option.bind_eq_some_iff.1 hk
      cases hk
      rw [(failS_stuck q9).1] at hs2
      cases hs2
    · exact hN
  have ht : tokS (body.map (Tok.re m) ++ [e2]) s3 = some e2 := by
    unfold tokS
    rw [S3.k2, S3.nx, hN]
    simp
  unfold parseS
  rw [e3, Option.bind_some]
  have hk3 : takeS (body.map (Tok.re m) ++ [e2]) 0 s3 = some (e2, s3) := by
    unfold takeS
    rw [ht, Option.bind_some, if_pos h2, if_pos rfl]
  rw [hk3, Option.bind_some]
  simp [S3.k2]

theorem piece_mid (x y z : List UInt8) {a b : Nat} (h : b ≤ y.length) : piece (x ++ (y ++ z)) (x.length + a) (x.length + b) = piece y a b := by
  unfold piece
  rw [show x.length + b - (x.length + a) = b - a from by omega, List.drop_append, List.drop_of_length_le (by omega), List.nil_append, show x.length + a - x.length = a from by omega, List.drop_append, List.take_append]
  by_cases hab : a ≤ b
  · rw [show b - a - (y.drop a).length = 0 from by simp; omega]
    simp
  · rw [show b - a = 0 from by omega]
    simp

def En.re (m : Mv) : En → En
  | .nil => .nil
  | .fix n r o => .fix n r (o.re m)
  | .dfn n t o => .dfn n (t.re m) (o.re m)

theorem En.look_re (m : Mv) (x : List UInt8) : ∀ e : En, (e.re m).look x = (e.look x).map (fun | .inl r => .inl r | .inr (t, o) => .inr (t.re m, o.re m))
  | .nil => rfl
  | .fix n r o => by
    simp only [En.re, En.look]
    split
    · rfl
    · exact En.look_re m x o
  | .dfn n t o => by
    simp only [En.re, En.look]
    split
    · rfl
    · exact En.look_re m x o

def T.boundS : T → List (List UInt8) → Bool
  | .name _ _ x, e => e.contains x
  | .int .., _ => true
  | .truth .., _ => true
  | .side .., _ => true
  | .bracket _ _ i, e => i.boundS e
  | .pair _ _ l r, e => l.boundS e && r.boundS e
  | .call _ _ l r, e => l.boundS e && r.boundS e
  | .binary _ _ _ l r, e => l.boundS e && r.boundS e
  | .cond _ _ c t f, e => c.boundS e && (t.boundS e && f.boundS e)
  | .fn _ _ bn _ b, e => b.boundS (bn :: e)
  | .lett _ _ rc bn _ d b, e => d.boundS (if rc then bn :: e else e) && b.boundS (bn :: e)

end Go.Proofs.YtckhafpejefbbaaGreatDoor.Tw
