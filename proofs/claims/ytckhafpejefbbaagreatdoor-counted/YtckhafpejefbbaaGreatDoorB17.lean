/- Texts of the proof, put together: Keep, Digits, RecFine, CntThy, CntThy2, CntThy3, CntFine, CntU, RecWalk, CntWalk, CntSum. -/
import Derived.Test.YtckhafpejefbbaaGreatDoorB16
import Derived.Deep.RegionHeld3

/- Package tailorkeep: pick, open, awake. -/
namespace Go.Proofs.YtckhafpejefbbaaGreatDoor
open Go.RowKit

theorem tmod_nat (x : Int) (n : Nat) (hx : 0 ≤ x) (hn : 0 < n) : ∃ r : Nat, x.tmod n = r ∧ r < n := by
  refine ⟨(x.tmod n).toNat, ?_, ?_⟩
  · rw [Int.tmod_eq_emod_of_nonneg hx]
    have := Int.emod_nonneg x (show (n : Int) ≠ 0 by omega)
    omega
  · rw [Int.tmod_eq_emod_of_nonneg hx]
    have := Int.emod_nonneg x (show (n : Int) ≠ 0 by omega)
    have := Int.emod_lt_of_pos x (show (0 : Int) < n by omega)
    omega

set_option maxRecDepth 100000 in
set_option maxHeartbeats 1000000 in
theorem pick_any (c : Int) (n : Nat) (h0 : -9223372036854775808 ≤ c) (h1 : c ≤ 9223372036854775807) (hn : 0 < n) (hn2 : n ≤ 1000000) (w : World) :
    Calls Tryz.prog 17 #[.int .i64 c, .int .i64 n] w fun e w' => ∃ r : Nat, e = .returned (.int .i64 r) ∧ r < n ∧ w = w' := by
  have hz : ((n : Int) == 0) = false := by simp; omega
  have hn0 : (n : Int) ≠ 0 := by omega
  by_cases hc : c < 0
  · obtain ⟨r, hr, hr2⟩ := tmod_nat (-(c + 1)) n (by omega) hn
    rw [Int.neg_tmod] at hr
    go_enter Tryz.func17, Tryz.ntmps17
    go_wp2_with fail
    go_ret
    exact ⟨r, rfl, hr2, rfl⟩
  · obtain ⟨r, hr, hr2⟩ := tmod_nat c n (by omega) hn
    go_enter Tryz.func17, Tryz.ntmps17
    go_wp2_with fail
    go_ret
    exact ⟨r, rfl, hr2, rfl⟩

set_option maxRecDepth 100000 in
set_option maxHeartbeats 1000000 in
theorem kopen_fine (hIB : Said.IndexByte) (hPI : Said.ParseInt) {S : List TypeId} {t : Tw.T} {shown : List UInt8} {s : ByteArray} (hF : Fine S s t shown) (w : World) :
    Calls Tryz.prog 19 #[.string s] w fun e w' => ∃ bt, e = .returned (.pointer (some ⟨bt, 0, none⟩)) ∧ TextAt w' bt s t ∧ TK w.heap.size S w w' := by
  go_enter Tryz.func19, Tryz.ntmps19
  go_wp2_with fail
  refine (Open_fine hIB hPI hF w).mono ?_
  rintro e1 w1 ⟨bt, rfl, hT, hk⟩
  have T1 := hide hT
  have K1 := hide hk
  clear hT hk
  go_wp2_with fail
  refine (Source_any (unhide T1)).mono ?_
  rintro e1 w2 ⟨rfl, rfl⟩
  go_wp2_with fail
  go_ret
  exact ⟨bt, rfl, unhide T1, unhide K1⟩

/-- The library's contracts that are used. -/
structure Lib4 : Prop where
  ib : Said.IndexByte
  pi : Said.ParseInt
  fi : Said.FormatInt
  fb : Said.FormatBool

def intB (fuel : Nat) (t : Tw.T) : Bool :=
  match Tw.inferS fuel t .nil ss0 with
  | some (r, st1) => !st1.clash && (match Tw.endlessS fuel st1 with
    | some (false, st2) => (match Tw.findS fuel st2 r with
      | some (p, st3) => (match st3.shs[p]? with
        | some x => decide (x.sort = 1)
        | none => false)
      | none => false)
    | _ => false)
  | none => false

theorem intTyped_of {fuel : Nat} {t : Tw.T} (h : intB fuel t = true) : IntTyped t := by
  unfold intB at h
  split at h
  · rename_i r st1 h1
    simp only [Bool.and_eq_true, Bool.not_eq_true'] at h
    obtain ⟨h2, h⟩ := h
    split at h
    · rename_i st2 h3
      split at h
      · rename_i p st3 h4
        split at h
        · rename_i x h5
          exact ⟨fuel, r, p, st1, st2, st3, x, h1, h2, h3, h4, h5, of_decide_eq_true h⟩
        · cases h
      · cases h
    · cases h
  · cases h

def txA : ByteArray := ⟨#[40, 102, 117, 110, 32, 120, 32, 45, 62, 32, 120, 32, 43, 32, 49, 41, 32, 52]⟩
def tA : Tw.T := .call 0 18 (.bracket 0 16 (.fn 1 15 [120] 5 (.binary 10 15 19 (.name 10 11 [120]) (.int 14 15 1)))) (.int 17 18 4)
def toksA : List Tw.Tok := [⟨16, 0, 1⟩, ⟨6, 1, 4⟩, ⟨1, 5, 6⟩, ⟨14, 7, 9⟩, ⟨1, 10, 11⟩, ⟨19, 12, 13⟩, ⟨2, 14, 15⟩, ⟨17, 15, 16⟩, ⟨2, 17, 18⟩, ⟨0, 18, 18⟩]

theorem splitA : Tw.split txA.data.toList = .ok toksA := by kernel_rfl
theorem parseA : Tw.parseS txA.data.toList toksA 100 = some (.ok tA) := by kernel_rfl
theorem weightA : Tw.weightS tA .nil = some 7 := by kernel_rfl
theorem boundA : tA.boundS [] = true := by kernel_rfl
theorem intA : intB 100 tA = true := by kernel_rfl
theorem told_num {v : Nat} (hv : v < 10 ^ 18) : Tw.toldS 400 (Tw.writeV (.num v) []) = Lib.decDigits v := by
  have hl := decDigits_len 17 v hv
  have e : Lib.itoa (v : Int) = Lib.decDigits v := by
    unfold Lib.itoa
    rw [if_neg (by omega)]
    simp
  unfold Tw.writeV
  rw [if_neg (by simp), Tw.putS, if_neg (by simp), List.nil_append, e, Tw.toldS, if_neg (by omega)]

theorem runA : Tw.runS 100 tA 5 = some (0, 1, [53]) := by
  have : Tw.evalS 5 100 tA [] ⟨[], 0, 0⟩ = some (some (.num (5 : Nat)), ⟨[some (.num 4)], 1, 0⟩) := by kernel_rfl
  rw [Tw.runS, this, Option.bind_some]
  simp only
  rw [told_num (by decide), show Lib.decDigits 5 = [53] from by unfold Lib.decDigits; rfl]

theorem fineA : Fine ShS txA tA [105, 110, 116] := ⟨by decide, ⟨toksA, 100, splitA, parseA⟩, allBound_of boundA, ⟨7, weightA, by omega⟩, (intTyped_of intA).said, by decide⟩

/-- What a law's calls may turn of blocks of their own. -/
abbrev LawS : List TypeId := [128, 334, 329, 5, 311, 117]

theorem three_new (w : World) (x y z : Value) (t : TypeId) : (w.alloc (.cells #[x, y, z] t)).heap[w.heap.size]? = some (.cells #[x, y, z] t (0, 0)) := new_block w _

set_option maxRecDepth 100000 in
set_option maxHeartbeats 2000000 in
theorem awake_any (L : Lib4) {w : World} (hT : Tab w) (hG : 1 < w.heap.size) :
    Calls Tryz.prog 15 #[] w fun e w' => e = .returned (.bool true) ∧ TK w.heap.size LawS w w' := by
  have HT := hide hT
  clear hT
  go_enter Tryz.func15, Tryz.ntmps15
  go_wp2_with fail
  refine (kopen_fine L.ib L.pi fineA w).mono ?_
  rintro e1 w1 ⟨bt, rfl, hX, hk⟩
  have X1 := hide hX
  have K1 := hide (hk.sub (S' := LawS) (by decide))
  have z1 := hk.size
  clear hX hk
  go_wp2_with fail
  refine (Run_any L.fi L.fb 5 (unhide X1) ((unhide HT).tk (unhide K1) hG) (by omega) (show Tw.runS 100 tA (budget 5) = some (0, 1, [53]) from runA)).mono ?_
  rintro e1 w2 ⟨rfl, hk⟩
  have z2 := hk.size
  have K2 := hide ((unhide K1).trans ((hk.base z1).sub (by decide)))
  have X2 := hide ((unhide X1).tk hk (by decide))
  clear hk
  go_wp2_with fail
  have G2 : Hid (w2.grownBy (w2.alloc (.cells #[.int .i64 0, .int .i64 1, .string ⟨#[53]⟩] 39)) none) := World.grownBy_alloc _ _ none
  refine (Type_any (S := ShS) ((unhide X2).tk (TK.of_grown 0 ShS G2.out) (by decide)) fineA.of).mono ?_
  rintro e1 w3 ⟨rfl, hk⟩
  have K3 := hide (((unhide K2).trans (TK.of_grown _ _ G2.out)).trans ((hk.base (by have := G2.out.size; omega)).sub (S' := LawS) (by decide)))
  have C3 := hk.cells (three_new w2 (.int .i64 0) (.int .i64 1) (.string ⟨#[53]⟩) 39) (by decide)
  obtain ⟨c0, c1, c2, _, _, _⟩ := three_cells C3
  clear hk C3
  go_wp2_with fail
  go_ret
  exact ⟨rfl, unhide K3⟩

end Go.Proofs.YtckhafpejefbbaaGreatDoor

/- tailorkeep.digits. -/
namespace Go.Proofs.YtckhafpejefbbaaGreatDoor
open Go.RowKit

theorem byte_string (w : World) (c : UInt8) : (convert 66 9 (.slice (some ⟨w.heap.size, 0, none⟩) 1 1)).run Tryz.prog (w.alloc (.cells #[.int .u8 c.toNat] 5)) = .ok (bytesV [c]) (w.alloc (.cells #[.int .u8 c.toNat] 5)) := by
  have := run_convert_bytes_back (P := Tryz.prog) (w.alloc (.cells #[.int .u8 c.toNat] 5)) 66 9 5 ⟨w.heap.size, 0, none⟩ 1 [c] Tryz.underlying66 Tryz.underlying5 Tryz.underlying9 (by
    intro j hj
    have : j = 0 := by simpa using hj
    subst this
    rw [show (Addr.add ⟨w.heap.size, 0, none⟩ 0) = (⟨w.heap.size, 0, none⟩ : Addr) from by simp [Addr.add]]
    exact (one_cell (new_block w _)).1)
  exact this

/-- What digits has come to: x is left, acc stands. -/
def DigRel (u x : Nat) (acc : List UInt8) : Prop := (acc = [] ∧ x = u) ∨ (acc ≠ [] ∧ Lib.decDigits u = (if x = 0 then acc else Lib.decDigits x ++ acc))

theorem DigRel.step {u x : Nat} {acc : List UInt8} (h : DigRel u x acc) (hx : 0 < x ∨ acc = []) : DigRel u (x / 10) (UInt8.ofNat (48 + x % 10) :: acc) := by
  refine .inr ⟨by simp, ?_⟩
  have e : Lib.decDigits u = Lib.decDigits x ++ acc := by
    rcases h with ⟨rfl, rfl⟩ | ⟨ha, h⟩
    · simp
    · rcases hx with hx | hx
      · rw [h, if_neg (by omega)]
      · exact absurd hx ha
  rw [e]
  by_cases h10 : x < 10
  · rw [if_pos (by omega)]
    have : Lib.decDigits x = [UInt8.ofNat (48 + x)] := by unfold Lib.decDigits; rw [dif_pos h10]
    rw [this, show x % 10 = x from by omega]
    rfl
  · rw [if_neg (by omega)]
    have : Lib.decDigits x = Lib.decDigits (x / 10) ++ [UInt8.ofNat (48 + x % 10)] := by
      conv => lhs; unfold Lib.decDigits
      rw [dif_neg h10]
    rw [this, List.append_assoc]
    rfl

theorem DigRel.done {u x : Nat} {acc : List UInt8} (h : DigRel u x acc) (hx : x = 0) (ha : acc ≠ []) : acc = Lib.decDigits u := by
  rcases h with ⟨h, _⟩ | ⟨_, h⟩
  · exact absurd h ha
  · rw [h, if_pos hx]

theorem DigRel.len {u x : Nat} {acc : List UInt8} (h : DigRel u x acc) (hu : u < 9223372036854775808) : acc.length ≤ 19 := by
  have hl := (decDigits_len 18 u (by omega)).2
  rcases h with ⟨rfl, _⟩ | ⟨_, h⟩
  · simp
  · rw [h] at hl
    split at hl
    · exact hl
    · simp at hl
      omega

theorem push_byte (c : Nat) (acc : List UInt8) : Value.string ({ data := #[48 + UInt8.ofNat c] } ++ { data := acc.toArray }) = bytesV (UInt8.ofNat (48 + c) :: acc) := by
  have e : (48 + UInt8.ofNat c : UInt8) = UInt8.ofNat (48 + c) := by simp [UInt8.ofNat_add]
  rw [e]
  rfl

set_option maxRecDepth 100000 in
set_option maxHeartbeats 2000000 in
theorem digits_big (u : Nat) (hu : u < 9223372036854775808) (w : World) : Calls Tryz.prog 20 #[.int .i64 u] w fun e w' => e = .returned (bytesV (Lib.decDigits u)) ∧ w.grownBy w' none := by
  go_enter Tryz.func20, Tryz.ntmps20
  go_wp2_with fail
  go_loopg [0, 3] (u + 2) (fun j nv sv wr => ∃ (x : Nat) (acc : List UInt8), nv = .int .i64 x ∧ sv = bytesV acc ∧ x ≤ u ∧ j = x + (if acc = [] then 2 else 1) ∧ Hid (DigRel u x acc) ∧ Hid (w.grownBy wr none))
  case atStart => exact ⟨u, [], rfl, rfl, Nat.le_refl _, by simp, .inl ⟨rfl, rfl⟩, grown_refl _⟩
  case round =>
    obtain ⟨x, acc, rfl, rfl, hxu, hj, HD, HG⟩ := hrel
    have hcv := byte_string wr (UInt8.ofNat (48 + x % 10))
    have hc : ((UInt8.ofNat (48 + x % 10)).toNat : Int) = 48 + (x : Int) % 10 := by
      simp [UInt8.toNat_ofNat]
      omega
    rw [hc] at hcv
    have hxs : x < 9223372036854775808 := by omega
    have hal := (unhide HD).len hu
    have has : acc.toArray.size ≤ 19 := by simpa using hal
    have GA : Hid (w.grownBy (wr.alloc (.cells #[.int .u8 (48 + (x : Int) % 10)] 5)) none) := grown_alloc HG.out _
    by_cases hx : 0 < x
    · have hxi : (0 : Int) < x := by omega
      have D2 := hide ((unhide HD).step (.inl hx))
      go_wp2_with fail
      go_roundg (x / 10 + 1)
      case measure => subst hj; split <;> omega
      case rel => exact ⟨x / 10, UInt8.ofNat (48 + x % 10) :: acc, by go_num, push_byte _ _, by omega, by simp, D2, GA⟩
    · have hx0 : x = 0 := by omega
      subst hx0
      cases acc with
      | nil =>
        have D2 := hide ((unhide HD).step (.inr rfl))
        have hcv0 : (convert 66 9 (.slice (some ⟨wr.heap.size, 0, none⟩) 1 1)).run Tryz.prog (wr.alloc (.cells #[.int .u8 48] 5)) = .ok (bytesV [48]) (wr.alloc (.cells #[.int .u8 48] 5)) := byte_string wr 48
        have GA0 : Hid (w.grownBy (wr.alloc (.cells #[.int .u8 48] 5)) none) := grown_alloc HG.out _
        clear hcv GA
        go_wp2_with fail
        go_roundg 1
        case measure => subst hj; simp
        case rel => exact ⟨0, UInt8.ofNat (48 + 0 % 10) :: [], rfl, rfl, by omega, by simp, D2, GA0⟩
      | cons b l =>
        have R := hide ((unhide HD).done rfl (by simp))
        go_wp2_with fail
        go_ret
        exact ⟨by rw [← unhide R]; rfl, HG.out⟩

theorem digits_any (u : Nat) (hu : u < 10 ^ 18) (w : World) : Calls Tryz.prog 20 #[.int .i64 u] w fun e w' => e = .returned (bytesV (Lib.decDigits u)) ∧ w.grownBy w' none := digits_big u (by omega) w

end Go.Proofs.YtckhafpejefbbaaGreatDoor

/- The text of Recursive is fine: its type, its two runs. -/
namespace Go.Proofs.YtckhafpejefbbaaGreatDoor
open Go.RowKit

def dig3 (u : Nat) : List UInt8 := if u < 10 then [UInt8.ofNat (48 + u)] else if u < 100 then [UInt8.ofNat (48 + u / 10), UInt8.ofNat (48 + u % 10)] else [UInt8.ofNat (48 + u / 100), UInt8.ofNat (48 + u / 10 % 10), UInt8.ofNat (48 + u % 10)]

theorem decDigits_dig3 {u : Nat} (h : u < 1000) : Lib.decDigits u = dig3 u := by
  unfold dig3
  by_cases h1 : u < 10
  · rw [if_pos h1]
    unfold Lib.decDigits
    rw [dif_pos h1]
  · rw [if_neg h1]
    unfold Lib.decDigits
    rw [dif_neg h1]
    by_cases h2 : u < 100
    · rw [if_pos h2]
      unfold Lib.decDigits
      rw [dif_pos (by omega)]
      rfl
    · rw [if_neg h2]
      unfold Lib.decDigits
      rw [dif_neg (by omega)]
      unfold Lib.decDigits
      rw [dif_pos (by omega), show u / 10 / 10 = u / 100 from by omega]
      rfl

theorem dig3_value : ∀ u : Fin 200, Tw.valueS (dig3 u.1) = some (u.1 : Int) := by decide +kernel
theorem dig3_digits : ∀ u : Fin 200, (dig3 u.1).all (fun c => Tw.digitI c.toNat) = true := by decide +kernel
theorem dig3_len (u : Nat) : 1 ≤ (dig3 u).length ∧ (dig3 u).length ≤ 3 := by
  unfold dig3
  split
  · simp
  · split <;> simp

structure Dig (u : Nat) (d : List UInt8) : Prop where
  val : Tw.valueS d = some (u : Int)
  dig : ∀ c ∈ d, Tw.digitI c.toNat = true
  pos : 1 ≤ d.length
  len : d.length ≤ 3
  ne : d ≠ []

theorem dig_of {u : Nat} (h : u < 200) : Dig u (Lib.decDigits u) := by
  rw [decDigits_dig3 (by omega)]
  have hl := dig3_len u
  exact ⟨dig3_value ⟨u, h⟩, List.all_eq_true.1 (dig3_digits ⟨u, h⟩), hl.1, hl.2, by intro e; rw [e] at hl; simp at hl⟩

theorem tR_whole (lk ln : Nat) (K N : Int) : ∃ a, Tw.tR lk ln K N = Tw.wholeT a K N := by
  let m := Tw.mR lk ln K N
  exact ⟨fun i => ([m.fr 21, m.to 55, m.fr 24, m.to 29, m.fr 24, m.to 25, m.fr 28, m.to 29, m.fr 35, m.to 36, m.fr 42, m.to 55, m.fr 42, m.to 43, m.fr 46, m.to 55, m.fr 46, m.to 47, m.fr 48, m.to 55, m.fr 49, m.to 54, m.fr 49, m.to 50, m.fr 53, m.to 54, 0, 0, 0, 0, m.fr 0, m.to 62, m.fr 8, m.fr 12, m.to 55, m.fr 16, m.fr 59, m.to 62, m.fr 59, m.to 60, m.fr 61, m.to 62] : List Nat).getD i 0, rfl⟩

theorem tri_eq (K : Nat) : ∀ j : Nat, Tw.tri K j = ((K + j * (j + 1) / 2 : Nat) : Int)
  | 0 => by simp [Tw.tri]
  | j + 1 => by
    simp only [Tw.tri, tri_eq K j]
    have : (j + 1) * (j + 1 + 1) = j * (j + 1) + 2 * (j + 1) := by rw [Nat.add_mul, Nat.mul_add, Nat.mul_add]; omega
    rw [this]
    omega

theorem run_done {lk ln K N : Nat} (hK : K < 50) (hN : N < 200) : Tw.runS 4000 (Tw.tR lk ln K N) (N + 1) = some (0, N + 1, Lib.decDigits (K + N * (N + 1) / 2)) := by
  obtain ⟨a, ha⟩ := tR_whole lk ln K N
  obtain ⟨sl, h⟩ := Tw.rec_whole (a := a) (K := (K : Int)) (by omega) (by omega) (N := N) (bud := N + 1) (by omega)
  have hv : K + N * (N + 1) / 2 < 10 ^ 18 := by
    have : N * (N + 1) ≤ 200 * 200 := Nat.mul_le_mul (by omega) (by omega)
    omega
  rw [Tw.runS, ha, h, if_pos (by omega), Option.bind_some]
  simp only
  rw [tri_eq, told_num hv, Nat.add_comm 1 N]

theorem run_ends {lk ln K N : Nat} (hK : K < 50) (hN : N < 200) : Tw.runS 4000 (Tw.tR lk ln K N) N = some (2, N, []) := by
  obtain ⟨a, ha⟩ := tR_whole lk ln K N
  obtain ⟨sl, h⟩ := Tw.rec_whole (a := a) (K := (K : Int)) (by omega) (by omega) (N := N) (bud := N) (by omega)
  rw [Tw.runS, ha, h, if_neg (by omega), Option.bind_some]

theorem intR0 : intB 300 Tw.tR0 = true := by kernel_rfl
theorem intR (lk ln : Nat) (K N : Int) : IntTyped (Tw.tR lk ln K N) := by
  refine intTyped_of (fuel := 300) ?_
  have e : Tw.inferS 300 (Tw.tR lk ln K N) .nil ss0 = Tw.inferS 300 Tw.tR0 .nil ss0 := (Tw.inferS_re (Tw.mR lk ln K N) 300).1 Tw.tR0 .nil ss0
  have h := intR0
  unfold intB at h ⊢
  rw [e]
  exact h

/-- The text of Recursive, as it is put together. -/
def txR (dk dn : List UInt8) : ByteArray := ⟨(Tw.textR dk dn).toArray⟩

theorem fineR {K N : Nat} (hK : K < 50) (hN : N < 200) : Fine ShS (txR (Lib.decDigits K) (Lib.decDigits N)) (Tw.tR (Lib.decDigits K).length (Lib.decDigits N).length K N) [105, 110, 116] := by
  have dK := dig_of (u := K) (by omega)
  have dN := dig_of (u := N) hN
  have hlen := Tw.textR_len (Lib.decDigits K) (Lib.decDigits N)
  have hk := dK.len
  have hn := dN.len
  refine ⟨?_, ?_, allBound_of (Tw.boundR _ _ _ _), ⟨31, by rw [Tw.weightR, Tw.weightR0], by omega⟩, (intR _ _ _ _).said, by decide⟩
  · show (Tw.textR _ _).toArray.size ≤ 300
    rw [List.size_toArray, hlen]
    omega
  · refine ⟨_, 200, Tw.splitR dK.ne dK.dig (by omega) dN.ne dN.dig (by omega), ?_⟩
    exact Tw.parseR dK.pos dN.pos dK.val dN.val _ rfl

end Go.Proofs.YtckhafpejefbbaaGreatDoor

/- Counted's texts as plain things: an expression of Ints, its bytes, its tokens, its tree. -/
namespace Go.Proofs.YtckhafpejefbbaaGreatDoor.Tw
open Go Go.RowKit

inductive Ex where
  | num (n : Nat)
  | two (minus : Bool) (a b : Ex)
  | mul (a b : Ex)
  | low (a b : Ex)

def Ex.bytes : Ex → List UInt8
  | .num n => Lib.decDigits n
  | .two m a b => 40 :: (a.bytes ++ (32 :: (if m then 45 else 43) :: 32 :: (b.bytes ++ [41])))
  | .mul a b => [40, 40, 102, 117, 110, 32, 118, 32, 45, 62, 32, 118, 41] ++ (32 :: (a.bytes ++ (32 :: 42 :: 32 :: (b.bytes ++ [41]))))
  | .low a b => [40, 105, 102] ++ (32 :: (a.bytes ++ (32 :: 60 :: 32 :: (b.bytes ++ ([32, 116, 104, 101, 110] ++ (32 :: (a.bytes ++ ([32, 101, 108, 115, 101] ++ (32 :: (b.bytes ++ [41])))))))))) 

def Ex.len : Ex → Nat
  | .num n => (Lib.decDigits n).length
  | .two _ a b => a.len + b.len + 5
  | .mul a b => a.len + b.len + 18
  | .low a b => 2 * a.len + 2 * b.len + 20

theorem Ex.bytes_len : ∀ e : Ex, e.bytes.length = e.len
  | .num n => rfl
  | .two m a b => by simp only [bytes, len, List.length_cons, List.length_append, List.length_nil, bytes_len a, bytes_len b]; omega
  | .mul a b => by simp only [bytes, len, List.length_cons, List.length_append, List.length_nil, bytes_len a, bytes_len b]; omega
  | .low a b => by simp only [bytes, len, List.length_cons, List.length_append, List.length_nil, bytes_len a, bytes_len b]; omega

def Ex.toks : Ex → Nat → List Tok
  | .num n, o => [⟨2, o, o + (Lib.decDigits n).length⟩]
  | .two m a b, o => ⟨16, o, o + 1⟩ :: (a.toks (o + 1) ++ (⟨if m then 20 else 19, o + a.len + 2, o + a.len + 3⟩ :: (b.toks (o + a.len + 4) ++ [⟨17, o + a.len + b.len + 4, o + a.len + b.len + 5⟩])))
  | .mul a b, o => ⟨16, o, o + 1⟩ :: ⟨16, o + 1, o + 2⟩ :: ⟨6, o + 2, o + 5⟩ :: ⟨1, o + 6, o + 7⟩ :: ⟨14, o + 8, o + 10⟩ :: ⟨1, o + 11, o + 12⟩ :: ⟨17, o + 12, o + 13⟩ :: (a.toks (o + 14) ++ (⟨21, o + a.len + 15, o + a.len + 16⟩ :: (b.toks (o + a.len + 17) ++ [⟨17, o + a.len + b.len + 17, o + a.len + b.len + 18⟩])))
  | .low a b, o => ⟨16, o, o + 1⟩ :: ⟨7, o + 1, o + 3⟩ :: (a.toks (o + 4) ++ (⟨23, o + a.len + 5, o + a.len + 6⟩ :: (b.toks (o + a.len + 7) ++ (⟨8, o + a.len + b.len + 8, o + a.len + b.len + 12⟩ :: (a.toks (o + a.len + b.len + 13) ++
      (⟨9, o + a.len + b.len + a.len + 14, o + a.len + b.len + a.len + 18⟩ :: (b.toks (o + a.len + b.len + a.len + 19) ++ [⟨17, o + a.len + b.len + a.len + b.len + 19, o + a.len + b.len + a.len + b.len + 20⟩])))))))

def Ex.tree : Ex → Nat → T
  | .num n, o => .int o (o + (Lib.decDigits n).length) n
  | .two m a b, o => .bracket o (o + a.len + b.len + 5) (.binary (o + 1) (o + a.len + b.len + 4) (if m then 20 else 19) (a.tree (o + 1)) (b.tree (o + a.len + 4)))
  | .mul a b, o => .bracket o (o + a.len + b.len + 18) (.binary (o + 1) (o + a.len + b.len + 17) 21 (.call (o + 1) (o + a.len + 14) (.bracket (o + 1) (o + 13) (.fn (o + 2) (o + 12) [118] (o + 6) (.name (o + 11) (o + 12) [118]))) (a.tree (o + 14))) (b.tree (o + a.len + 17)))
  | .low a b, o => .bracket o (o + a.len + b.len + a.len + b.len + 20) (.cond (o + 1) (o + a.len + b.len + a.len + b.len + 19) (.binary (o + 4) (o + a.len + b.len + 7) 23 (a.tree (o + 4)) (b.tree (o + a.len + 7))) (a.tree (o + a.len + b.len + 13)) (b.tree (o + a.len + b.len + a.len + 19)))

theorem Ex.tree_fr (e : Ex) (o : Nat) : (e.tree o).fr = o := by cases e <;> rfl
theorem Ex.tree_to (e : Ex) (o : Nat) : (e.tree o).to = o + e.len := by cases e <;> simp [Ex.tree, T.to, Ex.len] <;> omega

/-- Numbers below 100 alone. -/
def Ex.ok : Ex → Prop
  | .num n => n < 100
  | .two _ a b | .mul a b | .low a b => a.ok ∧ b.ok

theorem sep32 (m : List UInt8) : sepH (32 :: m) := ⟨by decide, by decide⟩
theorem sep41 (m : List UInt8) : sepH (41 :: m) := ⟨by decide, by decide⟩

/-- A sign at the head. -/
theorem Lex.sign {off : Nat} {m : List UInt8} {ts : List Tok} (c : UInt8) (s : Int) (h1 : smallI c.toNat = false) (h2 : digitI c.toNat = false) (h3 : (c :: m).take 2 ≠ [45, 62]) (h4 : signI c.toNat = (s, 1)) (h5 : ¬ 0 < gapL (c :: m)) (h : Lex (off + 1) m ts) : Lex off (c :: m) (⟨s, off, off + 1⟩ :: ts) := by
  have e : firstL (c :: m) = (s, 1) := by
    have hh : headI (c :: m) = c.toNat := rfl
    unfold firstL
    rw [hh, if_neg (by simp [h1]), if_neg (by simp [h2]), if_neg h3, h4]
  have := Lex.tok (off := off) (m := c :: m) (ts := ts) (by simp) h5 (by rw [e]; simp) (by rw [e]; simpa using h)
  rw [e] at this
  simpa using this

theorem Lex.open_ {off : Nat} {m : List UInt8} {ts : List Tok} (h : Lex (off + 1) m ts) : Lex off (40 :: m) (⟨16, off, off + 1⟩ :: ts) :=
  Lex.sign 40 16 (by decide) (by decide) (by cases m <;> simp) (by decide) (by simp [gapL, headI]) h
theorem Lex.close_ {off : Nat} {m : List UInt8} {ts : List Tok} (h : Lex (off + 1) m ts) : Lex off (41 :: m) (⟨17, off, off + 1⟩ :: ts) :=
  Lex.sign 41 17 (by decide) (by decide) (by cases m <;> simp) (by decide) (by simp [gapL, headI]) h
theorem Lex.plus_ {off : Nat} {m : List UInt8} {ts : List Tok} (h : Lex (off + 1) m ts) : Lex off (43 :: m) (⟨19, off, off + 1⟩ :: ts) :=
  Lex.sign 43 19 (by decide) (by decide) (by cases m <;> simp) (by decide) (by simp [gapL, headI]) h
theorem Lex.minus_ {off : Nat} {m : List UInt8} {ts : List Tok} (h : Lex (off + 1) (32 :: m) ts) : Lex off (45 :: 32 :: m) (⟨20, off, off + 1⟩ :: ts) :=
  Lex.sign 45 20 (by decide) (by decide) (by simp) (by decide) (by simp [gapL, headI]) h
theorem Lex.star_ {off : Nat} {m : List UInt8} {ts : List Tok} (h : Lex (off + 1) m ts) : Lex off (42 :: m) (⟨21, off, off + 1⟩ :: ts) :=
  Lex.sign 42 21 (by decide) (by decide) (by cases m <;> simp) (by decide) (by simp [gapL, headI]) h
theorem Lex.less_ {off : Nat} {m : List UInt8} {ts : List Tok} (h : Lex (off + 1) m ts) : Lex off (60 :: m) (⟨23, off, off + 1⟩ :: ts) :=
  Lex.sign 60 23 (by decide) (by decide) (by cases m <;> simp) (by decide) (by simp [gapL, headI]) h

theorem lexFun : Lex 0 [40, 40, 102, 117, 110, 32, 118, 32, 45, 62, 32, 118, 41] [⟨16, 0, 1⟩, ⟨16, 1, 2⟩, ⟨6, 2, 5⟩, ⟨1, 6, 7⟩, ⟨14, 8, 10⟩, ⟨1, 11, 12⟩, ⟨17, 12, 13⟩] := lex_of_split (by kernel_rfl)
theorem lexIf : Lex 0 [40, 105, 102] [⟨16, 0, 1⟩, ⟨7, 1, 3⟩] := lex_of_split (by kernel_rfl)
theorem lexThen : Lex 0 [32, 116, 104, 101, 110] [⟨8, 1, 5⟩] := lex_of_split (by kernel_rfl)
theorem lexElse : Lex 0 [32, 101, 108, 115, 101] [⟨9, 1, 5⟩] := lex_of_split (by kernel_rfl)

theorem lexAt {o : Nat} {m : List UInt8} {ts : List Tok} (h : Lex 0 m ts) (us : List Tok) (e : ts.map (Tok.shift o) = us) : Lex o m us := by
  have := h.shift o
  rw [Nat.zero_add, e] at this
  exact this

theorem Ex.lex : ∀ (e : Ex) (o : Nat), e.ok → Lex o e.bytes (e.toks o)
  | .num n, o, h => by
    have d := dig_of (u := n) (by simp only [Ex.ok] at h; omega)
    have hl := d.len
    exact Lex.number (d := Lib.decDigits n) o d.ne d.dig (by omega)
  | .two m a b, o, h => by
    have ha := lex a (o + 1) h.1
    have hb := lex b (o + a.len + 4) h.2
    refine Lex.open_ (ha.append (sep32 _) (Lex.blank ?_))
    rw [bytes_len]
    have tail : Lex (o + a.len + 3) (32 :: (b.bytes ++ [41])) (b.toks (o + a.len + 4) ++ [⟨17, o + a.len + b.len + 4, o + a.len + b.len + 5⟩]) := by
      refine Lex.blank (hb.append (sep41 _) ?_)
      rw [bytes_len, show o + a.len + 4 + b.len = o + a.len + b.len + 4 from by omega]
      exact Lex.close_ (.nil _)
    rw [show o + 1 + a.len + 1 = o + a.len + 2 from by omega]
    cases m
    · exact Lex.plus_ tail
    · exact Lex.minus_ tail
  | .mul a b, o, h => by
    have ha := lex a (o + 14) h.1
    have hb := lex b (o + a.len + 17) h.2
    have hp := lexAt (o := o) lexFun [⟨16, o, o + 1⟩, ⟨16, o + 1, o + 2⟩, ⟨6, o + 2, o + 5⟩, ⟨1, o + 6, o + 7⟩, ⟨14, o + 8, o + 10⟩, ⟨1, o + 11, o + 12⟩, ⟨17, o + 12, o + 13⟩] (by simp [Tok.shift]; omega)
    refine hp.append (sep32 _) (Lex.blank ?_)
    refine ha.append (sep32 _) (Lex.blank ?_)
    rw [bytes_len, show o + 14 + a.len + 1 = o + a.len + 15 from by omega]
    refine Lex.star_ (Lex.blank ?_)
    refine hb.append (sep41 _) ?_
    rw [bytes_len, show o + a.len + 17 + b.len = o + a.len + b.len + 17 from by omega]
    exact Lex.close_ (.nil _)
  | .low a b, o, h => by
    have ha := lex a (o + 4) h.1
    have hb := lex b (o + a.len + 7) h.2
    have ha2 := lex a (o + a.len + b.len + 13) h.1
    have hb2 := lex b (o + a.len + b.len + a.len + 19) h.2
    have hi := lexAt (o := o) lexIf [⟨16, o, o + 1⟩, ⟨7, o + 1, o + 3⟩] (by simp [Tok.shift]; omega)
    have ht := lexAt (o := o + a.len + b.len + 7) lexThen [⟨8, o + a.len + b.len + 8, o + a.len + b.len + 12⟩] (by simp [Tok.shift]; omega)
    have he := lexAt (o := o + a.len + b.len + a.len + 13) lexElse [⟨9, o + a.len + b.len + a.len + 14, o + a.len + b.len + a.len + 18⟩] (by simp [Tok.shift]; omega)
    refine hi.append (sep32 _) (Lex.blank ?_)
    refine ha.append (sep32 _) (Lex.blank ?_)
    rw [bytes_len, show o + 4 + a.len + 1 = o + a.len + 5 from by omega]
    refine Lex.less_ (Lex.blank ?_)
    refine hb.append (sep32 _) ?_
    rw [bytes_len, show o + a.len + 7 + b.len = o + a.len + b.len + 7 from by omega]
    refine Lex.append (ts := [_]) (sep32 _) ht (Lex.blank ?_)
    refine ha2.append (sep32 _) ?_
    rw [bytes_len, show o + a.len + b.len + 13 + a.len = o + a.len + b.len + a.len + 13 from by omega]
    refine Lex.append (ts := [_]) (sep32 _) he (Lex.blank ?_)
    refine hb2.append (sep41 _) ?_
    rw [bytes_len, show o + a.len + b.len + a.len + 19 + b.len = o + a.len + b.len + a.len + b.len + 19 from by omega]
    exact Lex.close_ (.nil _)

end Go.Proofs.YtckhafpejefbbaaGreatDoor.Tw

/- Counted's texts are read as their trees. -/
namespace Go.Proofs.YtckhafpejefbbaaGreatDoor.Tw
open Go Go.RowKit

/-- us stands in ts from i on. -/
def Here {α : Type} (ts : List α) (i : Nat) (us : List α) : Prop := ∃ A B, ts = A ++ (us ++ B) ∧ A.length = i

theorem Here.head {α : Type} {ts : List α} {i : Nat} {u : α} {us : List α} (h : Here ts i (u :: us)) : ts[i]? = some u := by
  obtain ⟨A, B, rfl, rfl⟩ := h
  simp
theorem Here.tail {α : Type} {ts : List α} {i : Nat} {u : α} {us : List α} (h : Here ts i (u :: us)) : Here ts (i + 1) us := by
  obtain ⟨A, B, rfl, rfl⟩ := h
  exact ⟨A ++ [u], B, by simp, by simp⟩
theorem Here.left {α : Type} {ts : List α} {i : Nat} {us vs : List α} (h : Here ts i (us ++ vs)) : Here ts i us := by
  obtain ⟨A, B, rfl, rfl⟩ := h
  exact ⟨A, vs ++ B, by simp, rfl⟩
theorem Here.right {α : Type} {ts : List α} {i : Nat} {us vs : List α} (h : Here ts i (us ++ vs)) : Here ts (i + us.length) vs := by
  obtain ⟨A, B, rfl, rfl⟩ := h
  exact ⟨A ++ us, B, by simp, by simp⟩
theorem Here.len {α : Type} {ts : List α} {i : Nat} {us : List α} (h : Here ts i us) : i + us.length ≤ ts.length := by
  obtain ⟨A, B, rfl, rfl⟩ := h
  simp
theorem Here.piece {l : List UInt8} {o : Nat} {m : List UInt8} (h : Here l o m) : piece l o (o + m.length) = m := by
  obtain ⟨A, B, rfl, rfl⟩ := h
  unfold Tw.piece
  rw [List.drop_left, show A.length + m.length - A.length = m.length from by omega, List.take_left]

section
variable {l : List UInt8} {ts : List Tok}

abbrev at_ (i d : Nat) : PS := ⟨i, d, false, 0⟩

theorem tok_at (i d : Nat) : tokS ts (at_ i d) = ts[i]? := rfl

theorem take_at {i d : Nat} {t : Tok} (h : ts[i]? = some t) (h0 : t.sort ≠ 0) (hi : i ≤ 300) {s : Int} (hs : t.sort = s) : takeS ts s (at_ i d) = some (t, at_ (i + 1) d) := by
  subst hs
  rw [takeS, tok_at, h, Option.bind_some, if_pos rfl, if_neg h0, if_pos hi]

theorem any_hit {i d : Nat} {t : Tok} (h : ts[i]? = some t) (h0 : t.sort ≠ 0) (hi : i ≤ 300) : ∀ {L : List Int}, t.sort ∈ L → takeAnyS ts L (at_ i d) = some (t.sort, at_ (i + 1) d)
  | [], hm => by simp at hm
  | s :: L, hm => by
    rw [takeAnyS, tok_at, h, Option.bind_some]
    by_cases hs : t.sort = s
    · rw [if_pos hs, take_at h h0 hi hs, Option.bind_some]
    · rw [if_neg hs]
      exact any_hit h h0 hi (by simpa [hs] using hm)

theorem any_miss {i d : Nat} {t : Tok} (h : ts[i]? = some t) : ∀ {L : List Int}, t.sort ∉ L → takeAnyS ts L (at_ i d) = some (0, at_ i d)
  | [], _ => rfl
  | s :: L, hm => by
    rw [takeAnyS, tok_at, h, Option.bind_some, if_neg (by simp at hm; exact hm.1)]
    exact any_miss h (by simp at hm; simpa using hm.2)

theorem begin_at {i d : Nat} {t : Tok} (h : ts[i]? = some t) (h0 : t.sort ≠ 0) (hi : i ≤ 300) (hd : d < 40) {s : Int} (hs : t.sort = s) : beginS ts s (at_ i d) = some (t.fr, at_ (i + 1) (d + 1)) := by
  rw [beginS, if_neg (by show ¬ d = 40; omega), Option.bind_some, if_pos (by show d ≤ 300; omega)]
  have := take_at (d := d + 1) h h0 hi hs
  show (takeS ts s (at_ i (d + 1))).bind _ = _
  rw [this, Option.bind_some]

theorem end_at (i d : Nat) : endS (at_ i (d + 1)) = some (at_ i d) := by
  rw [endS, if_neg (by simp)]
  rfl

/-- An atom ends here: no chain goes on. -/
def stops (s : Int) : Prop := beginsAtom s = false ∧ s ≠ 19 ∧ s ≠ 20 ∧ s ≠ 21 ∧ s ≠ 22 ∧ s ≠ 23 ∧ s ≠ 15

/-- From fuel n on f gives r. -/
def Ev {α : Type} (n : Nat) (f : Nat → PS → Option α) (st : PS) (r : α) : Prop := ∀ k, n ≤ k → f k st = some r

theorem Ev.mono {α : Type} {n m : Nat} {f : Nat → PS → Option α} {st : PS} {r : α} (h : Ev n f st r) (hm : n ≤ m) : Ev m f st r := fun k hk => h k (by omega)

theorem ev_call {n i d j : Nat} {x : T} {t : Tok} (h : Ev n (atomS l ts) (at_ i d) (x, at_ j d)) (ht : ts[j]? = some t) (hb : beginsAtom t.sort = false) : Ev (n + 2) (callS l ts) (at_ i d) (x, at_ j d) := by
  intro k hk
  obtain ⟨k, rfl⟩ : ∃ k', k = k' + 2 := ⟨k - 2, by omega⟩
  show callS l ts (k + 2) _ = _
  rw [callS, h (k + 1) (by omega), Option.bind_some]
  show callFromS l ts (k + 1) x (at_ j d) = _
  rw [callFromS, tok_at, ht, Option.bind_some, if_neg (by simp [hb])]

/-- An atom and one more: a call. -/
theorem ev_call2 {n i d j j' : Nat} {x y : T} {t u : Tok} (h : Ev n (atomS l ts) (at_ i d) (x, at_ j d)) (ht : ts[j]? = some t) (hb : beginsAtom t.sort = true) (h' : Ev n (atomS l ts) (at_ j d) (y, at_ j' d)) (hu : ts[j']? = some u) (hub : beginsAtom u.sort = false) :
    Ev (n + 3) (callS l ts) (at_ i d) (.call x.fr y.to x y, at_ j' d) := by
  intro k hk
  obtain ⟨k, rfl⟩ : ∃ k', k = k' + 3 := ⟨k - 3, by omega⟩
  show callS l ts (k + 3) _ = _
  rw [callS, h (k + 2) (by omega), Option.bind_some]
  show callFromS l ts (k + 2) x (at_ j d) = _
  rw [callFromS, tok_at, ht, Option.bind_some, if_pos (by simp [hb]), h' (k + 1) (by omega), Option.bind_some]
  show callFromS l ts (k + 1) _ (at_ j' d) = _
  rw [callFromS, tok_at, hu, Option.bind_some, if_neg (by simp [hub])]

theorem ev_term {n i d j : Nat} {x : T} {t : Tok} (h : Ev n (callS l ts) (at_ i d) (x, at_ j d)) (ht : ts[j]? = some t) (h1 : t.sort ≠ 21) (h2 : t.sort ≠ 22) : Ev (n + 4) (termS l ts) (at_ i d) (x, at_ j d) := by
  intro k hk
  obtain ⟨k, rfl⟩ : ∃ k', k = k' + 4 := ⟨k - 4, by omega⟩
  show termS l ts (k + 4) _ = _
  rw [termS, chainS, partS, h (k + 1) (by omega), Option.bind_some]
  show chainFromS l ts (k + 2) .call [21, 22] x (at_ j d) = _
  rw [chainFromS, any_miss ht (by simp [h1, h2]), Option.bind_some, if_pos rfl]

/-- One product. -/
theorem ev_term2 {n i d j j' : Nat} {x y : T} {t u : Tok} (h : Ev n (callS l ts) (at_ i d) (x, at_ j d)) (ht : ts[j]? = some t) (h1 : t.sort = 21) (hj : j ≤ 300) (h' : Ev n (callS l ts) (at_ (j + 1) d) (y, at_ j' d)) (hu : ts[j']? = some u) (h3 : u.sort ≠ 21) (h4 : u.sort ≠ 22) :
    Ev (n + 5) (termS l ts) (at_ i d) (.binary x.fr y.to 21 x y, at_ j' d) := by
  intro k hk
  obtain ⟨k, rfl⟩ : ∃ k', k = k' + 5 := ⟨k - 5, by omega⟩
  show termS l ts (k + 5) _ = _
  rw [termS, chainS, partS, h (k + 2) (by omega), Option.bind_some]
  show chainFromS l ts (k + 3) .call [21, 22] x (at_ j d) = _
  rw [chainFromS, any_hit ht (by rw [h1]; decide) hj (by rw [h1]; simp), Option.bind_some, if_neg (by show ¬ t.sort = 0; rw [h1]; decide), partS]
  show (callS l ts (k + 1) (at_ (j + 1) d)).bind _ = _
  rw [h' (k + 1) (by omega), Option.bind_some]
  show chainFromS l ts (k + 2) .call [21, 22] (.binary x.fr y.to t.sort x y) (at_ j' d) = _
  rw [chainFromS, any_miss hu (by simp [h3, h4]), Option.bind_some, if_pos rfl, h1]

theorem ev_sum {n i d j : Nat} {x : T} {t : Tok} (h : Ev n (termS l ts) (at_ i d) (x, at_ j d)) (ht : ts[j]? = some t) (h1 : t.sort ≠ 19) (h2 : t.sort ≠ 20) : Ev (n + 4) (sumS l ts) (at_ i d) (x, at_ j d) := by
  intro k hk
  obtain ⟨k, rfl⟩ : ∃ k', k = k' + 4 := ⟨k - 4, by omega⟩
  show sumS l ts (k + 4) _ = _
  rw [sumS, chainS, partS, h (k + 1) (by omega), Option.bind_some]
  show chainFromS l ts (k + 2) .term [19, 20] x (at_ j d) = _
  rw [chainFromS, any_miss ht (by simp [h1, h2]), Option.bind_some, if_pos rfl]

/-- One sum. -/
theorem ev_sum2 {n i d j j' : Nat} {x y : T} {t u : Tok} (h : Ev n (termS l ts) (at_ i d) (x, at_ j d)) (ht : ts[j]? = some t) (h1 : t.sort = 19 ∨ t.sort = 20) (hj : j ≤ 300) (h' : Ev n (termS l ts) (at_ (j + 1) d) (y, at_ j' d)) (hu : ts[j']? = some u) (h3 : u.sort ≠ 19) (h4 : u.sort ≠ 20) :
    Ev (n + 5) (sumS l ts) (at_ i d) (.binary x.fr y.to t.sort x y, at_ j' d) := by
  intro k hk
  obtain ⟨k, rfl⟩ : ∃ k', k = k' + 5 := ⟨k - 5, by omega⟩
  have h0 : t.sort ≠ 0 := by rcases h1 with h1 | h1 <;> rw [h1] <;> decide
  show sumS l ts (k + 5) _ = _
  rw [sumS, chainS, partS, h (k + 2) (by omega), Option.bind_some]
  show chainFromS l ts (k + 3) .term [19, 20] x (at_ j d) = _
  rw [chainFromS, any_hit ht h0 hj (by simpa using h1), Option.bind_some, if_neg h0, partS]
  show (termS l ts (k + 1) (at_ (j + 1) d)).bind _ = _
  rw [h' (k + 1) (by omega), Option.bind_some]
  show chainFromS l ts (k + 2) .term [19, 20] (.binary x.fr y.to t.sort x y) (at_ j' d) = _
  rw [chainFromS, any_miss hu (by simp [h3, h4]), Option.bind_some, if_pos rfl]

theorem ev_cmp {n i d j : Nat} {x : T} {t : Tok} (h : Ev n (sumS l ts) (at_ i d) (x, at_ j d)) (ht : ts[j]? = some t) (h1 : t.sort ≠ 23) (h2 : t.sort ≠ 15) : Ev (n + 1) (cmpS l ts) (at_ i d) (x, at_ j d) := by
  intro k hk
  obtain ⟨k, rfl⟩ : ∃ k', k = k' + 1 := ⟨k - 1, by omega⟩
  show cmpS l ts (k + 1) _ = _
  rw [cmpS, h k (by omega), Option.bind_some]
  show (takeAnyS ts [23, 15] (at_ j d)).bind _ = _
  rw [any_miss ht (by simp [h1, h2]), Option.bind_some, if_pos rfl]

theorem ev_cmp2 {n i d j j' : Nat} {x y : T} {t : Tok} (h : Ev n (sumS l ts) (at_ i d) (x, at_ j d)) (ht : ts[j]? = some t) (h1 : t.sort = 23) (hj : j ≤ 300) (h' : Ev n (sumS l ts) (at_ (j + 1) d) (y, at_ j' d)) : Ev (n + 1) (cmpS l ts) (at_ i d) (.binary x.fr y.to 23 x y, at_ j' d) := by
  intro k hk
  obtain ⟨k, rfl⟩ : ∃ k', k = k' + 1 := ⟨k - 1, by omega⟩
  show cmpS l ts (k + 1) _ = _
  rw [cmpS, h k (by omega), Option.bind_some]
  show (takeAnyS ts [23, 15] (at_ j d)).bind _ = _
  rw [any_hit ht (by rw [h1]; decide) hj (by rw [h1]; simp), Option.bind_some, if_neg (by show ¬ t.sort = 0; rw [h1]; decide)]
  show (sumS l ts k (at_ (j + 1) d)).bind _ = _
  rw [h' k (by omega), Option.bind_some, h1]

theorem ev_expr {n i d j : Nat} {x : T} {t : Tok} (h : Ev n (cmpS l ts) (at_ i d) (x, at_ j d)) (ht : ts[i]? = some t) (h1 : t.sort ≠ 3) (h2 : t.sort ≠ 6) (h3 : t.sort ≠ 7) : Ev (n + 1) (exprS l ts) (at_ i d) (x, at_ j d) := by
  intro k hk
  obtain ⟨k, rfl⟩ : ∃ k', k = k' + 1 := ⟨k - 1, by omega⟩
  show exprS l ts (k + 1) _ = _
  rw [exprS, tok_at, ht, Option.bind_some, if_neg h1, if_neg h2, if_neg h3, h k (by omega)]

/-- An atom, and what stops it: a sum. -/
theorem ev_atom_term {n i d j : Nat} {x : T} {t : Tok} (h : Ev n (atomS l ts) (at_ i d) (x, at_ j d)) (ht : ts[j]? = some t) (hb : beginsAtom t.sort = false) (h1 : t.sort ≠ 21) (h2 : t.sort ≠ 22) : Ev (n + 6) (termS l ts) (at_ i d) (x, at_ j d) :=
  ev_term (ev_call h ht hb) ht h1 h2
theorem ev_atom_sum {n i d j : Nat} {x : T} {t : Tok} (h : Ev n (atomS l ts) (at_ i d) (x, at_ j d)) (ht : ts[j]? = some t) (hb : beginsAtom t.sort = false) (h1 : t.sort ≠ 21) (h2 : t.sort ≠ 22) (h3 : t.sort ≠ 19) (h4 : t.sort ≠ 20) : Ev (n + 10) (sumS l ts) (at_ i d) (x, at_ j d) :=
  ev_sum (ev_atom_term h ht hb h1 h2) ht h3 h4
theorem ev_atom_expr {n i d j : Nat} {x : T} {t u : Tok} (h : Ev n (atomS l ts) (at_ i d) (x, at_ j d)) (ht : ts[j]? = some t) (hs : stops t.sort) (hu : ts[i]? = some u) (hub : u.sort ≠ 3 ∧ u.sort ≠ 6 ∧ u.sort ≠ 7) : Ev (n + 12) (exprS l ts) (at_ i d) (x, at_ j d) :=
  ev_expr (ev_cmp (ev_atom_sum h ht hs.1 hs.2.2.2.1 hs.2.2.2.2.1 hs.2.1 hs.2.2.1) ht hs.2.2.2.2.2.1 hs.2.2.2.2.2.2) hu hub.1 hub.2.1 hub.2.2

/-- A bracket around an expression. -/
theorem ev_bracket {n i d j : Nat} {x : T} {t u : Tok} (hi : ts[i]? = some t) (ht : t.sort = 16) (hl : ts.length ≤ 301) (hd : d < 40) (h : Ev n (exprS l ts) (at_ (i + 1) (d + 1)) (x, at_ j (d + 1))) (hu : ts[j]? = some u) (hus : u.sort = 17) :
    Ev (n + 2) (atomS l ts) (at_ i d) (.bracket t.fr u.to x, at_ (j + 1) d) := by
  intro k hk
  obtain ⟨k, rfl⟩ : ∃ k', k = k' + 2 := ⟨k - 2, by omega⟩
  have li : i < ts.length := by rcases Nat.lt_or_ge i ts.length with h | h; exact h; rw [List.getElem?_eq_none h] at hi; simp at hi
  have lj : j < ts.length := by rcases Nat.lt_or_ge j ts.length with h | h; exact h; rw [List.getElem?_eq_none h] at hu; simp at hu
  show atomS l ts (k + 2) _ = _
  rw [atomS, tok_at, hi, Option.bind_some, if_pos ht, bracketS, begin_at hi (by rw [ht]; decide) (by omega) hd ht, Option.bind_some]
  show (exprS l ts k (at_ (i + 1) (d + 1))).bind _ = _
  rw [h k (by omega), Option.bind_some]
  show (takeAnyS ts [18] (at_ j (d + 1))).bind _ = _
  rw [any_miss hu (by rw [hus]; decide), Option.bind_some, if_neg (by show ¬ (0 : Int) = 18; decide)]
  show (takeS ts 17 (at_ j (d + 1))).bind _ = _
  rw [take_at hu (by rw [hus]; decide) (by omega) hus, Option.bind_some]
  show (endS (at_ (j + 1) (d + 1))).bind _ = _
  rw [end_at, Option.bind_some]

/-- A function at the head of an expression. -/
theorem ev_fun {n i d j : Nat} {x : T} {t b a : Tok} {bn : List UInt8} (hi : ts[i]? = some t) (ht : t.sort = 6) (hl : ts.length ≤ 301) (hd : d < 40) (hb : ts[i + 1]? = some b) (hbs : b.sort = 1) (hbp : b.fr ≤ b.to ∧ b.to ≤ l.length) (hbn : piece l b.fr b.to = bn) (ha : ts[i + 2]? = some a) (has : a.sort = 14)
    (h : Ev n (exprS l ts) (at_ (i + 3) (d + 1)) (x, at_ j (d + 1))) : Ev (n + 2) (exprS l ts) (at_ i d) (.fn t.fr x.to bn b.fr x, at_ j d) := by
  intro k hk
  obtain ⟨k, rfl⟩ : ∃ k', k = k' + 2 := ⟨k - 2, by omega⟩
  have li : i + 2 < ts.length := by rcases Nat.lt_or_ge (i + 2) ts.length with h | h; exact h; rw [List.getElem?_eq_none h] at ha; simp at ha
  rw [exprS, tok_at, hi, Option.bind_some, if_neg (by rw [ht]; decide), if_pos ht, funS, begin_at hi (by rw [ht]; decide) (by omega) hd ht, Option.bind_some]
  show (binderS l ts (at_ (i + 1) (d + 1))).bind _ = _
  rw [binderS, take_at hb (by rw [hbs]; decide) (by omega) hbs, Option.bind_some, if_pos hbp, Option.bind_some]
  show (takeS ts 14 (at_ (i + 2) (d + 1))).bind _ = _
  rw [take_at ha (by rw [has]; decide) (by omega) has, Option.bind_some]
  show (exprS l ts k (at_ (i + 3) (d + 1))).bind _ = _
  rw [h k (by omega), Option.bind_some]
  show (endS (at_ j (d + 1))).bind _ = _
  rw [end_at, Option.bind_some, hbn]

/-- An if. -/
theorem ev_cond {n i d j1 j2 j3 : Nat} {c x y : T} {t u v : Tok} (hi : ts[i]? = some t) (ht : t.sort = 7) (hl : ts.length ≤ 301) (hd : d < 40) (hc : Ev n (exprS l ts) (at_ (i + 1) (d + 1)) (c, at_ j1 (d + 1))) (hu : ts[j1]? = some u) (hus : u.sort = 8)
    (hx : Ev n (exprS l ts) (at_ (j1 + 1) (d + 1)) (x, at_ j2 (d + 1))) (hv : ts[j2]? = some v) (hvs : v.sort = 9) (hy : Ev n (exprS l ts) (at_ (j2 + 1) (d + 1)) (y, at_ j3 (d + 1))) : Ev (n + 2) (exprS l ts) (at_ i d) (.cond t.fr y.to c x y, at_ j3 d) := by
  intro k hk
  obtain ⟨k, rfl⟩ : ∃ k', k = k' + 2 := ⟨k - 2, by omega⟩
  have li : i < ts.length := by rcases Nat.lt_or_ge i ts.length with h | h; exact h; rw [List.getElem?_eq_none h] at hi; simp at hi
  have lu : j1 < ts.length := by rcases Nat.lt_or_ge j1 ts.length with h | h; exact h; rw [List.getElem?_eq_none h] at hu; simp at hu
  have lv : j2 < ts.length := by rcases Nat.lt_or_ge j2 ts.length with h | h; exact h; rw [List.getElem?_eq_none h] at hv; simp at hv
  rw [exprS, tok_at, hi, Option.bind_some, if_neg (by rw [ht]; decide), if_neg (by rw [ht]; decide), if_pos ht, condS, begin_at hi (by rw [ht]; decide) (by omega) hd ht, Option.bind_some]
  show (exprS l ts k (at_ (i + 1) (d + 1))).bind _ = _
  rw [hc k (by omega), Option.bind_some]
  show (takeS ts 8 (at_ j1 (d + 1))).bind _ = _
  rw [take_at hu (by rw [hus]; decide) (by omega) hus, Option.bind_some]
  show (exprS l ts k (at_ (j1 + 1) (d + 1))).bind _ = _
  rw [hx k (by omega), Option.bind_some]
  show (takeS ts 9 (at_ j2 (d + 1))).bind _ = _
  rw [take_at hv (by rw [hvs]; decide) (by omega) hvs, Option.bind_some]
  show (exprS l ts k (at_ (j2 + 1) (d + 1))).bind _ = _
  rw [hy k (by omega), Option.bind_some]
  show (endS (at_ j3 (d + 1))).bind _ = _
  rw [end_at, Option.bind_some]

/-- A leaf. -/
theorem ev_leaf {i d : Nat} {t : Tok} {x : T} (hi : ts[i]? = some t) (hl : ts.length ≤ 301) (hb : beginsAtom t.sort = true) (h16 : t.sort ≠ 16) (h0 : t.sort ≠ 0) (hx : leafS l t = some x) : Ev 1 (atomS l ts) (at_ i d) (x, at_ (i + 1) d) := by
  intro k hk
  obtain ⟨k, rfl⟩ : ∃ k', k = k' + 1 := ⟨k - 1, by omega⟩
  have li : i < ts.length := by rcases Nat.lt_or_ge i ts.length with h | h; exact h; rw [List.getElem?_eq_none h] at hi; simp at hi
  rw [atomS, tok_at, hi, Option.bind_some, if_neg h16, if_pos hb, take_at hi h0 (by omega) rfl, Option.bind_some, hx, Option.bind_some]

end

def Ex.cnt : Ex → Nat
  | .num _ => 1
  | .two _ a b => a.cnt + b.cnt + 3
  | .mul a b => a.cnt + b.cnt + 9
  | .low a b => a.cnt + b.cnt + a.cnt + b.cnt + 6

theorem Ex.toks_len : ∀ (e : Ex) (o : Nat), (e.toks o).length = e.cnt
  | .num n, o => rfl
  | .two m a b, o => by simp only [toks, cnt, List.length_cons, List.length_append, List.length_nil, toks_len a, toks_len b]; omega
  | .mul a b, o => by simp only [toks, cnt, List.length_cons, List.length_append, List.length_nil, toks_len a, toks_len b]; omega
  | .low a b, o => by simp only [toks, cnt, List.length_cons, List.length_append, List.length_nil, toks_len a, toks_len b]; omega

theorem Ex.first (e : Ex) (o : Nat) : ∃ t r, e.toks o = t :: r ∧ (t.sort = 2 ∨ t.sort = 16) := by
  cases e <;> exact ⟨_, _, rfl, by simp⟩

def Ex.deep : Ex → Nat
  | .num _ => 0
  | .two _ a b => max a.deep b.deep + 1
  | .mul a b => max a.deep b.deep + 3
  | .low a b => max a.deep b.deep + 2

def Ex.fuel : Ex → Nat
  | .num _ => 1
  | .two _ a b => max a.fuel b.fuel + 40
  | .mul a b => max a.fuel b.fuel + 40
  | .low a b => max a.fuel b.fuel + 40

theorem stops17 : stops 17 := by unfold stops; decide
theorem stops8 : stops 8 := by unfold stops; decide
theorem stops9 : stops 9 := by unfold stops; decide

theorem Ex.starts {ts : List Tok} {i o : Nat} {e : Ex} (h : Here ts i (e.toks o)) : ∃ t, ts[i]? = some t ∧ (t.sort = 2 ∨ t.sort = 16) := by
  obtain ⟨t, r, he, ht⟩ := e.first o
  rw [he] at h
  exact ⟨t, h.head, ht⟩

theorem starts_expr {t : Tok} (h : t.sort = 2 ∨ t.sort = 16) : t.sort ≠ 3 ∧ t.sort ≠ 6 ∧ t.sort ≠ 7 := by
  rcases h with h | h <;> rw [h] <;> decide
theorem starts_atom {t : Tok} (h : t.sort = 2 ∨ t.sort = 16) : beginsAtom t.sort = true := by
  rcases h with h | h <;> rw [h] <;> decide

theorem Ex.parse {l : List UInt8} {ts : List Tok} (hl : ts.length ≤ 301) : ∀ (e : Ex) (o i d : Nat), e.ok → Here l o e.bytes → Here ts i (e.toks o) → d + e.deep ≤ 40 → Ev e.fuel (atomS l ts) (at_ i d) (e.tree o, at_ (i + e.cnt) d)
  | .num n, o, i, d, h, hb, ht, hd => by
    have D := dig_of (u := n) (by simp only [Ex.ok] at h; omega)
    have hp := hb.piece
    have hlen := hb.len
    simp only [Ex.bytes] at hp hlen
    refine ev_leaf ht.head hl (by dsimp only; decide) (by dsimp only; decide) (by dsimp only; decide) ?_
    show leafS l ⟨2, o, o + (Lib.decDigits n).length⟩ = _
    rw [leafS, if_pos rfl, if_pos ⟨by simp, hlen⟩, hp, D.val, Option.bind_some]
    rfl
  | .two m a b, o, i, d, h, hb, ht, hd => by
    simp only [Ex.deep] at hd
    simp only [Ex.bytes] at hb
    simp only [Ex.toks] at ht
    have hba := hb.tail.left
    have hbb := hb.tail.right.tail.tail.tail.left
    rw [bytes_len] at hbb
    have hta := ht.tail.left
    have htb := ht.tail.right.tail.left
    have hto := ht.tail.right.head
    have htc := ht.tail.right.tail.right.head
    simp only [toks_len] at htb hto htc
    rw [show o + 1 + a.len + 1 + 1 + 1 = o + a.len + 4 from by omega] at hbb
    have pa := (parse hl a (o + 1) (i + 1) (d + 1) h.1 hba hta (by omega)).mono (Nat.le_max_left a.fuel b.fuel)
    have pb := (parse hl b (o + a.len + 4) (i + 1 + a.cnt + 1) (d + 1) h.2 hbb htb (by omega)).mono (Nat.le_max_right a.fuel b.fuel)
    have li := Here.len ht
    obtain ⟨t0, ht0, hs0⟩ := Ex.starts hta
    have ta := ev_atom_term pa hto (by cases m <;> (dsimp only; decide)) (by cases m <;> (dsimp only; decide)) (by cases m <;> (dsimp only; decide))
    have tb := ev_atom_term pb htc (by dsimp only; decide) (by dsimp only; decide) (by dsimp only; decide)
    have s2 := ev_sum2 ta hto (by cases m <;> simp) (by have := hta.len; rw [toks_len] at this; have := hto; rcases Nat.lt_or_ge (i + 1 + a.cnt) ts.length with h | h; omega; rw [List.getElem?_eq_none h] at this; simp at this) tb htc (by dsimp only; decide) (by dsimp only; decide)
    have c2 := ev_cmp s2 htc (by dsimp only; decide) (by dsimp only; decide)
    have e2 := ev_expr c2 ht0 (starts_expr hs0).1 (starts_expr hs0).2.1 (starts_expr hs0).2.2
    have r := (ev_bracket ht.head rfl hl (by omega) e2 htc rfl).mono (m := max a.fuel b.fuel + 40) (by omega)
    rw [tree_fr, tree_to, show o + a.len + 4 + b.len = o + a.len + b.len + 4 from by omega, show i + 1 + a.cnt + 1 + b.cnt + 1 = i + (Ex.two m a b).cnt from by simp only [Ex.cnt]; omega] at r
    exact r
  | .mul a b, o, i, d, h, hb, ht, hd => by
    simp only [Ex.deep] at hd
    simp only [Ex.bytes] at hb
    simp only [Ex.toks] at ht
    have hv1 : Here l (o + 6) [118] := hb.left.tail.tail.tail.tail.tail.tail.left (us := [118])
    have hv2 : Here l (o + 11) [118] := hb.left.tail.tail.tail.tail.tail.tail.tail.tail.tail.tail.tail.left (us := [118])
    have hba := hb.right.tail.left
    have hbb := hb.right.tail.right.tail.tail.tail.left
    simp only [bytes_len, List.length_cons, List.length_nil] at hba hbb
    have t0 := ht.head
    have t1 := ht.tail.head
    have t2 := ht.tail.tail.head
    have t3 := ht.tail.tail.tail.head
    have t4 := ht.tail.tail.tail.tail.head
    have t5 := ht.tail.tail.tail.tail.tail.head
    have t6 := ht.tail.tail.tail.tail.tail.tail.head
    have hr := ht.tail.tail.tail.tail.tail.tail.tail
    have hta := hr.left
    have hto := hr.right.head
    have htb := hr.right.tail.left
    have htc := hr.right.tail.right.head
    simp only [toks_len] at htb hto htc
    have pa := (parse hl a (o + 14) (i + 7) (d + 1) h.1 hba hta (by omega)).mono (m := max a.fuel b.fuel + 20) (by omega)
    have pb := (parse hl b (o + a.len + 17) (i + 7 + a.cnt + 1) (d + 1) h.2 (by rw [show o + a.len + 17 = o + 14 + a.len + 3 from by omega]; exact hbb) htb (by omega)).mono (m := max a.fuel b.fuel + 23) (by omega)
    have lv := ev_leaf (l := l) (d := d + 3) (x := .name (o + 11) (o + 12) [118]) t5 hl (by dsimp only; decide) (by dsimp only; decide) (by dsimp only; decide) (by
      have hp := hv2.piece
      have hlen := hv2.len
      show leafS l ⟨1, o + 11, o + 12⟩ = _
      rw [leafS, if_neg (by dsimp only; decide), if_neg (by dsimp only; decide), if_neg (by dsimp only; decide), if_pos ⟨by simp, hlen⟩]
      exact congrArg (fun z => some (T.name (o + 11) (o + 12) z)) hp)
    have ev := ev_atom_expr lv t6 stops17 t5 (by dsimp only; decide)
    have ef := ev_fun t2 rfl hl (by omega) t3 rfl ⟨by simp, hv1.len⟩ hv1.piece t4 rfl ev
    have bf := (ev_bracket t1 rfl hl (by omega) ef t6 rfl).mono (m := max a.fuel b.fuel + 20) (by omega)
    obtain ⟨ta, hta0, hsa⟩ := Ex.starts hta
    have c1 := ev_call2 bf hta0 (starts_atom hsa) pa hto (by dsimp only; decide)
    have c2 := ev_call pb htc (by dsimp only; decide)
    have jl : i + 7 + a.cnt ≤ 300 := by rcases Nat.lt_or_ge (i + 7 + a.cnt) ts.length with h | h; omega; rw [List.getElem?_eq_none h] at hto; simp at hto
    have m2 := ev_term2 (c1.mono (m := max a.fuel b.fuel + 25) (by omega)) hto rfl jl c2 htc (by dsimp only; decide) (by dsimp only; decide)
    have s2 := ev_sum m2 htc (by dsimp only; decide) (by dsimp only; decide)
    have cc := ev_cmp s2 htc (by dsimp only; decide) (by dsimp only; decide)
    have e2 := ev_expr cc t1 (by dsimp only; decide) (by dsimp only; decide) (by dsimp only; decide)
    have r := (ev_bracket t0 rfl hl (by omega) e2 htc rfl).mono (m := max a.fuel b.fuel + 40) (by omega)
    rw [tree_to b, tree_to a, show o + a.len + 17 + b.len = o + a.len + b.len + 17 from by omega, show o + 14 + a.len = o + a.len + 14 from by omega, show i + 7 + a.cnt + 1 + b.cnt + 1 = i + (Ex.mul a b).cnt from by simp only [Ex.cnt]; omega] at r
    exact r
  | .low a b, o, i, d, h, hb, ht, hd => by
    simp only [Ex.deep] at hd
    simp only [Ex.bytes] at hb
    simp only [Ex.toks] at ht
    have hba := hb.right.tail.left
    have hb1 := hb.right.tail.right.tail.tail.tail
    have hbb := hb1.left
    have hb2 := hb1.right.right.tail
    have hba2 := hb2.left
    have hbb2 := hb2.right.right.tail.left
    simp only [bytes_len, List.length_cons, List.length_nil] at hba hbb hba2 hbb2
    have t0 := ht.head
    have t1 := ht.tail.head
    have r1 := ht.tail.tail
    have hta := r1.left
    have tl := r1.right.head
    have r2 := r1.right.tail
    have htb := r2.left
    have tt := r2.right.head
    have r3 := r2.right.tail
    have hta2 := r3.left
    have te := r3.right.head
    have r4 := r3.right.tail
    have htb2 := r4.left
    have tc := r4.right.head
    simp only [toks_len] at hta tl htb tt hta2 te htb2 tc
    have pa := (parse hl a (o + 4) (i + 2) (d + 2) h.1 hba hta (by omega)).mono (Nat.le_max_left a.fuel b.fuel)
    have pb := (parse hl b (o + a.len + 7) (i + 2 + a.cnt + 1) (d + 2) h.2 (by rw [show o + a.len + 7 = o + 4 + a.len + 3 from by omega]; exact hbb) htb (by omega)).mono (Nat.le_max_right a.fuel b.fuel)
    have pa2 := (parse hl a (o + a.len + b.len + 13) (i + 2 + a.cnt + 1 + b.cnt + 1) (d + 2) h.1 (by rw [show o + a.len + b.len + 13 = o + 4 + a.len + 3 + b.len + 5 + 1 from by omega]; exact hba2) hta2 (by omega)).mono (Nat.le_max_left a.fuel b.fuel)
    have pb2 := (parse hl b (o + a.len + b.len + a.len + 19) (i + 2 + a.cnt + 1 + b.cnt + 1 + a.cnt + 1) (d + 2) h.2 (by rw [show o + a.len + b.len + a.len + 19 = o + 4 + a.len + 3 + b.len + 5 + 1 + a.len + 5 + 1 from by omega]; exact hbb2) htb2 (by omega)).mono (Nat.le_max_right a.fuel b.fuel)
    obtain ⟨ta, hta0, hsa⟩ := Ex.starts hta
    obtain ⟨ta2, hta20, hsa2⟩ := Ex.starts hta2
    obtain ⟨tb2, htb20, hsb2⟩ := Ex.starts htb2
    have jl : i + 2 + a.cnt ≤ 300 := by rcases Nat.lt_or_ge (i + 2 + a.cnt) ts.length with h | h; omega; rw [List.getElem?_eq_none h] at tl; simp at tl
    have sa := ev_atom_sum pa tl (by dsimp only; decide) (by dsimp only; decide) (by dsimp only; decide) (by dsimp only; decide) (by dsimp only; decide)
    have sb := ev_atom_sum pb tt (by dsimp only; decide) (by dsimp only; decide) (by dsimp only; decide) (by dsimp only; decide) (by dsimp only; decide)
    have cc := ev_cmp2 sa tl rfl jl sb
    have ec := ev_expr cc hta0 (starts_expr hsa).1 (starts_expr hsa).2.1 (starts_expr hsa).2.2
    have ex := ev_atom_expr pa2 te stops9 hta20 (starts_expr hsa2)
    have ey := ev_atom_expr pb2 tc stops17 htb20 (starts_expr hsb2)
    have cd := ev_cond t1 rfl hl (by omega) ec tt rfl ex te rfl ey
    have r := (ev_bracket t0 rfl hl (by omega) cd tc rfl).mono (m := max a.fuel b.fuel + 40) (by omega)
    simp only [tree_to, tree_fr] at r
    rw [show o + a.len + 7 + b.len = o + a.len + b.len + 7 from by omega, show o + a.len + b.len + a.len + 19 + b.len = o + a.len + b.len + a.len + b.len + 19 from by omega, show i + 2 + a.cnt + 1 + b.cnt + 1 + a.cnt + 1 + b.cnt + 1 = i + (Ex.low a b).cnt from by simp only [Ex.cnt]; omega] at r
    exact r

theorem Ex.cnt_len : ∀ e : Ex, e.ok → e.cnt ≤ e.len
  | .num n, h => (dig_of (u := n) (by simp only [Ex.ok] at h; omega)).pos
  | .two m a b, h => by have := cnt_len a h.1; have := cnt_len b h.2; simp only [cnt, len]; omega
  | .mul a b, h => by have := cnt_len a h.1; have := cnt_len b h.2; simp only [cnt, len]; omega
  | .low a b, h => by have := cnt_len a h.1; have := cnt_len b h.2; simp only [cnt, len]; omega

/-- The whole text. -/
theorem Ex.whole {e : Ex} (h : e.ok) (hd : e.deep ≤ 40) (hl : e.len ≤ 300) : ∃ ts fuel, split e.bytes = .ok ts ∧ parseS e.bytes ts fuel = some (.ok (e.tree 0)) := by
  have hc := e.cnt_len h
  refine ⟨_, e.fuel + 12, split_ok_iff.2 ⟨_, e.lex 0 h, rfl⟩, ?_⟩
  have hlen : (e.toks 0 ++ [(⟨0, e.bytes.length, e.bytes.length⟩ : Tok)]).length ≤ 301 := by rw [List.length_append, toks_len]; simp; omega
  have hT : Here (e.toks 0 ++ [(⟨0, e.bytes.length, e.bytes.length⟩ : Tok)]) 0 (e.toks 0) := ⟨[], _, rfl, rfl⟩
  have hE : (e.toks 0 ++ [(⟨0, e.bytes.length, e.bytes.length⟩ : Tok)])[e.cnt]? = some ⟨0, e.bytes.length, e.bytes.length⟩ := by
    rw [← toks_len e 0]
    simp
  have p := Ex.parse (l := e.bytes) hlen e 0 0 0 h ⟨[], [], by simp, rfl⟩ hT (by omega)
  rw [Nat.zero_add] at p
  obtain ⟨t, ht, hs⟩ := Ex.starts hT
  have x := ev_atom_expr p hE (by unfold stops; dsimp only; decide) ht (starts_expr hs) (e.fuel + 12) (Nat.le_refl _)
  rw [parseS, x, Option.bind_some]
  show (takeS _ 0 (at_ e.cnt 0)).bind _ = _
  rw [takeS, tok_at, hE, Option.bind_some, if_pos rfl, if_pos rfl, Option.bind_some]
  rfl

end Go.Proofs.YtckhafpejefbbaaGreatDoor.Tw

/- Counted's texts: their weight, their names, their type, what they come to. -/
namespace Go.Proofs.YtckhafpejefbbaaGreatDoor.Tw
open Go Go.RowKit

def Ex.size : Ex → Nat
  | .num _ => 1
  | .two _ a b => a.size + b.size + 2
  | .mul a b => a.size + b.size + 6
  | .low a b => a.size + b.size + a.size + b.size + 3

theorem Ex.size_len : ∀ e : Ex, e.ok → e.size ≤ e.len
  | .num n, h => (dig_of (u := n) (by simp only [Ex.ok] at h; omega)).pos
  | .two m a b, h => by have := size_len a h.1; have := size_len b h.2; simp only [size, len]; omega
  | .mul a b, h => by have := size_len a h.1; have := size_len b h.2; simp only [size, len]; omega
  | .low a b, h => by have := size_len a h.1; have := size_len b h.2; simp only [size, len]; omega

theorem Ex.weight : ∀ (e : Ex) (o : Nat) (env : WEn), e.size ≤ 2000 → weightS (e.tree o) env = some e.size
  | .num n, o, env, _ => rfl
  | .two m a b, o, env, h => by
    simp only [size] at h
    simp only [tree, weightS, weight a _ env (by omega), weight b _ env (by omega), Option.bind_some, size, Option.some.injEq]
    omega
  | .mul a b, o, env, h => by
    simp only [size] at h
    simp only [tree, weightS, weight a _ env (by omega), weight b _ env (by omega), Option.bind_some, size, Option.some.injEq, WEn.look, if_true]
    omega
  | .low a b, o, env, h => by
    simp only [size] at h
    simp only [tree, weightS, weight a _ env (by omega), weight b _ env (by omega), Option.bind_some, size, Option.some.injEq]
    omega

theorem Ex.bound : ∀ (e : Ex) (o : Nat) (env : List (List UInt8)), (e.tree o).boundS env = true
  | .num n, o, env => rfl
  | .two m a b, o, env => by simp [tree, T.boundS, bound a, bound b]
  | .mul a b, o, env => by simp [tree, T.boundS, bound a, bound b]
  | .low a b, o, env => by simp [tree, T.boundS, bound a, bound b]

def Ex.calls : Ex → Nat
  | .num _ => 0
  | .two _ a b => a.calls + b.calls
  | .mul a b => a.calls + b.calls + 1
  | .low a b => a.calls + b.calls + a.calls + b.calls

theorem Ex.calls_len : ∀ e : Ex, 4 * e.calls ≤ e.len
  | .num n => by simp [calls]
  | .two m a b => by have := calls_len a; have := calls_len b; simp only [calls, len]; omega
  | .mul a b => by have := calls_len a; have := calls_len b; simp only [calls, len]; omega
  | .low a b => by have := calls_len a; have := calls_len b; simp only [calls, len]; omega

def Ex.val : Ex → Int
  | .num n => n
  | .two false a b => wrap64 (a.val + b.val)
  | .two true a b => wrap64 (a.val - b.val)
  | .mul a b => wrap64 (a.val * b.val)
  | .low a b => if a.val < b.val then a.val else b.val

theorem Ex.run (bud : Nat) : ∀ (e : Ex) (o : Nat) (env : VEnv) (st : RS) (fuel : Nat), e.ok → e.fuel ≤ fuel → st.steps + e.calls ≤ bud →
    ∃ st', evalS bud fuel (e.tree o) env st = some (some (.num e.val), st') ∧ st'.steps ≤ st.steps + e.calls ∧ st'.fin = st.fin
  | .num n, o, env, st, fuel, h, hf, hb => by
    obtain ⟨f, rfl⟩ : ∃ f, fuel = f + 1 := ⟨fuel - 1, by simp only [Ex.fuel] at hf; omega⟩
    simp only [Ex.ok] at h
    exact ⟨st, by simp only [tree, evalS, val]; rw [if_pos (by omega)], by simp [calls], rfl⟩
  | .two m a b, o, env, st, fuel, h, hf, hb => by
    simp only [Ex.fuel] at hf
    simp only [calls] at hb
    obtain ⟨f, rfl⟩ : ∃ f, fuel = f + 2 := ⟨fuel - 2, by omega⟩
    obtain ⟨s1, h1, h2, h3⟩ := run bud a (o + 1) env st f h.1 (by omega) (by omega)
    obtain ⟨s2, h4, h5, h6⟩ := run bud b (o + a.len + 4) env s1 f h.2 (by omega) (by omega)
    refine ⟨s2, ?_, by simp only [calls]; omega, by rw [h6, h3]⟩
    cases m
    · simp [tree, evalS, h1, h4, reckonS, asNum, val]
    · simp [tree, evalS, h1, h4, reckonS, asNum, val]
  | .mul a b, o, env, st, fuel, h, hf, hb => by
    simp only [Ex.fuel] at hf
    simp only [calls] at hb
    obtain ⟨f, rfl⟩ : ∃ f, fuel = f + 5 := ⟨fuel - 5, by omega⟩
    obtain ⟨s1, h1, h2, h3⟩ := run bud a (o + 14) env st (f + 2) h.1 (by omega) (by omega)
    obtain ⟨s2, h4, h5, h6⟩ := run bud b (o + a.len + 17) env { s1 with slots := s1.slots ++ [some (.num a.val)], steps := s1.steps + 1 } (f + 3) h.2 (by omega) (by show s1.steps + 1 + _ ≤ _; omega)
    simp only at h5 h6
    refine ⟨s2, ?_, by simp only [calls]; omega, by rw [h6, h3]⟩
    have hne : ¬ s1.steps = bud := by omega
    simp [tree, evalS, h1, hne, lookV, h4, reckonS, asNum, val]
  | .low a b, o, env, st, fuel, h, hf, hb => by
    simp only [Ex.fuel] at hf
    simp only [calls] at hb
    obtain ⟨f, rfl⟩ : ∃ f, fuel = f + 3 := ⟨fuel - 3, by omega⟩
    obtain ⟨s1, h1, h2, h3⟩ := run bud a (o + 4) env st f h.1 (by omega) (by omega)
    obtain ⟨s2, h4, h5, h6⟩ := run bud b (o + a.len + 7) env s1 f h.2 (by omega) (by omega)
    by_cases hlt : a.val < b.val
    · obtain ⟨s3, h7, h8, h9⟩ := run bud a (o + a.len + b.len + 13) env s2 (f + 1) h.1 (by omega) (by omega)
      refine ⟨s3, ?_, by simp only [calls]; omega, by rw [h9, h6, h3]⟩
      simp [tree, evalS, h1, h4, reckonS, asNum, hlt, h7, val]
    · obtain ⟨s3, h7, h8, h9⟩ := run bud b (o + a.len + b.len + a.len + 19) env s2 (f + 1) h.2 (by omega) (by omega)
      refine ⟨s3, ?_, by simp only [calls]; omega, by rw [h9, h6, h3]⟩
      simp [tree, evalS, h1, h4, reckonS, asNum, hlt, h7, val]

/-- A type that is 0's. -/
def Low (S : List Sh) (q : Nat) : Prop := ∃ z, S[q]? = some z ∧ z.same = 0

/-- A type that is found in one step; what it is made of is 0's. Only types from lo on are met, and 0. -/
def Good (lo : Nat) (S : List Sh) (k : Nat) : Prop := ∃ x y, S[k]? = some x ∧ S[x.same]? = some y ∧ y.same = x.same ∧ (x.same = 0 ∨ lo ≤ x.same) ∧ (madeS y = true → (Low S y.left ∧ (y.left = 0 ∨ lo ≤ y.left)) ∧ (Low S y.right ∧ (y.right = 0 ∨ lo ≤ y.right)))

theorem get_more {S N : List Sh} {k : Nat} {x : Sh} (h : S[k]? = some x) : (S ++ N)[k]? = some x := by
  rw [List.getElem?_append_left]
  · exact h
  · rcases Nat.lt_or_ge k S.length with h' | h'
    · exact h'
    · rw [List.getElem?_eq_none h'] at h; simp at h
theorem Good.move {lo lo' : Nat} {S S' : List Sh} {k : Nat} (hk : lo ≤ k) (hlo : lo' ≤ lo) (h : ∀ q, q = 0 ∨ lo ≤ q → ∀ x, S[q]? = some x → S'[q]? = some x) : Good lo S k → Good lo' S' k := by
  rintro ⟨x, y, h1, h2, h3, h4, h5⟩
  refine ⟨x, y, h k (.inr hk) x h1, h _ h4 y h2, h3, by omega, fun hm => ?_⟩
  obtain ⟨⟨⟨z1, a1, a2⟩, a3⟩, ⟨⟨z2, b1, b2⟩, b3⟩⟩ := h5 hm
  exact ⟨⟨⟨z1, h _ a3 z1 a1, a2⟩, by omega⟩, ⟨⟨z2, h _ b3 z2 b1, b2⟩, by omega⟩⟩
theorem Good.more {lo : Nat} {S N : List Sh} {k : Nat} (hk : lo ≤ k) {lo' : Nat} (hlo : lo' ≤ lo) : Good lo S k → Good lo' (S ++ N) k := Good.move hk hlo fun _ _ _ => get_more

theorem setSame_self {st : SS} {r : Nat} {x : Sh} (h : st.shs[r]? = some x) : setSame st r x x.same = st := by
  unfold setSame
  have : st.shs.set r x = st.shs := by
    refine List.ext_getElem? fun i => ?_
    rw [List.getElem?_set]
    split
    · rename_i e
      subst e
      rcases Nat.lt_or_ge r st.shs.length with h' | h'
      · rw [if_pos h', h]
      · rw [List.getElem?_eq_none h'] at h; simp at h
    · rfl
  cases x
  cases st
  simp only at this ⊢
  rw [this]

/-- Found in at most one step. -/
theorem find_one {st : SS} {r : Nat} {x y : Sh} (n : Nat) (h1 : st.shs[r]? = some x) (h2 : st.shs[x.same]? = some y) (h3 : y.same = x.same) : findS (n + 2) st r = some (x.same, st) := by
  rw [findS]
  simp only [h1]
  by_cases h : x.same = r
  · rw [if_pos h, h]
  · rw [if_neg h]
    simp only [h2, h3, setSame_self h1]
    rw [findS]
    simp only [h2]
    rw [if_pos h3]

/-- The call of what takes and gives the same. -/
theorem unify_call {st : SS} {L M : Nat} (n : Nat) (hL0 : 0 < L) (hLM : L + 1 < M) (h0 : st.shs[0]? = some ⟨1, 0, 0, 0⟩) (hL : st.shs[L]? = some ⟨0, 0, 0, L⟩) (hL1 : st.shs[L + 1]? = some ⟨3, L, L, L + 1⟩) (hM : st.shs[M]? = some ⟨0, 0, 0, M⟩) (hM1 : st.shs[M + 1]? = some ⟨3, 0, M, M + 1⟩) :
    unifyS (n + 5) st (L + 1) (M + 1) = some ⟨((st.shs.set (L + 1) ⟨3, L, L, M + 1⟩).set L ⟨0, 0, 0, 0⟩).set M ⟨0, 0, 0, 0⟩, st.clash⟩ := by
  have hlen : M + 1 < st.shs.length := by rcases Nat.lt_or_ge (M + 1) st.shs.length with h' | h'; exact h'; rw [List.getElem?_eq_none h'] at hM1; simp at hM1
  obtain ⟨S, c⟩ := st
  simp only at h0 hL hL1 hM hM1 hlen ⊢
  -- the first world behind the joining
  have f1 := find_one (st := ⟨S, c⟩) (n + 2) hL1 hL1 rfl
  have f2 := find_one (st := ⟨S, c⟩) (n + 2) hM1 hM1 rfl
  rw [unifyS, f1, Option.bind_some]
  simp only
  rw [f2, Option.bind_some]
  simp only [hL1, hM1]
  rw [if_neg (by omega), if_neg (by decide), if_neg (by decide), if_pos trivial]
  have eS : setSame ⟨S, c⟩ (L + 1) ⟨3, L, L, L + 1⟩ (M + 1) = ⟨S.set (L + 1) ⟨3, L, L, M + 1⟩, c⟩ := rfl
  rw [eS]
  have a0 : (S.set (L + 1) ⟨3, L, L, M + 1⟩)[0]? = some ⟨1, 0, 0, 0⟩ := by rw [List.getElem?_set, if_neg (by omega), h0]
  have aL : (S.set (L + 1) ⟨3, L, L, M + 1⟩)[L]? = some ⟨0, 0, 0, L⟩ := by rw [List.getElem?_set, if_neg (by omega), hL]
  have aM : (S.set (L + 1) ⟨3, L, L, M + 1⟩)[M]? = some ⟨0, 0, 0, M⟩ := by rw [List.getElem?_set, if_neg (by omega), hM]
  have hl2 : M + 1 < (S.set (L + 1) ⟨3, L, L, M + 1⟩).length := by simpa using hlen
  generalize S.set (L + 1) ⟨3, L, L, M + 1⟩ = S1 at a0 aL aM hl2 ⊢
  have g1 := find_one (st := ⟨S1, c⟩) (n + 1) aL aL rfl
  have g2 := find_one (st := ⟨S1, c⟩) (n + 1) a0 a0 rfl
  have u1 : unifyS (n + 4) ⟨S1, c⟩ L 0 = some ⟨S1.set L ⟨0, 0, 0, 0⟩, c⟩ := by
    rw [unifyS, g1, Option.bind_some]
    simp only
    rw [g2, Option.bind_some]
    simp only [aL, a0]
    rw [if_neg (by omega), if_pos trivial]
    rfl
  rw [u1, Option.bind_some]
  have b0 : (S1.set L ⟨0, 0, 0, 0⟩)[0]? = some ⟨1, 0, 0, 0⟩ := by rw [List.getElem?_set, if_neg (by omega), a0]
  have bL : (S1.set L ⟨0, 0, 0, 0⟩)[L]? = some ⟨0, 0, 0, 0⟩ := by rw [List.getElem?_set, if_pos rfl, if_pos (by omega)]
  have bM : (S1.set L ⟨0, 0, 0, 0⟩)[M]? = some ⟨0, 0, 0, M⟩ := by rw [List.getElem?_set, if_neg (by omega), aM]
  generalize S1.set L ⟨0, 0, 0, 0⟩ = S2 at b0 bL bM ⊢
  have k1 := find_one (st := ⟨S2, c⟩) (n + 1) bL b0 rfl
  have k2 := find_one (st := ⟨S2, c⟩) (n + 1) bM bM rfl
  rw [unifyS, k1, Option.bind_some]
  simp only
  rw [k2, Option.bind_some]
  simp only [b0, bM]
  rw [if_neg (by omega), if_neg (by decide), if_pos trivial]
  rfl

theorem unify_same {st : SS} {r : Nat} {x : Sh} (n : Nat) (h : st.shs[r]? = some x) (hx : x.same = r) : unifyS (n + 3) st r r = some st := by
  have f1 := find_one (st := st) n h (by rw [hx]; exact h) rfl
  rw [hx] at f1
  rw [unifyS, f1, Option.bind_some]
  simp only
  rw [f1, Option.bind_some]
  simp only [h]
  rw [if_pos trivial]

theorem set_mid (A B : List Sh) (x y : Sh) {k : Nat} (h : k = A.length) : (A ++ x :: B).set k y = A ++ y :: B := by
  subst h
  simp
theorem get_mid (A B : List Sh) (x : Sh) {k : Nat} (h : k = A.length) : (A ++ x :: B)[k]? = some x := by
  subst h
  simp

theorem Ex.infer : ∀ (e : Ex) (o : Nat) (env : En) (st : SS) (fuel : Nat), e.fuel ≤ fuel → st.shs[0]? = some ⟨1, 0, 0, 0⟩ → st.shs[1]? = some ⟨2, 0, 0, 1⟩ → st.shs.length + 4 * e.calls ≤ 100000 →
    ∃ N, inferS fuel (e.tree o) env st = some (0, ⟨st.shs ++ N, st.clash⟩) ∧ N.length = 4 * e.calls ∧ ∀ k, st.shs.length ≤ k → k < st.shs.length + N.length → Good st.shs.length (st.shs ++ N) k
  | .num n, o, env, st, fuel, hf, h0, h1, hl => by
    obtain ⟨f, rfl⟩ : ∃ f, fuel = f + 1 := ⟨fuel - 1, by simp only [Ex.fuel] at hf; omega⟩
    exact ⟨[], by simp [tree, inferS], by simp [calls], fun k _ _ => by simp at *; omega⟩
  | .two m a b, o, env, st, fuel, hf, h0, h1, hl => by
    simp only [Ex.fuel] at hf
    simp only [calls] at hl
    obtain ⟨f, rfl⟩ : ∃ f, fuel = f + 5 := ⟨fuel - 5, by omega⟩
    obtain ⟨N1, i1, l1, g1⟩ := infer a (o + 1) env st (f + 3) (by omega) h0 h1 (by omega)
    obtain ⟨N2, i2, l2, g2⟩ := infer b (o + a.len + 4) env ⟨st.shs ++ N1, st.clash⟩ (f + 3) (by omega) (get_more h0) (get_more h1) (by simp; omega)
    refine ⟨N1 ++ N2, ?_, by simp only [List.length_append, calls]; omega, ?_⟩
    · have u1 := unify_same (st := ⟨st.shs ++ N1, st.clash⟩) f (get_more h0) rfl
      have u2 := unify_same (st := ⟨st.shs ++ N1 ++ N2, st.clash⟩) f (get_more (get_more h0)) rfl
      rw [tree, inferS, inferS, i1, Option.bind_some]
      simp only
      rw [u1, Option.bind_some, i2, Option.bind_some]
      simp only
      rw [u2, Option.bind_some, List.append_assoc]
      cases m <;> simp
    · intro k k1 k2
      rw [← List.append_assoc]
      simp only [List.length_append] at k2
      by_cases hk : k < st.shs.length + N1.length
      · exact (g1 k k1 hk).more k1 (Nat.le_refl _)
      · exact (g2 k (by simp; omega) (by simp; omega)).move (by simp; omega) (by simp) (fun _ _ _ h => h)
  | .mul a b, o, env, st, fuel, hf, h0, h1, hl => by
    simp only [Ex.fuel] at hf
    simp only [calls] at hl
    obtain ⟨f, rfl⟩ : ∃ f, fuel = f + 9 := ⟨fuel - 9, by omega⟩
    obtain ⟨S, c⟩ := st
    simp only at h0 h1 hl ⊢
    have hpos : 1 < S.length := by rcases Nat.lt_or_ge 1 S.length with h' | h'; exact h'; rw [List.getElem?_eq_none h'] at h1; simp at h1
    obtain ⟨L, hL⟩ : ∃ L, L = S.length := ⟨_, rfl⟩
    obtain ⟨N1, i1, l1, g1⟩ := infer a (o + 14) env ⟨S ++ [⟨0, 0, 0, L⟩] ++ [⟨3, L, L, L + 1⟩], c⟩ (f + 6) (by omega) (get_more (get_more h0)) (get_more (get_more h1)) (by simp; omega)
    obtain ⟨M, hM⟩ : ∃ M, M = L + 2 + N1.length := ⟨_, rfl⟩
    simp only at i1 g1
    have e1 : S ++ [⟨0, 0, 0, L⟩] ++ [⟨3, L, L, L + 1⟩] ++ N1 ++ [(⟨0, 0, 0, M⟩ : Sh)] ++ [(⟨3, 0, M, M + 1⟩ : Sh)] = S ++ ⟨0, 0, 0, L⟩ :: ⟨3, L, L, L + 1⟩ :: (N1 ++ [⟨0, 0, 0, M⟩, ⟨3, 0, M, M + 1⟩]) := by simp
    have e2 : ∀ x y u v : Sh, S ++ x :: y :: (N1 ++ [u, v]) = (S ++ x :: y :: N1) ++ u :: [v] := by intros; simp
    have e3 : ∀ x y u v : Sh, S ++ x :: y :: (N1 ++ [u, v]) = (S ++ [x]) ++ y :: (N1 ++ [u, v]) := by intros; simp
    have e4 : ∀ x y u v : Sh, S ++ x :: y :: (N1 ++ [u, v]) = (S ++ x :: y :: (N1 ++ [u])) ++ v :: [] := by intros; simp
    have uc := unify_call (st := ⟨S ++ ⟨0, 0, 0, L⟩ :: ⟨3, L, L, L + 1⟩ :: (N1 ++ [⟨0, 0, 0, M⟩, ⟨3, 0, M, M + 1⟩]), c⟩) (L := L) (M := M) (f + 1) (by omega) (by omega) (get_more h0) (get_mid _ _ _ hL) (by rw [e3]; exact get_mid _ _ _ (by simp; omega)) (by rw [e2]; exact get_mid _ _ _ (by simp; omega)) (by rw [e4]; exact get_mid _ _ _ (by simp; omega))
    simp only at uc
    have q1 : ∀ x y u v y' : Sh, (S ++ x :: y :: (N1 ++ [u, v])).set (L + 1) y' = S ++ x :: y' :: (N1 ++ [u, v]) := by intro x y u v y'; rw [e3, set_mid _ _ _ _ (by simp; omega), ← e3]
    have q2 : ∀ x y u v x' : Sh, (S ++ x :: y :: (N1 ++ [u, v])).set L x' = S ++ x' :: y :: (N1 ++ [u, v]) := by intro x y u v x'; rw [set_mid _ _ _ _ hL]
    have q3 : ∀ x y u v u' : Sh, (S ++ x :: y :: (N1 ++ [u, v])).set M u' = S ++ x :: y :: (N1 ++ [u', v]) := by intro x y u v u'; rw [e2, set_mid _ _ _ _ (by simp; omega), ← e2]
    rw [q1, q2, q3] at uc
    obtain ⟨S1, hS1⟩ : ∃ S1, S1 = S ++ ⟨0, 0, 0, 0⟩ :: ⟨3, L, L, M + 1⟩ :: (N1 ++ [⟨0, 0, 0, 0⟩, ⟨3, 0, M, M + 1⟩]) := ⟨_, rfl⟩
    have z0 : S1[0]? = some ⟨1, 0, 0, 0⟩ := by rw [hS1]; exact get_more h0
    have z1 : S1[1]? = some ⟨2, 0, 0, 1⟩ := by rw [hS1]; exact get_more h1
    have zL : S1[L]? = some ⟨0, 0, 0, 0⟩ := by rw [hS1]; exact get_mid _ _ _ hL
    have zL1 : S1[L + 1]? = some ⟨3, L, L, M + 1⟩ := by rw [hS1, e3]; exact get_mid _ _ _ (by simp; omega)
    have zM : S1[M]? = some ⟨0, 0, 0, 0⟩ := by rw [hS1, e2]; exact get_mid _ _ _ (by simp; omega)
    have zM1 : S1[M + 1]? = some ⟨3, 0, M, M + 1⟩ := by rw [hS1, e4]; exact get_mid _ _ _ (by simp; omega)
    have lS1 : S1.length = L + 4 + N1.length := by rw [hS1]; simp; omega
    obtain ⟨N2, i2, l2, g2⟩ := infer b (o + a.len + 17) env ⟨S1, c⟩ (f + 7) (by omega) z0 z1 (by simp only; omega)
    simp only at i2 g2
    refine ⟨⟨0, 0, 0, 0⟩ :: ⟨3, L, L, M + 1⟩ :: (N1 ++ [⟨0, 0, 0, 0⟩, ⟨3, 0, M, M + 1⟩]) ++ N2, ?_, by simp [calls]; omega, ?_⟩
    · have u1 : unifyS (f + 7) ⟨S1, c⟩ M 0 = some ⟨S1, c⟩ := by
        have f1 := find_one (st := ⟨S1, c⟩) (f + 4) zM z0 rfl
        have f2 := find_one (st := ⟨S1, c⟩) (f + 4) z0 z0 rfl
        rw [unifyS, f1, Option.bind_some]
        simp only
        rw [f2, Option.bind_some]
        simp only [z0]
        rw [if_pos trivial]
      have u2 := unify_same (st := ⟨S1 ++ N2, c⟩) (f + 4) (get_more z0) rfl
      have a1 : addS 0 0 0 ⟨S, c⟩ = some (L, ⟨S ++ [⟨0, 0, 0, L⟩], c⟩) := by rw [addS, if_pos (by simp only; omega), hL]
      have a2 : addS 3 L L ⟨S ++ [⟨0, 0, 0, L⟩], c⟩ = some (L + 1, ⟨S ++ [⟨0, 0, 0, L⟩] ++ [⟨3, L, L, L + 1⟩], c⟩) := by rw [addS, if_pos (by simp; omega)]; simp [hL]
      have a3 : addS 0 0 0 ⟨S ++ [⟨0, 0, 0, L⟩] ++ [⟨3, L, L, L + 1⟩] ++ N1, c⟩ = some (M, ⟨S ++ [⟨0, 0, 0, L⟩] ++ [⟨3, L, L, L + 1⟩] ++ N1 ++ [⟨0, 0, 0, M⟩], c⟩) := by
        have : (S ++ [(⟨0, 0, 0, L⟩ : Sh)] ++ [(⟨3, L, L, L + 1⟩ : Sh)] ++ N1).length = M := by simp; omega
        rw [addS, if_pos (by simp only [this]; omega)]
        simp only [this]
      have a4 : addS 3 0 M ⟨S ++ [⟨0, 0, 0, L⟩] ++ [⟨3, L, L, L + 1⟩] ++ N1 ++ [⟨0, 0, 0, M⟩], c⟩ = some (M + 1, ⟨S ++ ⟨0, 0, 0, L⟩ :: ⟨3, L, L, L + 1⟩ :: (N1 ++ [⟨0, 0, 0, M⟩, ⟨3, 0, M, M + 1⟩]), c⟩) := by
        have : (S ++ [(⟨0, 0, 0, L⟩ : Sh)] ++ [(⟨3, L, L, L + 1⟩ : Sh)] ++ N1 ++ [(⟨0, 0, 0, M⟩ : Sh)]).length = M + 1 := by simp; omega
        rw [addS, if_pos (by simp only [this]; omega)]
        simp only [this, e1]
      have nm : inferS (f + 4) (.name (o + 11) (o + 12) [118]) (.fix [118] L env) ⟨S ++ [⟨0, 0, 0, L⟩], c⟩ = some (L, ⟨S ++ [⟨0, 0, 0, L⟩], c⟩) := by
        rw [inferS]
        simp [En.look]
      have cl : inferS (f + 7) (.call (o + 1) (o + a.len + 14) (.bracket (o + 1) (o + 13) (.fn (o + 2) (o + 12) [118] (o + 6) (.name (o + 11) (o + 12) [118]))) (a.tree (o + 14))) env ⟨S, c⟩ = some (M, ⟨S1, c⟩) := by
        rw [inferS, inferS, inferS, a1, Option.bind_some]
        simp only
        rw [nm, Option.bind_some]
        simp only
        rw [a2, Option.bind_some]
        simp only
        rw [i1, Option.bind_some]
        simp only
        rw [a3, Option.bind_some]
        simp only
        rw [a4, Option.bind_some]
        simp only
        rw [uc, Option.bind_some, hS1]
      rw [tree, inferS, inferS, cl, Option.bind_some]
      simp only
      rw [u1, Option.bind_some, i2, Option.bind_some]
      simp only
      rw [u2, Option.bind_some, hS1]
      simp
    · intro k k1 k2
      rw [← List.append_assoc, ← hS1]
      have k3 : k < S1.length + N2.length := by rw [lS1]; simp at k2; omega
      by_cases hk : S1.length ≤ k
      · exact (g2 k hk k3).move hk (by omega) (fun _ _ _ h => h)
      · have k4 : Good L S1 k := by
          by_cases c1 : k = L
          · subst c1
            exact ⟨_, _, zL, z0, rfl, .inl rfl, by simp [madeS]⟩
          by_cases c2 : k = L + 1
          · subst c2
            exact ⟨_, _, zL1, zM1, rfl, .inr (by simp only; omega), fun _ => ⟨⟨⟨_, z0, rfl⟩, .inl rfl⟩, ⟨⟨_, zM, rfl⟩, .inr (by simp only; omega)⟩⟩⟩
          by_cases c3 : k = M
          · subst c3
            exact ⟨_, _, zM, z0, rfl, .inl rfl, by simp [madeS]⟩
          by_cases c4 : k = M + 1
          · subst c4
            exact ⟨_, _, zM1, zM1, rfl, .inr (by simp only; omega), fun _ => ⟨⟨⟨_, z0, rfl⟩, .inl rfl⟩, ⟨⟨_, zM, rfl⟩, .inr (by simp only; omega)⟩⟩⟩
          refine (g1 k (by simp; omega) (by simp; omega)).move (by simp; omega) (by simp; omega) ?_
          intro q hq x hx
          rcases hq with rfl | hq
          · rw [get_more (get_more (get_more h0))] at hx
            rw [z0]
            exact hx
          · rw [List.getElem?_append_right hq] at hx
            rw [hS1, show S ++ ⟨0, 0, 0, 0⟩ :: ⟨3, L, L, M + 1⟩ :: (N1 ++ [⟨0, 0, 0, 0⟩, ⟨3, 0, M, M + 1⟩]) = (S ++ [⟨0, 0, 0, 0⟩] ++ [⟨3, L, L, M + 1⟩]) ++ (N1 ++ [⟨0, 0, 0, 0⟩, ⟨3, 0, M, M + 1⟩]) from by simp, List.getElem?_append_right (by simpa using hq)]
            refine get_more ?_
            simpa using hx
        rw [hL] at k4
        exact k4.more (by omega) (Nat.le_refl _)
  | .low a b, o, env, st, fuel, hf, h0, h1, hl => by
    simp only [Ex.fuel] at hf
    simp only [calls] at hl
    obtain ⟨f, rfl⟩ : ∃ f, fuel = f + 6 := ⟨fuel - 6, by omega⟩
    obtain ⟨N1, i1, l1, g1⟩ := infer a (o + 4) env st (f + 3) (by omega) h0 h1 (by omega)
    obtain ⟨N2, i2, l2, g2⟩ := infer b (o + a.len + 7) env ⟨st.shs ++ N1, st.clash⟩ (f + 3) (by omega) (get_more h0) (get_more h1) (by simp; omega)
    obtain ⟨N3, i3, l3, g3⟩ := infer a (o + a.len + b.len + 13) env ⟨st.shs ++ N1 ++ N2, st.clash⟩ (f + 4) (by omega) (get_more (get_more h0)) (get_more (get_more h1)) (by simp; omega)
    obtain ⟨N4, i4, l4, g4⟩ := infer b (o + a.len + b.len + a.len + 19) env ⟨st.shs ++ N1 ++ N2 ++ N3, st.clash⟩ (f + 4) (by omega) (get_more (get_more (get_more h0))) (get_more (get_more (get_more h1))) (by simp; omega)
    refine ⟨N1 ++ N2 ++ N3 ++ N4, ?_, by simp only [List.length_append, calls]; omega, ?_⟩
    · have u1 := unify_same (st := ⟨st.shs ++ N1, st.clash⟩) f (get_more h0) rfl
      have u2 := unify_same (st := ⟨st.shs ++ N1 ++ N2, st.clash⟩) f (get_more (get_more h0)) rfl
      have u3 := unify_same (st := ⟨st.shs ++ N1 ++ N2, st.clash⟩) (f + 1) (get_more (get_more h1)) rfl
      have u4 := unify_same (st := ⟨st.shs ++ N1 ++ N2 ++ N3 ++ N4, st.clash⟩) (f + 1) (get_more (get_more (get_more (get_more h0)))) rfl
      rw [tree, inferS, inferS, inferS, i1, Option.bind_some]
      simp only
      rw [u1, Option.bind_some, i2, Option.bind_some]
      simp only
      rw [u2, Option.bind_some, if_pos (.inl trivial), Option.bind_some]
      simp only
      rw [u3, Option.bind_some, i3, Option.bind_some]
      simp only
      rw [i4, Option.bind_some]
      simp only
      rw [u4, Option.bind_some]
      simp
    · intro k k1 k2
      rw [← List.append_assoc, ← List.append_assoc, ← List.append_assoc]
      simp only [List.length_append] at k2
      by_cases ha : k < st.shs.length + N1.length
      · exact (((g1 k k1 ha).more k1 (Nat.le_refl _)).more k1 (Nat.le_refl _)).more k1 (Nat.le_refl _)
      by_cases hb : k < st.shs.length + N1.length + N2.length
      · exact ((g2 k (by simp; omega) (by simp; omega)).more (by simp; omega) (lo' := st.shs.length) (by simp)).more k1 (Nat.le_refl _)
      by_cases hc : k < st.shs.length + N1.length + N2.length + N3.length
      · exact (g3 k (by simp; omega) (by simp; omega)).more (by simp; omega) (by simp)
      · exact (g4 k (by simp; omega) (by simp; omega)).move (by simp; omega) (by simp) (fun _ _ _ h => h)

end Go.Proofs.YtckhafpejefbbaaGreatDoor.Tw

/- Counted's texts are fine: of type int; what they come to. -/
namespace Go.Proofs.YtckhafpejefbbaaGreatDoor.Tw
open Go Go.RowKit

/-- Marks of a search that has met nothing within itself. -/
structure CalmMk (S : List Sh) (mk : List Int) : Prop where
  len : mk.length = S.length
  zero : mk[0]? = some 0
  not1 : ∀ k : Nat, mk[k]? ≠ some 1

theorem holds_calm {st : SS} (n : Nat) (h0 : st.shs[0]? = some ⟨1, 0, 0, 0⟩) {lo r : Nat} (hg : Good lo st.shs r) {mk : List Int} (hc : CalmMk st.shs mk) : ∃ mk', holdsS (n + 4) st mk r = some (false, st, mk') ∧ CalmMk st.shs mk' := by
  obtain ⟨x, y, h1, h2, h3, _, h5⟩ := hg
  have hl : x.same < st.shs.length := by rcases Nat.lt_or_ge x.same st.shs.length with h' | h'; exact h'; rw [List.getElem?_eq_none h'] at h2; simp at h2
  have f1 := find_one (n + 1) h1 h2 h3
  obtain ⟨m, hm⟩ : ∃ m, mk[x.same]? = some m := ⟨_, List.getElem?_eq_getElem (by rw [hc.len]; exact hl)⟩
  rw [holdsS, f1, Option.bind_some]
  simp only [h2, hm]
  by_cases hd : m = 0 ∧ madeS y = true
  · rw [if_pos hd]
    obtain ⟨⟨⟨z1, a1, a2⟩, _⟩, ⟨⟨z2, b1, b2⟩, _⟩⟩ := h5 hd.2
    have hp : x.same ≠ 0 := by
      intro e
      rw [e, h0] at h2
      have := hd.2
      rw [← Option.some.inj h2] at this
      simp [madeS] at this
    have hm0 : (mk.set x.same 1)[0]? = some 0 := by rw [List.getElem?_set, if_neg hp, hc.zero]
    have g1 := find_one (n + 0) a1 (by rw [a2]; exact h0) (by simp [a2])
    have g2 := find_one (n + 0) b1 (by rw [b2]; exact h0) (by simp [b2])
    have s1 : holdsS (n + 3) st (mk.set x.same 1) y.left = some (false, st, mk.set x.same 1) := by
      rw [holdsS, g1, Option.bind_some, a2]
      simp only [h0, hm0]
      rw [if_neg (by simp [madeS])]
      rfl
    have s2 : holdsS (n + 3) st (mk.set x.same 1) y.right = some (false, st, mk.set x.same 1) := by
      rw [holdsS, g2, Option.bind_some, b2]
      simp only [h0, hm0]
      rw [if_neg (by simp [madeS])]
      rfl
    rw [s1, Option.bind_some]
    simp only
    rw [if_neg (by simp), s2, Option.bind_some]
    simp only
    rw [if_neg (by simp)]
    refine ⟨_, rfl, by simp [hc.len], by rw [List.getElem?_set, if_neg hp, hm0], ?_⟩
    intro k
    rw [List.set_set, List.getElem?_set]
    split
    · split <;> simp
    · exact hc.not1 k
  · rw [if_neg hd]
    have : (m == 1) = false := by
      have := hc.not1 x.same
      rw [hm] at this
      simpa using this
    exact ⟨mk, by rw [this], hc⟩

theorem endless_calm {st : SS} (n : Nat) (h0 : st.shs[0]? = some ⟨1, 0, 0, 0⟩) (hg : ∀ k, k < st.shs.length → ∃ lo, Good lo st.shs k) : ∀ (f r : Nat) (mk : List Int), CalmMk st.shs mk → r ≤ st.shs.length → st.shs.length < r + f → endlessFrom (n + 4) f st mk r st.shs.length = some (false, st)
  | 0, r, mk, hc, hr, hf => by omega
  | f + 1, r, mk, hc, hr', hf => by
    rw [endlessFrom]
    by_cases hr : r < st.shs.length
    · obtain ⟨lo, hgr⟩ := hg r hr
      obtain ⟨mk', e, hc'⟩ := holds_calm n h0 hgr hc
      rw [if_pos hr, e, Option.bind_some]
      simp only
      rw [if_neg (by simp)]
      exact endless_calm n h0 hg f (r + 1) mk' hc' (by omega) (by omega)
    · rw [if_neg hr]

theorem Ex.typed {e : Ex} (h4 : 4 * e.calls ≤ 300) : IntTyped (e.tree 0) := by
  obtain ⟨N, i, l, g⟩ := e.infer 0 .nil ss0 (e.fuel + 20) (by omega) rfl rfl (by simp [ss0]; omega)
  have h0 : (ss0.shs ++ N)[0]? = some ⟨1, 0, 0, 0⟩ := rfl
  have h1 : (ss0.shs ++ N)[1]? = some ⟨2, 0, 0, 1⟩ := rfl
  have hg : ∀ k, k < (ss0.shs ++ N).length → ∃ lo, Good lo (ss0.shs ++ N) k := by
    intro k hk
    by_cases c0 : k = 0
    · subst c0
      exact ⟨0, _, _, h0, h0, rfl, .inl rfl, by simp [madeS]⟩
    by_cases c1 : k = 1
    · subst c1
      exact ⟨0, _, _, h1, h1, rfl, .inr (by simp), by simp [madeS]⟩
    · exact ⟨_, g k (by simp [ss0]; omega) (by simpa using hk)⟩
  refine ⟨e.fuel + 20, 0, 0, _, _, _, _, i, rfl, ?_, find_one (st := ⟨ss0.shs ++ N, ss0.clash⟩) (e.fuel + 18) h0 h0 rfl, h0, rfl⟩
  refine endless_calm (st := ⟨ss0.shs ++ N, ss0.clash⟩) (e.fuel + 16) h0 hg _ 0 _ ⟨by simp, by simp [ss0, List.replicate_succ], ?_⟩ (by simp) (by simp)
  intro k
  rw [List.getElem?_replicate]
  split <;> simp

theorem Ex.val_range : ∀ e : Ex, e.ok → -9223372036854775808 ≤ e.val ∧ e.val ≤ 9223372036854775807
  | .num n, h => by simp only [Ex.ok] at h; simp only [val]; omega
  | .two false a b, _ => by simp only [val, wrap64]; omega
  | .two true a b, _ => by simp only [val, wrap64]; omega
  | .mul a b, _ => by simp only [val, wrap64]; omega
  | .low a b, h => by
    have := val_range a h.1
    have := val_range b h.2
    simp only [val]
    split <;> omega

theorem told_int {v : Int} (h : -9223372036854775808 ≤ v ∧ v ≤ 9223372036854775807) : toldS 400 (writeV (.num v) []) = Lib.itoa v := by
  have hl : (Lib.itoa v).length ≤ 20 := by
    unfold Lib.itoa
    split
    · have := (decDigits_len 18 v.natAbs (by omega)).2
      simp
      omega
    · have := (decDigits_len 18 v.toNat (by omega)).2
      omega
  have e : writeV (.num v) [] = Lib.itoa v := rfl
  rw [e, toldS, if_neg (by omega)]

theorem Ex.runs {e : Ex} (h : e.ok) {bud : Nat} (hb : e.calls ≤ bud) : ∃ k, runS e.fuel (e.tree 0) bud = some (0, k, Lib.itoa e.val) ∧ k ≤ bud ∧ (e.calls = 0 → k = 0) := by
  obtain ⟨st, h1, h2, h3⟩ := e.run bud 0 [] ⟨[], 0, 0⟩ e.fuel h (Nat.le_refl _) (by simp only; omega)
  simp only at h2
  refine ⟨st.steps, ?_, by omega, by omega⟩
  rw [runS, h1, Option.bind_some]
  simp only
  rw [told_int (e.val_range h)]

end Go.Proofs.YtckhafpejefbbaaGreatDoor.Tw

namespace Go.Proofs.YtckhafpejefbbaaGreatDoor
open Go.RowKit

def exB (e : Tw.Ex) : ByteArray := ⟨e.bytes.toArray⟩

theorem Tw.Ex.fine {e : Tw.Ex} (h : e.ok) (hd : e.deep ≤ 40) (hl : e.len ≤ 300) : Fine ShS (exB e) (e.tree 0) [105, 110, 116] := by
  have hs := e.size_len h
  have hc := e.calls_len
  refine ⟨?_, e.whole h hd hl, allBound_of (e.bound 0 []), ⟨_, e.weight 0 .nil (by omega), by omega⟩, (e.typed (by omega)).said, by decide⟩
  show e.bytes.toArray.size ≤ 300
  rw [List.size_toArray, e.bytes_len]
  exact hl

end Go.Proofs.YtckhafpejefbbaaGreatDoor

/- Counted's second text: signs without brackets. -/
namespace Go.Proofs.YtckhafpejefbbaaGreatDoor.Tw
open Go Go.RowKit

def textU (da db dc : List UInt8) : List UInt8 := da ++ (32 :: 45 :: 32 :: (db ++ (42 :: (dc ++ (47 :: (dc ++ (32 :: 45 :: 32 :: dc)))))))

def toksU (a b c : Nat) : List Tok := [⟨2, 0, a⟩, ⟨20, a + 1, a + 2⟩, ⟨2, a + 3, a + b + 3⟩, ⟨21, a + b + 3, a + b + 4⟩, ⟨2, a + b + 4, a + b + c + 4⟩, ⟨22, a + b + c + 4, a + b + c + 5⟩, ⟨2, a + b + c + 5, a + b + c + c + 5⟩, ⟨20, a + b + c + c + 6, a + b + c + c + 7⟩, ⟨2, a + b + c + c + 8, a + b + c + c + c + 8⟩]

def treeU (a b c : Nat) (A B C : Int) : T :=
  .binary 0 (a + b + c + c + c + 8) 20 (.binary 0 (a + b + c + c + 5) 20 (.int 0 a A)
    (.binary (a + 3) (a + b + c + c + 5) 22 (.binary (a + 3) (a + b + c + 4) 21 (.int (a + 3) (a + b + 3) B) (.int (a + b + 4) (a + b + c + 4) C)) (.int (a + b + c + 5) (a + b + c + c + 5) C)))
    (.int (a + b + c + c + 8) (a + b + c + c + c + 8) C)

theorem Lex.slash_ {off : Nat} {m : List UInt8} {ts : List Tok} (h : Lex (off + 1) m ts) : Lex off (47 :: m) (⟨22, off, off + 1⟩ :: ts) :=
  Lex.sign 47 22 (by decide) (by decide) (by cases m <;> simp) (by decide) (by simp [gapL, headI]) h

theorem Lex.cons {off n : Nat} {d r : List UInt8} {us : List Tok} (hr : sepH r) (hd : Lex off d [⟨2, off, off + d.length⟩]) (h : Lex (off + d.length) r us) (hn : off + d.length = n) : Lex off (d ++ r) (⟨2, off, n⟩ :: us) := by
  subst hn
  exact Lex.append (ts := [_]) hr hd h

theorem lexU {A B C : Nat} {da db dc : List UInt8} (hA : Dig A da) (hB : Dig B db) (hC : Dig C dc) : Lex 0 (textU da db dc) (toksU da.length db.length dc.length) := by
  have la := hA.len
  have lb := hB.len
  have lc := hC.len
  have nA := Lex.number 0 hA.ne hA.dig (by omega)
  have nB := fun o => Lex.number o hB.ne hB.dig (by omega)
  have nC := fun o => Lex.number o hC.ne hC.dig (by omega)
  unfold textU toksU
  refine Lex.cons (sep32 _) nA (Lex.blank ?_) (by omega)
  rw [Nat.zero_add]
  refine Lex.minus_ (Lex.blank ?_)
  refine Lex.cons ⟨by decide, by decide⟩ (nB _) ?_ (by omega)
  rw [show da.length + 1 + 1 + 1 + db.length = da.length + db.length + 3 from by omega]
  refine Lex.star_ ?_
  refine Lex.cons ⟨by decide, by decide⟩ (nC _) ?_ (by omega)
  rw [show da.length + db.length + 3 + 1 + dc.length = da.length + db.length + dc.length + 4 from by omega]
  refine Lex.slash_ ?_
  refine Lex.cons (sep32 _) (nC _) (Lex.blank ?_) (by omega)
  rw [show da.length + db.length + dc.length + 4 + 1 + dc.length + 1 = da.length + db.length + dc.length + dc.length + 6 from by omega]
  refine Lex.minus_ (Lex.blank ?_)
  have := nC (da.length + db.length + dc.length + dc.length + 6 + 1 + 1)
  rw [show da.length + db.length + dc.length + dc.length + 6 + 1 + 1 + dc.length = da.length + db.length + dc.length + dc.length + dc.length + 8 from by omega] at this
  exact this

/-- A product, and what it is divided by. -/
theorem ev_term3 {l : List UInt8} {ts : List Tok} {n i d j j1 j2 : Nat} {x y z : T} {t s u : Tok} (h : Ev n (callS l ts) (at_ i d) (x, at_ j d)) (ht : ts[j]? = some t) (h1 : t.sort = 21) (hj : j ≤ 300) (h' : Ev n (callS l ts) (at_ (j + 1) d) (y, at_ j1 d))
    (hs : ts[j1]? = some s) (h2 : s.sort = 22) (hj1 : j1 ≤ 300) (h'' : Ev n (callS l ts) (at_ (j1 + 1) d) (z, at_ j2 d)) (hu : ts[j2]? = some u) (h3 : u.sort ≠ 21) (h4 : u.sort ≠ 22) :
    Ev (n + 6) (termS l ts) (at_ i d) (.binary x.fr z.to 22 (.binary x.fr y.to 21 x y) z, at_ j2 d) := by
  intro k hk
  obtain ⟨k, rfl⟩ : ∃ k', k = k' + 6 := ⟨k - 6, by omega⟩
  rw [termS, chainS, partS, h (k + 3) (by omega), Option.bind_some]
  show chainFromS l ts (k + 4) .call [21, 22] x (at_ j d) = _
  rw [chainFromS, any_hit ht (by rw [h1]; decide) hj (by rw [h1]; simp), Option.bind_some, if_neg (by show ¬ t.sort = 0; rw [h1]; decide), partS]
  show (callS l ts (k + 2) (at_ (j + 1) d)).bind _ = _
  rw [h' (k + 2) (by omega), Option.bind_some]
  show chainFromS l ts (k + 3) .call [21, 22] (.binary x.fr y.to t.sort x y) (at_ j1 d) = _
  rw [chainFromS, any_hit hs (by rw [h2]; decide) hj1 (by rw [h2]; simp), Option.bind_some, if_neg (by show ¬ s.sort = 0; rw [h2]; decide), partS]
  show (callS l ts (k + 1) (at_ (j1 + 1) d)).bind _ = _
  rw [h'' (k + 1) (by omega), Option.bind_some]
  show chainFromS l ts (k + 2) .call [21, 22] (.binary x.fr z.to s.sort (.binary x.fr y.to t.sort x y) z) (at_ j2 d) = _
  rw [chainFromS, any_miss hu (by simp [h3, h4]), Option.bind_some, if_pos rfl, h1, h2]

theorem ev_sum3 {l : List UInt8} {ts : List Tok} {n i d j j1 j2 : Nat} {x y z : T} {t s u : Tok} (h : Ev n (termS l ts) (at_ i d) (x, at_ j d)) (ht : ts[j]? = some t) (h1 : t.sort = 20) (hj : j ≤ 300) (h' : Ev n (termS l ts) (at_ (j + 1) d) (y, at_ j1 d))
    (hs : ts[j1]? = some s) (h2 : s.sort = 20) (hj1 : j1 ≤ 300) (h'' : Ev n (termS l ts) (at_ (j1 + 1) d) (z, at_ j2 d)) (hu : ts[j2]? = some u) (h3 : u.sort ≠ 19) (h4 : u.sort ≠ 20) :
    Ev (n + 6) (sumS l ts) (at_ i d) (.binary x.fr z.to 20 (.binary x.fr y.to 20 x y) z, at_ j2 d) := by
  intro k hk
  obtain ⟨k, rfl⟩ : ∃ k', k = k' + 6 := ⟨k - 6, by omega⟩
  rw [sumS, chainS, partS, h (k + 3) (by omega), Option.bind_some]
  show chainFromS l ts (k + 4) .term [19, 20] x (at_ j d) = _
  rw [chainFromS, any_hit ht (by rw [h1]; decide) hj (by rw [h1]; simp), Option.bind_some, if_neg (by show ¬ t.sort = 0; rw [h1]; decide), partS]
  show (termS l ts (k + 2) (at_ (j + 1) d)).bind _ = _
  rw [h' (k + 2) (by omega), Option.bind_some]
  show chainFromS l ts (k + 3) .term [19, 20] (.binary x.fr y.to t.sort x y) (at_ j1 d) = _
  rw [chainFromS, any_hit hs (by rw [h2]; decide) hj1 (by rw [h2]; simp), Option.bind_some, if_neg (by show ¬ s.sort = 0; rw [h2]; decide), partS]
  show (termS l ts (k + 1) (at_ (j1 + 1) d)).bind _ = _
  rw [h'' (k + 1) (by omega), Option.bind_some]
  show chainFromS l ts (k + 2) .term [19, 20] (.binary x.fr z.to s.sort (.binary x.fr y.to t.sort x y) z) (at_ j2 d) = _
  rw [chainFromS, any_miss hu (by simp [h3, h4]), Option.bind_some, if_pos rfl, h1, h2]

theorem ev_num {l : List UInt8} {ts : List Tok} {i d n fr to : Nat} {m : List UInt8} (hm : Dig n m) (hi : ts[i]? = some ⟨2, fr, to⟩) (hl : ts.length ≤ 301) (hb : Here l fr m) (hto : fr + m.length = to) : Ev 1 (atomS l ts) (at_ i d) (.int fr to n, at_ (i + 1) d) := by
  subst hto
  refine ev_leaf hi hl (by dsimp only; decide) (by dsimp only; decide) (by dsimp only; decide) ?_
  rw [leafS, if_pos rfl, if_pos ⟨by simp, hb.len⟩, hb.piece, hm.val, Option.bind_some]

theorem textU_len (da db dc : List UInt8) : (textU da db dc).length = da.length + db.length + dc.length + dc.length + dc.length + 8 := by
  simp [textU]
  omega

theorem wholeU {A B C : Nat} {da db dc : List UInt8} (hA : Dig A da) (hB : Dig B db) (hC : Dig C dc) : ∃ ts fuel, split (textU da db dc) = .ok ts ∧ parseS (textU da db dc) ts fuel = some (.ok (treeU da.length db.length dc.length A B C)) := by
  refine ⟨_, 60, split_ok_iff.2 ⟨_, lexU hA hB hC, rfl⟩, ?_⟩
  have bA : Here (textU da db dc) 0 da := ⟨[], _, rfl, rfl⟩
  have bB : Here (textU da db dc) (da.length + 3) db := ⟨da ++ [32, 45, 32], 42 :: (dc ++ (47 :: (dc ++ (32 :: 45 :: 32 :: dc)))), by simp [textU], by simp⟩
  have bC1 : Here (textU da db dc) (da.length + db.length + 4) dc := ⟨da ++ ([32, 45, 32] ++ (db ++ [42])), 47 :: (dc ++ (32 :: 45 :: 32 :: dc)), by simp [textU], by simp; omega⟩
  have bC2 : Here (textU da db dc) (da.length + db.length + dc.length + 5) dc := ⟨da ++ ([32, 45, 32] ++ (db ++ ([42] ++ (dc ++ [47])))), 32 :: 45 :: 32 :: dc, by simp [textU], by simp; omega⟩
  have bC3 : Here (textU da db dc) (da.length + db.length + dc.length + dc.length + 8) dc := ⟨da ++ ([32, 45, 32] ++ (db ++ ([42] ++ (dc ++ ([47] ++ (dc ++ [32, 45, 32])))))), [], by simp [textU], by simp; omega⟩
  generalize hts : toksU da.length db.length dc.length ++ [(⟨0, (textU da db dc).length, (textU da db dc).length⟩ : Tok)] = ts
  have hl : ts.length ≤ 301 := by rw [← hts]; simp [toksU]
  have t0 : ts[0]? = some ⟨2, 0, da.length⟩ := by rw [← hts]; rfl
  have t1 : ts[1]? = some ⟨20, da.length + 1, da.length + 2⟩ := by rw [← hts]; rfl
  have t2 : ts[2]? = some ⟨2, da.length + 3, da.length + db.length + 3⟩ := by rw [← hts]; rfl
  have t3 : ts[3]? = some ⟨21, da.length + db.length + 3, da.length + db.length + 4⟩ := by rw [← hts]; rfl
  have t4 : ts[4]? = some ⟨2, da.length + db.length + 4, da.length + db.length + dc.length + 4⟩ := by rw [← hts]; rfl
  have t5 : ts[5]? = some ⟨22, da.length + db.length + dc.length + 4, da.length + db.length + dc.length + 5⟩ := by rw [← hts]; rfl
  have t6 : ts[6]? = some ⟨2, da.length + db.length + dc.length + 5, da.length + db.length + dc.length + dc.length + 5⟩ := by rw [← hts]; rfl
  have t7 : ts[7]? = some ⟨20, da.length + db.length + dc.length + dc.length + 6, da.length + db.length + dc.length + dc.length + 7⟩ := by rw [← hts]; rfl
  have t8 : ts[8]? = some ⟨2, da.length + db.length + dc.length + dc.length + 8, da.length + db.length + dc.length + dc.length + dc.length + 8⟩ := by rw [← hts]; rfl
  have t9 : ts[9]? = some ⟨0, (textU da db dc).length, (textU da db dc).length⟩ := by rw [← hts]; rfl
  have n0 := ev_num (d := 0) hA t0 hl bA (by omega)
  have n2 := ev_num (d := 0) hB t2 hl bB (by omega)
  have n4 := ev_num (d := 0) hC t4 hl bC1 (by omega)
  have n6 := ev_num (d := 0) hC t6 hl bC2 (by omega)
  have n8 := ev_num (d := 0) hC t8 hl bC3 (by omega)
  have m0 := ev_atom_term n0 t1 (by dsimp only; decide) (by dsimp only; decide) (by dsimp only; decide)
  have m8 := ev_atom_term n8 t9 (by dsimp only; decide) (by dsimp only; decide) (by dsimp only; decide)
  have c2 := ev_call n2 t3 (by dsimp only; decide)
  have c4 := ev_call n4 t5 (by dsimp only; decide)
  have c6 := ev_call n6 t7 (by dsimp only; decide)
  have m2 := ev_term3 c2 t3 rfl (by omega) c4 t5 rfl (by omega) c6 t7 (by dsimp only; decide) (by dsimp only; decide)
  have sm := ev_sum3 (m0.mono (m := 9) (by omega)) t1 rfl (by omega) m2 t7 rfl (by omega) (m8.mono (m := 9) (by omega)) t9 (by dsimp only; decide) (by dsimp only; decide)
  have x := ev_expr (ev_cmp sm t9 (by dsimp only; decide) (by dsimp only; decide)) t0 (by dsimp only; decide) (by dsimp only; decide) (by dsimp only; decide) 60 (by omega)
  rw [parseS, x, Option.bind_some]
  show (takeS _ 0 (at_ 9 0)).bind _ = _
  rw [takeS, tok_at, t9, Option.bind_some, if_pos rfl, if_pos rfl, Option.bind_some]
  rfl

theorem typedU (a b c : Nat) (A B C : Int) : IntTyped (treeU a b c A B C) := intTyped_of (fuel := 100) (by rfl)

theorem runU (a b c A B C : Nat) (hA : A < 50) (hB : B < 50) (hC : C ≤ 50) (hC0 : 1 ≤ C) : runS 10 (treeU a b c A B C) 0 = some (0, 0, Lib.itoa ((A : Int) - B - C)) := by
  have hm : 0 ≤ (B : Int) * C ∧ (B : Int) * C ≤ 2500 := ⟨Int.mul_nonneg (by omega) (by omega), by
    have : B * C ≤ 50 * 50 := Nat.mul_le_mul (by omega) (by omega)
    have e : ((B * C : Nat) : Int) = (B : Int) * C := Int.natCast_mul B C
    omega⟩
  have hd : ((B : Int) * C).tdiv C = B := Int.mul_tdiv_cancel _ (by omega)
  have w1 : wrap64 ((B : Int) * C) = (B : Int) * C := by unfold wrap64; omega
  have w2 : wrap64 (B : Int) = B := by unfold wrap64; omega
  have w3 : wrap64 ((A : Int) - B) = (A : Int) - B := by unfold wrap64; omega
  have w4 : wrap64 ((A : Int) - B - C) = (A : Int) - B - C := by unfold wrap64; omega
  have rA : -9223372036854775808 ≤ (A : Int) ∧ (A : Int) ≤ 9223372036854775807 := by omega
  have rB : -9223372036854775808 ≤ (B : Int) ∧ (B : Int) ≤ 9223372036854775807 := by omega
  have rC : -9223372036854775808 ≤ (C : Int) ∧ (C : Int) ≤ 9223372036854775807 := by omega
  have hc0 : ¬ C = 0 := by omega
  have ev : evalS 0 10 (treeU a b c A B C) [] ⟨[], 0, 0⟩ = some (some (.num ((A : Int) - B - C)), ⟨[], 0, 0⟩) := by
    simp only [treeU, evalS, if_pos rA, if_pos rB, if_pos rC, Option.bind_some, reckonS, asNum]
    simp [hc0, w1, hd, w2, w3, w4]
  rw [runS, ev, Option.bind_some]
  simp only
  rw [told_int (by omega)]

end Go.Proofs.YtckhafpejefbbaaGreatDoor.Tw

namespace Go.Proofs.YtckhafpejefbbaaGreatDoor
open Go.RowKit

def txU (da db dc : List UInt8) : ByteArray := ⟨(Tw.textU da db dc).toArray⟩

theorem fineU {A B C : Nat} (hA : A < 200) (hB : B < 200) (hC : C < 200) : Fine ShS (txU (Lib.decDigits A) (Lib.decDigits B) (Lib.decDigits C)) (Tw.treeU (Lib.decDigits A).length (Lib.decDigits B).length (Lib.decDigits C).length A B C) [105, 110, 116] := by
  have dA := dig_of hA
  have dB := dig_of hB
  have dC := dig_of hC
  have la := dA.len
  have lb := dB.len
  have lc := dC.len
  refine ⟨?_, Tw.wholeU dA dB dC, allBound_of rfl, ⟨9, rfl, by omega⟩, (Tw.typedU _ _ _ _ _ _).said, by decide⟩
  show (Tw.textU _ _ _).toArray.size ≤ 300
  rw [List.size_toArray, Tw.textU_len]
  omega

end Go.Proofs.YtckhafpejefbbaaGreatDoor

/- tailorkeep.Recursive. -/
namespace Go.Proofs.YtckhafpejefbbaaGreatDoor
open Go.RowKit

theorem budget_nat (n : Nat) (h : n ≤ 3000) : budget (n : Int) = n := by unfold budget; omega

theorem txR_eq (dk dn : List UInt8) : (((⟨#[108, 101, 116, 32, 114, 101, 99, 32, 102, 32, 61, 32, 102, 117, 110, 32, 110, 32, 45, 62, 32, 105, 102, 32, 110, 32, 60, 32, 49, 32, 116, 104, 101, 110, 32]⟩ : ByteArray) ++ ⟨dk.toArray⟩) ++ ⟨#[32, 101, 108, 115, 101, 32, 110, 32, 43, 32, 102, 32, 40, 110, 32, 45, 32, 49, 41, 32, 105, 110, 32, 102, 32]⟩) ++ ⟨dn.toArray⟩ = txR dk dn := by
  have hA : Tw.pA ++ [32] = [108, 101, 116, 32, 114, 101, 99, 32, 102, 32, 61, 32, 102, 117, 110, 32, 110, 32, 45, 62, 32, 105, 102, 32, 110, 32, 60, 32, 49, 32, 116, 104, 101, 110, 32] := by decide +kernel
  have hB : Tw.pB ++ [32] = [32, 101, 108, 115, 101, 32, 110, 32, 43, 32, 102, 32, 40, 110, 32, 45, 32, 49, 41, 32, 105, 110, 32, 102, 32] := by decide +kernel
  have e : Tw.textR dk dn = (Tw.pA ++ [32]) ++ dk ++ (Tw.pB ++ [32]) ++ dn := by simp [Tw.textR, List.append_assoc]
  apply ba_ext
  rw [txR, e, hA, hB]
  simp

theorem wrap_in {n : Int} (h0 : -9223372036854775808 ≤ n) (h1 : n ≤ 9223372036854775807) : IntKind.i64.wrap n = n := IntWalk.i64_in n ⟨h0, h1⟩

set_option maxRecDepth 100000 in
set_option maxHeartbeats 4000000 in
theorem Recursive_any (L : Lib4) {w : World} (hT : Tab w) (hG : 1 < w.heap.size) (n k : Int) (hn0 : -9223372036854775808 ≤ n) (hn1 : n ≤ 9223372036854775807) (hk0 : -9223372036854775808 ≤ k) (hk1 : k ≤ 9223372036854775807) :
    Calls Tryz.prog 8 #[.int .i64 n, .int .i64 k] w fun e w' => e = .returned (.bool true) ∧ w.grownBy w' none := by
  have HT := hide hT
  clear hT
  go_enter Tryz.func8, Tryz.ntmps8
  go_wp2_with fail
  refine (awake_any L (unhide HT) hG).mono ?_
  rintro e1 w1 ⟨rfl, hk⟩
  have K1 := hide hk
  have z1 := hk.size
  clear hk
  go_wp2_with fail
  refine (pick_any n 200 hn0 hn1 (by omega) (by omega) w1).mono ?_
  rintro e1 w1' ⟨N, rfl, hN, rfl⟩
  go_wp2_with fail
  refine (pick_any k 50 hk0 hk1 (by omega) (by omega) w1).mono ?_
  rintro e1 w1' ⟨K, rfl, hK, rfl⟩
  go_wp2_with fail
  refine (digits_any K (by omega) w1).mono ?_
  rintro e1 w2 ⟨rfl, hg⟩
  have K2 := hide ((unhide K1).trans (TK.of_grown _ _ hg))
  have z2 := hg.size
  have dK := (dig_of (u := K) (by omega)).len
  have dN := (dig_of (u := N) hN).len
  have sK : (Lib.decDigits K).toArray.size ≤ 3 := by simpa using dK
  have sN : (Lib.decDigits N).toArray.size ≤ 3 := by simpa using dN
  clear hg
  go_wp2_with fail
  refine (digits_any N (by omega) w2).mono ?_
  rintro e1 w3 ⟨rfl, hg⟩
  have K3 := hide ((unhide K2).trans (TK.of_grown _ _ hg))
  have z3 := hg.size
  clear hg
  go_wp2_with fail
  rw [txR_eq]
  refine (kopen_fine L.ib L.pi (fineR hK hN) w3).mono ?_
  rintro e1 w4 ⟨bt, rfl, hX, hk⟩
  have X4 := hide hX
  have K4 := hide ((unhide K3).trans ((hk.base (by omega)).sub (S' := LawS) (by decide)))
  have z4 := hk.size
  clear hX hk
  go_wp2_with fail
  have b1 : budget ((N : Int) + 1) = N + 1 := by unfold budget; omega
  refine (Run_any L.fi L.fb ((N : Int) + 1) (unhide X4) ((unhide HT).tk (unhide K4) hG) (by omega) (by rw [b1]; exact run_done hK hN)).mono ?_
  rintro e1 w5 ⟨rfl, hk⟩
  have z5 := hk.size
  have K5 := hide ((unhide K4).trans ((hk.base (by omega)).sub (S' := LawS) (by decide)))
  have X5 := hide ((unhide X4).tk hk (by decide))
  clear hk
  obtain ⟨V, hV⟩ : ∃ V, Lib.decDigits (K + N * (N + 1) / 2) = V := ⟨_, rfl⟩
  rw [hV]
  have HV := hide hV
  clear hV
  go_wp2_with fail
  have G5 : Hid (w5.grownBy (w5.alloc (.cells #[.int .i64 0, .int .i64 ((N + 1 : Nat) : Int), bytesV V] 39)) none) := World.grownBy_alloc _ _ none
  have b2 : budget (N : Int) = N := budget_nat N (by omega)
  refine (Run_any L.fi L.fb (N : Int) ((unhide X5).tk (TK.of_grown 0 [] G5.out) (by decide)) (((unhide HT).tk (unhide K5) hG).tk (TK.of_grown w.heap.size [] G5.out) hG) (by have := G5.out.size; omega) (by rw [b2]; exact run_ends hK hN)).mono ?_
  rintro e1 w6 ⟨rfl, hk⟩
  have z6 := hk.size
  have z6' := G5.out.size
  have K6 := hide (((unhide K5).trans (TK.of_grown _ _ G5.out)).trans ((hk.base (by omega)).sub (S' := LawS) (by decide)))
  have X6 := hide (((unhide X5).tk (TK.of_grown 0 [] G5.out) (by decide)).tk hk (by decide))
  have C6 := hide (hk.cells (three_new w5 (.int .i64 0) (.int .i64 ((N + 1 : Nat) : Int)) (bytesV V) 39) (by decide))
  clear hk
  go_wp2_with fail
  have G6 : Hid (w6.grownBy (w6.alloc (.cells #[.int .i64 2, .int .i64 N, .string ⟨#[]⟩] 39)) none) := World.grownBy_alloc _ _ none
  refine (Type_any (S := ShS) ((unhide X6).tk (TK.of_grown 0 [] G6.out) (by decide)) (fineR hK hN).of).mono ?_
  rintro e1 w7 ⟨rfl, hk⟩
  have z7' := G6.out.size
  have z7 := hk.size
  have K7 := hide (((unhide K6).trans (TK.of_grown _ _ G6.out)).trans ((hk.base (by omega)).sub (S' := LawS) (by decide)))
  have C7 := hide (hk.cells ((G6.out.block _ (Array.getElem?_eq_some_iff.1 (unhide C6)).1 (by simp)).trans (unhide C6)) (by decide))
  have P7 := hide (hk.cells (three_new w6 (.int .i64 2) (.int .i64 N) (.string ⟨#[]⟩) 39) (by decide))
  obtain ⟨o0, o1, o2, _, _, _⟩ := three_cells (unhide C7)
  obtain ⟨p0, p1, p2, _, _, _⟩ := three_cells (unhide P7)
  have l5 : w5.heap.size < w7.heap.size := (Array.getElem?_eq_some_iff.1 (unhide C7)).1
  have l6 : w6.heap.size < w7.heap.size := (Array.getElem?_eq_some_iff.1 (unhide P7)).1
  have hmul : N * (N + 1) ≤ 200 * 200 := Nat.mul_le_mul (by omega) (by omega)
  have hw1 : IntKind.i64.wrap ((N : Int) + 1) = (N : Int) + 1 := wrap_in (by omega) (by omega)
  have hw2 : IntKind.i64.wrap ((N : Int) * ((N : Int) + 1)) = ((N * (N + 1) : Nat) : Int) := by
    rw [show (N : Int) * ((N : Int) + 1) = ((N * (N + 1) : Nat) : Int) from by push_cast; rfl]
    exact wrap_in (by omega) (by omega)
  have hw3' : ((N : Int) * ((N : Int) + 1)) = ((N * (N + 1) : Nat) : Int) := by push_cast; rfl
  have hw3 : IntKind.i64.wrap (((N * (N + 1) : Nat) : Int).tdiv 2) = ((N * (N + 1) / 2 : Nat) : Int) := by
    rw [Int.tdiv_eq_ediv_of_nonneg (by omega), show ((N * (N + 1) : Nat) : Int) / 2 = ((N * (N + 1) / 2 : Nat) : Int) from by omega]
    exact wrap_in (by omega) (by omega)
  have hw4 : IntKind.i64.wrap ((K : Int) + ((N * (N + 1) / 2 : Nat) : Int)) = ((K + N * (N + 1) / 2 : Nat) : Int) := by
    rw [show (K : Int) + ((N * (N + 1) / 2 : Nat) : Int) = ((K + N * (N + 1) / 2 : Nat) : Int) from by omega]
    exact wrap_in (by omega) (by omega)
  have hwA : IntKind.i64.wrap ((K : Int) + IntKind.i64.wrap (((N : Int) * ((N : Int) + 1)).tdiv 2)) = ((K + N * (N + 1) / 2 : Nat) : Int) := by rw [hw3', hw3, hw4]
  have HWA := hide hwA
  have HVL : Hid (K + N * (N + 1) / 2 < 10 ^ 18) := by show _ < _; omega
  clear hwA hw3 hw4 hw3'
  have D7 : Hid (w7.grownBy w7.drew none) := grown_drew (grown_refl _)
  clear hk C6 X6 X5 X4 K2 K3 K4 K5 K6
  have o1' : w7.cell? ⟨w5.heap.size, 1, none⟩ = some (.int .i64 ((N : Int) + 1)) := by rw [o1]; simp
  clear o1
  generalize hR5 : w5.heap.size = r5 at *
  generalize hR6 : w6.heap.size = r6 at *
  clear hR5 hR6
  go_wp2_with fail
  go_region_held3 (fun W => W.cell? ⟨r5, 0, none⟩ = some (.int .i64 0) ∧ W.cell? ⟨r5, 1, none⟩ = some (.int .i64 ((N : Int) + 1)) ∧ W.cell? ⟨r5, 2, none⟩ = some (bytesV V) ∧ W.cell? ⟨r6, 0, none⟩ = some (.int .i64 2) ∧ W.cell? ⟨r6, 1, none⟩ = some (.int .i64 N) ∧ W.cell? ⟨r6, 2, none⟩ = some (.string ⟨#[]⟩)) (go_keep)
    ((go_at_call 20; rw [unhide HWA]; refine (digits_any _ (unhide HVL) _).mono ?_; rintro e1 w8 ⟨rfl, hg⟩
      rw [unhide HV]
      have K8 : Hid (TK w.heap.size LawS w w8) := (unhide K7).trans (TK.of_grown _ _ (grown_trans D7.out hg))
      have g8 := grown_trans D7.out hg
      obtain ⟨q0, q1, q2, _, _, _⟩ := three_cells ((g8.block r5 l5 (by simp)).trans (unhide C7))
      obtain ⟨q3, q4, q5, _, _, _⟩ := three_cells ((g8.block r6 l6 (by simp)).trans (unhide P7))
      have q1' : w8.cell? ⟨r5, 1, none⟩ = some (.int .i64 ((N : Int) + 1)) := by rw [q1]; simp
      clear hg g8 q1))
  go_wp2_with fail
  go_ret
  exact ⟨rfl, (unhide K8).grown⟩

end Go.Proofs.YtckhafpejefbbaaGreatDoor

/- tailorkeep.signed and tailorkeep.sum. -/
namespace Go.Proofs.YtckhafpejefbbaaGreatDoor
open Go.RowKit

theorem itoa_neg {n : Int} (h : n < 0) : Lib.itoa n = 45 :: Lib.decDigits (-n).toNat := by
  unfold Lib.itoa
  rw [if_pos h, show n.natAbs = (-n).toNat from by omega]
theorem itoa_nat (u : Nat) : Lib.itoa (u : Int) = Lib.decDigits u := by
  unfold Lib.itoa
  rw [if_neg (by omega), Int.toNat_natCast]

theorem least_digits : Lib.decDigits 9223372036854775808 = [57, 50, 50, 51, 51, 55, 50, 48, 51, 54, 56, 53, 52, 55, 55, 53, 56, 48, 56] := by
  iterate 19 (unfold Lib.decDigits)
  rfl

set_option maxRecDepth 100000 in
set_option maxHeartbeats 1000000 in
theorem signed_any (n : Int) (h0 : -9223372036854775808 ≤ n) (h1 : n ≤ 9223372036854775807) (w : World) : Calls Tryz.prog 23 #[.int .i64 n] w fun e w' => e = .returned (bytesV (Lib.itoa n)) ∧ w.grownBy w' none := by
  by_cases hn : n < 0
  · by_cases hm : n = -9223372036854775808
    · subst hm
      have hw : wrap64 9223372036854775808 = -9223372036854775808 := by unfold wrap64; omega
      go_enter Tryz.func23, Tryz.ntmps23
      go_wp2_with fail
      go_ret
      refine ⟨?_, grown_refl _⟩
      rw [itoa_neg (by omega), show (- -9223372036854775808 : Int).toNat = 9223372036854775808 from rfl, least_digits]
      rfl
    · obtain ⟨u, hu⟩ : ∃ u : Nat, n = -(u : Int) := ⟨(-n).toNat, by omega⟩
      subst hu
      have hne : ¬ (-(u : Int)) = (u : Int) := by omega
      have hu9 : u < 9223372036854775808 := by omega
      have E := hide (itoa_neg hn)
      have hln : (Lib.decDigits u).length ≤ 19 := (decDigits_len 18 u (by omega)).2
      have hsz : (Lib.decDigits u).toArray.size ≤ 19 := by rw [List.size_toArray]; exact (decDigits_len 18 u (by omega)).2
      go_enter Tryz.func23, Tryz.ntmps23
      go_wp2_with fail
      refine (digits_big u hu9 w).mono ?_
      rintro e1 w1 ⟨rfl, hg⟩
      have G := hide hg
      clear hg
      go_wp2_with fail
      go_ret
      refine ⟨?_, unhide G⟩
      rw [unhide E, Int.neg_neg, Int.toNat_natCast]
      rfl
  · obtain ⟨u, rfl⟩ : ∃ u : Nat, n = (u : Int) := ⟨n.toNat, by omega⟩
    go_enter Tryz.func23, Tryz.ntmps23
    go_wp2_with fail
    refine (digits_big u (by omega) w).mono ?_
    rintro e1 w1 ⟨rfl, hg⟩
    have G := hide hg
    clear hg
    go_wp2_with fail
    go_ret
    exact ⟨by rw [itoa_nat]; rfl, unhide G⟩

end Go.Proofs.YtckhafpejefbbaaGreatDoor

/- tailorkeep.sum. -/
namespace Go.Proofs.YtckhafpejefbbaaGreatDoor
open Go.RowKit

/-- A row of raw numbers, in memory. -/
structure RawAt (w : World) (ar : Option Addr) (len : Nat) : Prop where
  small : len ≤ 9223372036854775807
  get : ∀ i, i < len → ∃ a z, ar = some a ∧ w.cell? (a.add i) = some (.int .i64 z) ∧ -9223372036854775808 ≤ z ∧ z ≤ 9223372036854775807

theorem RawAt.grown {w w' : World} {ar : Option Addr} {len : Nat} (h : RawAt w ar len) (hg : w.grownBy w' none) : RawAt w' ar len := by
  refine ⟨h.small, fun i hi => ?_⟩
  obtain ⟨a, z, h1, h2, h3⟩ := h.get i hi
  exact ⟨a, z, h1, cell_kept h2 hg (by simp), h3⟩

theorem tdiv5 {z : Int} (h0 : -9223372036854775808 ≤ z) (h1 : z ≤ 9223372036854775807) : -9223372036854775808 ≤ z.tdiv 5 ∧ z.tdiv 5 ≤ 9223372036854775807 := by
  by_cases h : 0 ≤ z
  · rw [Int.tdiv_eq_ediv_of_nonneg h]
    omega
  · have e : z.tdiv 5 = -((-z).tdiv 5) := by rw [Int.neg_tdiv, Int.neg_neg]
    rw [e, Int.tdiv_eq_ediv_of_nonneg (by omega)]
    omega

/-- What sum gives: an expression, its text, what it comes to. -/
def SumOut (w : World) (D : Nat) (k : Nat) (e : Ending) (w' : World) : Prop := ∃ (E : Tw.Ex) (k' : Nat), e = .returned (.tuple #[bytesV E.bytes, .int .i64 E.val, .int .i64 k']) ∧ E.ok ∧ E.deep ≤ 3 * D ∧ E.len + 7 ≤ 10 * 4 ^ D ∧ k' + 1 ≤ k + 2 * 2 ^ D ∧ w.grownBy w' none

theorem sumOut_leaf {w w' : World} {D k N : Nat} (hN : N < 100) (hg : w.grownBy w' none) : SumOut w D k (.returned (.tuple #[bytesV (Lib.decDigits N), .int .i64 N, .int .i64 ((k : Int) + 1)])) w' := by
  have h4 : 1 ≤ 4 ^ D := Nat.one_le_pow _ _ (by omega)
  have h2 : 1 ≤ 2 ^ D := Nat.one_le_pow _ _ (by omega)
  have := (dig_of (u := N) (by omega)).len
  exact ⟨.num N, k + 1, rfl, hN, by simp [Tw.Ex.deep], by simp only [Tw.Ex.len]; omega, by omega, hg⟩

theorem plus_eq (E1 E2 : Tw.Ex) : Value.string (((((⟨#[40]⟩ : ByteArray) ++ ⟨E1.bytes.toArray⟩) ++ ⟨#[32, 43, 32]⟩) ++ ⟨E2.bytes.toArray⟩) ++ ⟨#[41]⟩) = bytesV (Tw.Ex.two false E1 E2).bytes := by
  refine congrArg Value.string (ba_ext ?_)
  simp [Tw.Ex.bytes]
theorem minus_eq (E1 E2 : Tw.Ex) : Value.string (((((⟨#[40]⟩ : ByteArray) ++ ⟨E1.bytes.toArray⟩) ++ ⟨#[32, 45, 32]⟩) ++ ⟨E2.bytes.toArray⟩) ++ ⟨#[41]⟩) = bytesV (Tw.Ex.two true E1 E2).bytes := by
  refine congrArg Value.string (ba_ext ?_)
  simp [Tw.Ex.bytes]
theorem mul_eq (E1 E2 : Tw.Ex) : Value.string (((((⟨#[40, 40, 102, 117, 110, 32, 118, 32, 45, 62, 32, 118, 41, 32]⟩ : ByteArray) ++ ⟨E1.bytes.toArray⟩) ++ ⟨#[32, 42, 32]⟩) ++ ⟨E2.bytes.toArray⟩) ++ ⟨#[41]⟩) = bytesV (Tw.Ex.mul E1 E2).bytes := by
  refine congrArg Value.string (ba_ext ?_)
  simp [Tw.Ex.bytes]
theorem low_eq (E1 E2 : Tw.Ex) : Value.string (((((((((⟨#[40, 105, 102, 32]⟩ : ByteArray) ++ ⟨E1.bytes.toArray⟩) ++ ⟨#[32, 60, 32]⟩) ++ ⟨E2.bytes.toArray⟩) ++ ⟨#[32, 116, 104, 101, 110, 32]⟩) ++ ⟨E1.bytes.toArray⟩) ++ ⟨#[32, 101, 108, 115, 101, 32]⟩) ++ ⟨E2.bytes.toArray⟩) ++ ⟨#[41]⟩) = bytesV (Tw.Ex.low E1 E2).bytes := by
  refine congrArg Value.string (ba_ext ?_)
  simp [Tw.Ex.bytes]

set_option maxRecDepth 100000 in
set_option maxHeartbeats 2000000 in
theorem sum_any {ar : Option Addr} {len cap : Nat} : ∀ (D k : Nat) (w : World) (dv : Int), RawAt w ar len → dv + D = 5 → 0 ≤ dv → k + 2 * 2 ^ D ≤ 1000 → Calls Tryz.prog 18 #[.slice ar len cap, .int .i64 k, .int .i64 dv] w (SumOut w D k)
  | 0, k, w, dv, hR, hdv, hdv0, hk => by
    obtain rfl : dv = 5 := by omega
    have HR := hide hR
    have hs := hR.small
    clear hR
    have hk' : k ≤ 1000 := by omega
    clear hk
    by_cases h : k < len
    · have hi : (k : Int) < len := by omega
      obtain ⟨a, z, rfl, hz, hz0, hz1⟩ := (unhide HR).get k h
      go_enter Tryz.func18, Tryz.ntmps18
      go_wp2_with fail
      refine (pick_any (z.tdiv 5) 100 (tdiv5 hz0 hz1).1 (tdiv5 hz0 hz1).2 (by omega) (by omega) w).mono ?_
      rintro e1 w1 ⟨N, rfl, hN, rfl⟩
      go_wp2_with fail
      refine (digits_any N (by omega) w).mono ?_
      rintro e1 w1 ⟨rfl, hg⟩
      have G := hide hg
      clear hg
      go_wp2_with fail
      go_ret3
      exact sumOut_leaf hN (unhide G)
    · have hi : ¬ (k : Int) < len := by omega
      go_enter Tryz.func18, Tryz.ntmps18
      go_wp2_with fail
      refine (pick_any 0 100 (by omega) (by omega) (by omega) (by omega) w).mono ?_
      rintro e1 w1 ⟨N, rfl, hN, rfl⟩
      go_wp2_with fail
      refine (digits_any N (by omega) w).mono ?_
      rintro e1 w1 ⟨rfl, hg⟩
      have G := hide hg
      clear hg
      go_wp2_with fail
      go_ret3
      exact sumOut_leaf hN (unhide G)
  | D + 1, k, w, dv, hR, hdv, hdv0, hk => by
    have hp : 2 ^ (D + 1) = 2 * 2 ^ D := by rw [Nat.pow_succ]; omega
    have hp1 : 1 ≤ 2 ^ D := Nat.one_le_pow _ _ (by omega)
    have HR := hide hR
    have hs := hR.small
    clear hR
    have hk' : k ≤ 1000 := by omega
    have hdv4 : ¬ 4 < dv := by omega
    by_cases h : k < len
    · have hi : (k : Int) < len := by omega
      obtain ⟨a, z, rfl, hz, hz0, hz1⟩ := (unhide HR).get k h
      go_enter Tryz.func18, Tryz.ntmps18
      go_wp2_with fail
      refine (pick_any z 5 (by omega) (by omega) (by omega) (by omega) w).mono ?_
      rintro e1 w1 ⟨r, rfl, hr, rfl⟩
      by_cases hr0 : r = 0
      · subst hr0
        go_wp2_with fail
        refine (pick_any (z.tdiv 5) 100 (tdiv5 hz0 hz1).1 (tdiv5 hz0 hz1).2 (by omega) (by omega) w).mono ?_
        rintro e1 w1 ⟨N, rfl, hN, rfl⟩
        go_wp2_with fail
        refine (digits_any N (by omega) w).mono ?_
        rintro e1 w1 ⟨rfl, hg⟩
        have G := hide hg
        clear hg
        go_wp2_with fail
        go_ret3
        exact sumOut_leaf hN (unhide G)
      · have hri : ((r : Int) == 0) = false := by simp; omega
        by_cases hle : (len : Int) ≤ (k : Int) + 1
        · go_wp2_with fail
          refine (pick_any (z.tdiv 5) 100 (tdiv5 hz0 hz1).1 (tdiv5 hz0 hz1).2 (by omega) (by omega) w).mono ?_
          rintro e1 w1 ⟨N, rfl, hN, rfl⟩
          go_wp2_with fail
          refine (digits_any N (by omega) w).mono ?_
          rintro e1 w1 ⟨rfl, hg⟩
          have G := hide hg
          clear hg
          go_wp2_with fail
          go_ret3
          exact sumOut_leaf hN (unhide G)
        · go_wp2_with fail
          refine (sum_any D (k + 1) w (dv + 1) (unhide HR) (by omega) (by omega) (by omega)).mono ?_
          rintro e1 w1 ⟨E1, k1, rfl, o1, d1, l1, q1, g1⟩
          have G1 := hide g1
          clear g1
          go_wp2_with fail
          refine (sum_any D k1 w1 (dv + 1) ((unhide HR).grown (unhide G1)) (by omega) (by omega) (by omega)).mono ?_
          rintro e1 w2 ⟨E2, k2, rfl, o2, d2, l2, q2, g2⟩
          have G2 := hide (grown_trans (unhide G1) g2)
          clear g2
          have hD4 : 4 ^ D ≤ 256 := by
            have : 4 ^ D ≤ 4 ^ 4 := Nat.pow_le_pow_right (by omega) (by omega)
            omega
          have hp4 : 4 ^ (D + 1) = 4 * 4 ^ D := by rw [Nat.pow_succ]; omega
          have s1 : E1.bytes.length ≤ 3000 := by rw [E1.bytes_len]; omega
          have s2 : E2.bytes.length ≤ 3000 := by rw [E2.bytes_len]; omega
          have s1' : E1.bytes.toArray.size ≤ 3000 := by simpa using s1
          have s2' : E2.bytes.toArray.size ≤ 3000 := by simpa using s2
          have v1 := E1.val_range o1
          have v2 := E2.val_range o2
          go_wp2_with fail
          refine (pick_any z 5 (by omega) (by omega) (by omega) (by omega) w2).mono ?_
          rintro e1 w3 ⟨r2, rfl, hr2, rfl⟩
          rcases (show r2 = 1 ∨ r2 = 2 ∨ r2 = 3 ∨ (¬ r2 = 1 ∧ ¬ r2 = 2 ∧ ¬ r2 = 3) by omega) with rfl | rfl | rfl | ⟨n1, n2, n3⟩
          · go_wp2_with fail
            go_ret3
            refine ⟨.two false E1 E2, k2, ?_, ⟨o1, o2⟩, by simp only [Tw.Ex.deep]; omega, by simp only [Tw.Ex.len]; omega, by omega, unhide G2⟩
            rw [← plus_eq]; rfl
          · go_wp2_with fail
            go_ret3
            refine ⟨.two true E1 E2, k2, ?_, ⟨o1, o2⟩, by simp only [Tw.Ex.deep]; omega, by simp only [Tw.Ex.len]; omega, by omega, unhide G2⟩
            rw [← minus_eq]; rfl
          · go_wp2_with fail
            go_ret3
            refine ⟨.mul E1 E2, k2, ?_, ⟨o1, o2⟩, by simp only [Tw.Ex.deep]; omega, by simp only [Tw.Ex.len]; omega, by omega, unhide G2⟩
            rw [← mul_eq]; rfl
          · have m1 : ((r2 : Int) == 1) = false := by simp; omega
            have m2 : ((r2 : Int) == 2) = false := by simp; omega
            have m3 : ((r2 : Int) == 3) = false := by simp; omega
            by_cases hlt : E1.val < E2.val
            · go_wp2_with fail
              go_ret3
              refine ⟨.low E1 E2, k2, ?_, ⟨o1, o2⟩, by simp only [Tw.Ex.deep]; omega, by simp only [Tw.Ex.len]; omega, by omega, unhide G2⟩
              rw [show (Tw.Ex.low E1 E2).val = E1.val from if_pos hlt, ← low_eq]; rfl
            · go_wp2_with fail
              go_ret3
              refine ⟨.low E1 E2, k2, ?_, ⟨o1, o2⟩, by simp only [Tw.Ex.deep]; omega, by simp only [Tw.Ex.len]; omega, by omega, unhide G2⟩
              rw [show (Tw.Ex.low E1 E2).val = E2.val from if_neg (Int.not_lt.2 hlt), ← low_eq]; rfl
    · have hi : ¬ (k : Int) < len := by omega
      have hle : (len : Int) ≤ (k : Int) + 1 := by omega
      go_enter Tryz.func18, Tryz.ntmps18
      go_wp2_with fail
      refine (pick_any 0 5 (by omega) (by omega) (by omega) (by omega) w).mono ?_
      rintro e1 w1 ⟨r, rfl, hr, rfl⟩
      by_cases hr0 : r = 0
      · subst hr0
        go_wp2_with fail
        refine (pick_any 0 100 (by omega) (by omega) (by omega) (by omega) w).mono ?_
        rintro e1 w1 ⟨N, rfl, hN, rfl⟩
        go_wp2_with fail
        refine (digits_any N (by omega) w).mono ?_
        rintro e1 w1 ⟨rfl, hg⟩
        have G := hide hg
        clear hg
        go_wp2_with fail
        go_ret3
        exact sumOut_leaf hN (unhide G)
      · have hri : ((r : Int) == 0) = false := by simp; omega
        go_wp2_with fail
        refine (pick_any 0 100 (by omega) (by omega) (by omega) (by omega) w).mono ?_
        rintro e1 w1 ⟨N, rfl, hN, rfl⟩
        go_wp2_with fail
        refine (digits_any N (by omega) w).mono ?_
        rintro e1 w1 ⟨rfl, hg⟩
        have G := hide hg
        clear hg
        go_wp2_with fail
        go_ret3
        exact sumOut_leaf hN (unhide G)

end Go.Proofs.YtckhafpejefbbaaGreatDoor
