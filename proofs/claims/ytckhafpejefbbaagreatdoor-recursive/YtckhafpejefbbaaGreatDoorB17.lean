/- Texts of the proof, put together: Keep, Digits, RecFine, RecWalk. -/
import Derived.Test.YtckhafpejefbbaaGreatDoorB16
import Derived.Deep.RegionHeld3

/- Package tailorkeep: pick, open, awake. -/
namespace Go.Proofs.YtckhafpejefbbaaGreatDoor
open Go.RowKit

theorem tmod_nat (x : Int) (n : Nat) (hx : 0 ≤ x) (hn : 0 < n) : ∃ r : Nat, x.tmod n = r ∧ r < n := by
  refine ⟨(x.tmod n).toNat, ?_, ?_⟩
  · rw [Int.tmod_eq_emod_of_nonneg hx]
    have := Int.emod_nonneg x (show (n : Int) ≠ 0 by omega)
    omega
  · rw [Int.tmod_eq_emod_of_nonneg hx]
    have := Int.emod_nonneg x (show (n : Int) ≠ 0 by omega)
    have := Int.emod_lt_of_pos x (show (0 : Int) < n by omega)
    omega

set_option maxRecDepth 100000 in
set_option maxHeartbeats 1000000 in
theorem pick_any (c : Int) (n : Nat) (h0 : -9223372036854775808 ≤ c) (h1 : c ≤ 9223372036854775807) (hn : 0 < n) (hn2 : n ≤ 1000000) (w : World) :
    Calls Tryz.prog 17 #[.int .i64 c, .int .i64 n] w fun e w' => ∃ r : Nat, e = .returned (.int .i64 r) ∧ r < n ∧ w = w' := by
  have hz : ((n : Int) == 0) = false := by simp; omega
  have hn0 : (n : Int) ≠ 0 := by omega
  by_cases hc : c < 0
  · obtain ⟨r, hr, hr2⟩ := tmod_nat (-(c + 1)) n (by omega) hn
    rw [Int.neg_tmod] at hr
    go_enter Tryz.func17, Tryz.ntmps17
    go_wp2_with fail
    go_ret
    exact ⟨r, rfl, hr2, rfl⟩
  · obtain ⟨r, hr, hr2⟩ := tmod_nat c n (by omega) hn
    go_enter Tryz.func17, Tryz.ntmps17
    go_wp2_with fail
    go_ret
    exact ⟨r, rfl, hr2, rfl⟩

set_option maxRecDepth 100000 in
set_option maxHeartbeats 1000000 in
theorem kopen_fine (hIB : Said.IndexByte) (hPI : Said.ParseInt) {S : List TypeId} {t : Tw.T} {shown : List UInt8} {s : ByteArray} (hF : Fine S s t shown) (w : World) :
    Calls Tryz.prog 19 #[.string s] w fun e w' => ∃ bt, e = .returned (.pointer (some ⟨bt, 0, none⟩)) ∧ TextAt w' bt s t ∧ TK w.heap.size S w w' := by
  go_enter Tryz.func19, Tryz.ntmps19
  go_wp2_with fail
  refine (Open_fine hIB hPI hF w).mono ?_
  rintro e1 w1 ⟨bt, rfl, hT, hk⟩
  have T1 := hide hT
  have K1 := hide hk
  clear hT hk
  go_wp2_with fail
  refine (Source_any (unhide T1)).mono ?_
  rintro e1 w2 ⟨rfl, rfl⟩
  go_wp2_with fail
  go_ret
  exact ⟨bt, rfl, unhide T1, unhide K1⟩

/-- The library's contracts that are used. -/
structure Lib4 : Prop where
  ib : Said.IndexByte
  pi : Said.ParseInt
  fi : Said.FormatInt
  fb : Said.FormatBool

def intB (fuel : Nat) (t : Tw.T) : Bool :=
  match Tw.inferS fuel t .nil ss0 with
  | some (r, st1) => !st1.clash && (match Tw.endlessS fuel st1 with
    | some (false, st2) => (match Tw.findS fuel st2 r with
      | some (p, st3) => (match st3.shs[p]? with
        | some x => decide (x.sort = 1)
        | none => false)
      | none => false)
    | _ => false)
  | none => false

theorem intTyped_of {fuel : Nat} {t : Tw.T} (h : intB fuel t = true) : IntTyped t := by
  unfold intB at h
  split at h
  · rename_i r st1 h1
    simp only [Bool.and_eq_true, Bool.not_eq_true'] at h
    obtain ⟨h2, h⟩ := h
    split at h
    · rename_i st2 h3
      split at h
      · rename_i p st3 h4
        split at h
        · rename_i x h5
          exact ⟨fuel, r, p, st1, st2, st3, x, h1, h2, h3, h4, h5, of_decide_eq_true h⟩
        · cases h
      · cases h
    · cases h
  · cases h

def txA : ByteArray := ⟨#[40, 102, 117, 110, 32, 120, 32, 45, 62, 32, 120, 32, 43, 32, 49, 41, 32, 52]⟩
def tA : Tw.T := .call 0 18 (.bracket 0 16 (.fn 1 15 [120] 5 (.binary 10 15 19 (.name 10 11 [120]) (.int 14 15 1)))) (.int 17 18 4)
def toksA : List Tw.Tok := [⟨16, 0, 1⟩, ⟨6, 1, 4⟩, ⟨1, 5, 6⟩, ⟨14, 7, 9⟩, ⟨1, 10, 11⟩, ⟨19, 12, 13⟩, ⟨2, 14, 15⟩, ⟨17, 15, 16⟩, ⟨2, 17, 18⟩, ⟨0, 18, 18⟩]

theorem splitA : Tw.split txA.data.toList = .ok toksA := by kernel_rfl
theorem parseA : Tw.parseS txA.data.toList toksA 100 = some (.ok tA) := by kernel_rfl
theorem weightA : Tw.weightS tA .nil = some 7 := by kernel_rfl
theorem boundA : tA.boundS [] = true := by kernel_rfl
theorem intA : intB 100 tA = true := by kernel_rfl
theorem told_num {v : Nat} (hv : v < 10 ^ 18) : Tw.toldS 400 (Tw.writeV (.num v) []) = Lib.decDigits v := by
  have hl := decDigits_len 17 v hv
  have e : Lib.itoa (v : Int) = Lib.decDigits v := by
    unfold Lib.itoa
    rw [if_neg (by omega)]
    simp
  unfold Tw.writeV
  rw [if_neg (by simp), Tw.putS, if_neg (by simp), List.nil_append, e, Tw.toldS, if_neg (by omega)]

theorem runA : Tw.runS 100 tA 5 = some (0, 1, [53]) := by
  have : Tw.evalS 5 100 tA [] ⟨[], 0, 0⟩ = some (some (.num (5 : Nat)), ⟨[some (.num 4)], 1, 0⟩) := by kernel_rfl
  rw [Tw.runS, this, Option.bind_some]
  simp only
  rw [told_num (by decide), show Lib.decDigits 5 = [53] from by unfold Lib.decDigits; rfl]

theorem fineA : Fine ShS txA tA [105, 110, 116] := ⟨by decide, ⟨toksA, 100, splitA, parseA⟩, allBound_of boundA, ⟨7, weightA, by omega⟩, (intTyped_of intA).said, by decide⟩

/-- What a law's calls may turn of blocks of their own. -/
abbrev LawS : List TypeId := [128, 334, 329, 5, 311, 117]

theorem three_new (w : World) (x y z : Value) (t : TypeId) : (w.alloc (.cells #[x, y, z] t)).heap[w.heap.size]? = some (.cells #[x, y, z] t (0, 0)) := new_block w _

set_option maxRecDepth 100000 in
set_option maxHeartbeats 2000000 in
theorem awake_any (L : Lib4) {w : World} (hT : Tab w) (hG : 1 < w.heap.size) :
    Calls Tryz.prog 15 #[] w fun e w' => e = .returned (.bool true) ∧ TK w.heap.size LawS w w' := by
  have HT := hide hT
  clear hT
  go_enter Tryz.func15, Tryz.ntmps15
  go_wp2_with fail
  refine (kopen_fine L.ib L.pi fineA w).mono ?_
  rintro e1 w1 ⟨bt, rfl, hX, hk⟩
  have X1 := hide hX
  have K1 := hide (hk.sub (S' := LawS) (by decide))
  have z1 := hk.size
  clear hX hk
  go_wp2_with fail
  refine (Run_any L.fi L.fb 5 (unhide X1) ((unhide HT).tk (unhide K1) hG) (by omega) (show Tw.runS 100 tA (budget 5) = some (0, 1, [53]) from runA)).mono ?_
  rintro e1 w2 ⟨rfl, hk⟩
  have z2 := hk.size
  have K2 := hide ((unhide K1).trans ((hk.base z1).sub (by decide)))
  have X2 := hide ((unhide X1).tk hk (by decide))
  clear hk
  go_wp2_with fail
  have G2 : Hid (w2.grownBy (w2.alloc (.cells #[.int .i64 0, .int .i64 1, .string ⟨#[53]⟩] 39)) none) := World.grownBy_alloc _ _ none
  refine (Type_any (S := ShS) ((unhide X2).tk (TK.of_grown 0 ShS G2.out) (by decide)) fineA.of).mono ?_
  rintro e1 w3 ⟨rfl, hk⟩
  have K3 := hide (((unhide K2).trans (TK.of_grown _ _ G2.out)).trans ((hk.base (by have := G2.out.size; omega)).sub (S' := LawS) (by decide)))
  have C3 := hk.cells (three_new w2 (.int .i64 0) (.int .i64 1) (.string ⟨#[53]⟩) 39) (by decide)
  obtain ⟨c0, c1, c2, _, _, _⟩ := three_cells C3
  clear hk C3
  go_wp2_with fail
  go_ret
  exact ⟨rfl, unhide K3⟩

end Go.Proofs.YtckhafpejefbbaaGreatDoor

/- tailorkeep.digits. -/
namespace Go.Proofs.YtckhafpejefbbaaGreatDoor
open Go.RowKit

theorem byte_string (w : World) (c : UInt8) : (convert 66 9 (.slice (some ⟨w.heap.size, 0, none⟩) 1 1)).run Tryz.prog (w.alloc (.cells #[.int .u8 c.toNat] 5)) = .ok (bytesV [c]) (w.alloc (.cells #[.int .u8 c.toNat] 5)) := by
  have := run_convert_bytes_back (P := Tryz.prog) (w.alloc (.cells #[.int .u8 c.toNat] 5)) 66 9 5 ⟨w.heap.size, 0, none⟩ 1 [c] Tryz.underlying66 Tryz.underlying5 Tryz.underlying9 (by
    intro j hj
    have : j = 0 := by simpa using hj
    subst this
    rw [show (Addr.add ⟨w.heap.size, 0, none⟩ 0) = (⟨w.heap.size, 0, none⟩ : Addr) from by simp [Addr.add]]
    exact (one_cell (new_block w _)).1)
  exact this

/-- What digits has come to: x is left, acc stands. -/
def DigRel (u x : Nat) (acc : List UInt8) : Prop := (acc = [] ∧ x = u) ∨ (acc ≠ [] ∧ Lib.decDigits u = (if x = 0 then acc else Lib.decDigits x ++ acc))

theorem DigRel.step {u x : Nat} {acc : List UInt8} (h : DigRel u x acc) (hx : 0 < x ∨ acc = []) : DigRel u (x / 10) (UInt8.ofNat (48 + x % 10) :: acc) := by
  refine .inr ⟨by simp, ?_⟩
  have e : Lib.decDigits u = Lib.decDigits x ++ acc := by
    rcases h with ⟨rfl, rfl⟩ | ⟨ha, h⟩
    · simp
    · rcases hx with hx | hx
      · rw [h, if_neg (by omega)]
      · exact absurd hx ha
  rw [e]
  by_cases h10 : x < 10
  · rw [if_pos (by omega)]
    have : Lib.decDigits x = [UInt8.ofNat (48 + x)] := by unfold Lib.decDigits; rw [dif_pos h10]
    rw [this, show x % 10 = x from by omega]
    rfl
  · rw [if_neg (by omega)]
    have : Lib.decDigits x = Lib.decDigits (x / 10) ++ [UInt8.ofNat (48 + x % 10)] := by
      conv => lhs; unfold Lib.decDigits
      rw [dif_neg h10]
    rw [this, List.append_assoc]
    rfl

theorem DigRel.done {u x : Nat} {acc : List UInt8} (h : DigRel u x acc) (hx : x = 0) (ha : acc ≠ []) : acc = Lib.decDigits u := by
  rcases h with ⟨h, _⟩ | ⟨_, h⟩
  · exact absurd h ha
  · rw [h, if_pos hx]

theorem DigRel.len {u x : Nat} {acc : List UInt8} (h : DigRel u x acc) (hu : u < 9223372036854775808) : acc.length ≤ 19 := by
  have hl := (decDigits_len 18 u (by omega)).2
  rcases h with ⟨rfl, _⟩ | ⟨_, h⟩
  · simp
  · rw [h] at hl
    split at hl
    · exact hl
    · simp at hl
      omega

theorem push_byte (c : Nat) (acc : List UInt8) : Value.string ({ data := #[48 + UInt8.ofNat c] } ++ { data := acc.toArray }) = bytesV (UInt8.ofNat (48 + c) :: acc) := by
  have e : (48 + UInt8.ofNat c : UInt8) = UInt8.ofNat (48 + c) := by simp [UInt8.ofNat_add]
  rw [e]
  rfl

set_option maxRecDepth 100000 in
set_option maxHeartbeats 2000000 in
theorem digits_big (u : Nat) (hu : u < 9223372036854775808) (w : World) : Calls Tryz.prog 20 #[.int .i64 u] w fun e w' => e = .returned (bytesV (Lib.decDigits u)) ∧ w.grownBy w' none := by
  go_enter Tryz.func20, Tryz.ntmps20
  go_wp2_with fail
  go_loopg [0, 3] (u + 2) (fun j nv sv wr => ∃ (x : Nat) (acc : List UInt8), nv = .int .i64 x ∧ sv = bytesV acc ∧ x ≤ u ∧ j = x + (if acc = [] then 2 else 1) ∧ Hid (DigRel u x acc) ∧ Hid (w.grownBy wr none))
  case atStart => exact ⟨u, [], rfl, rfl, Nat.le_refl _, by simp, .inl ⟨rfl, rfl⟩, grown_refl _⟩
  case round =>
    obtain ⟨x, acc, rfl, rfl, hxu, hj, HD, HG⟩ := hrel
    have hcv := byte_string wr (UInt8.ofNat (48 + x % 10))
    have hc : ((UInt8.ofNat (48 + x % 10)).toNat : Int) = 48 + (x : Int) % 10 := by
      simp [UInt8.toNat_ofNat]
      omega
    rw [hc] at hcv
    have hxs : x < 9223372036854775808 := by omega
    have hal := (unhide HD).len hu
    have has : acc.toArray.size ≤ 19 := by simpa using hal
    have GA : Hid (w.grownBy (wr.alloc (.cells #[.int .u8 (48 + (x : Int) % 10)] 5)) none) := grown_alloc HG.out _
    by_cases hx : 0 < x
    · have hxi : (0 : Int) < x := by omega
      have D2 := hide ((unhide HD).step (.inl hx))
      go_wp2_with fail
      go_roundg (x / 10 + 1)
      case measure => subst hj; split <;> omega
      case rel => exact ⟨x / 10, UInt8.ofNat (48 + x % 10) :: acc, by go_num, push_byte _ _, by omega, by simp, D2, GA⟩
    · have hx0 : x = 0 := by omega
      subst hx0
      cases acc with
      | nil =>
        have D2 := hide ((unhide HD).step (.inr rfl))
        have hcv0 : (convert 66 9 (.slice (some ⟨wr.heap.size, 0, none⟩) 1 1)).run Tryz.prog (wr.alloc (.cells #[.int .u8 48] 5)) = .ok (bytesV [48]) (wr.alloc (.cells #[.int .u8 48] 5)) := byte_string wr 48
        have GA0 : Hid (w.grownBy (wr.alloc (.cells #[.int .u8 48] 5)) none) := grown_alloc HG.out _
        clear hcv GA
        go_wp2_with fail
        go_roundg 1
        case measure => subst hj; simp
        case rel => exact ⟨0, UInt8.ofNat (48 + 0 % 10) :: [], rfl, rfl, by omega, by simp, D2, GA0⟩
      | cons b l =>
        have R := hide ((unhide HD).done rfl (by simp))
        go_wp2_with fail
        go_ret
        exact ⟨by rw [← unhide R]; rfl, HG.out⟩

theorem digits_any (u : Nat) (hu : u < 10 ^ 18) (w : World) : Calls Tryz.prog 20 #[.int .i64 u] w fun e w' => e = .returned (bytesV (Lib.decDigits u)) ∧ w.grownBy w' none := digits_big u (by omega) w

end Go.Proofs.YtckhafpejefbbaaGreatDoor

/- The text of Recursive is fine: its type, its two runs. -/
namespace Go.Proofs.YtckhafpejefbbaaGreatDoor
open Go.RowKit

def dig3 (u : Nat) : List UInt8 := if u < 10 then [UInt8.ofNat (48 + u)] else if u < 100 then [UInt8.ofNat (48 + u / 10), UInt8.ofNat (48 + u % 10)] else [UInt8.ofNat (48 + u / 100), UInt8.ofNat (48 + u / 10 % 10), UInt8.ofNat (48 + u % 10)]

theorem decDigits_dig3 {u : Nat} (h : u < 1000) : Lib.decDigits u = dig3 u := by
  unfold dig3
  by_cases h1 : u < 10
  · rw [if_pos h1]
    unfold Lib.decDigits
    rw [dif_pos h1]
  · rw [if_neg h1]
    unfold Lib.decDigits
    rw [dif_neg h1]
    by_cases h2 : u < 100
    · rw [if_pos h2]
      unfold Lib.decDigits
      rw [dif_pos (by omega)]
      rfl
    · rw [if_neg h2]
      unfold Lib.decDigits
      rw [dif_neg (by omega)]
      unfold Lib.decDigits
      rw [dif_pos (by omega), show u / 10 / 10 = u / 100 from by omega]
      rfl

theorem dig3_value : ∀ u : Fin 200, Tw.valueS (dig3 u.1) = some (u.1 : Int) := by decide +kernel
theorem dig3_digits : ∀ u : Fin 200, (dig3 u.1).all (fun c => Tw.digitI c.toNat) = true := by decide +kernel
theorem dig3_len (u : Nat) : 1 ≤ (dig3 u).length ∧ (dig3 u).length ≤ 3 := by
  unfold dig3
  split
  · simp
  · split <;> simp

structure Dig (u : Nat) (d : List UInt8) : Prop where
  val : Tw.valueS d = some (u : Int)
  dig : ∀ c ∈ d, Tw.digitI c.toNat = true
  pos : 1 ≤ d.length
  len : d.length ≤ 3
  ne : d ≠ []

theorem dig_of {u : Nat} (h : u < 200) : Dig u (Lib.decDigits u) := by
  rw [decDigits_dig3 (by omega)]
  have hl := dig3_len u
  exact ⟨dig3_value ⟨u, h⟩, List.all_eq_true.1 (dig3_digits ⟨u, h⟩), hl.1, hl.2, by intro e; rw [e] at hl; simp at hl⟩

theorem tR_whole (lk ln : Nat) (K N : Int) : ∃ a, Tw.tR lk ln K N = Tw.wholeT a K N := by
  let m := Tw.mR lk ln K N
  exact ⟨fun i => ([m.fr 21, m.to 55, m.fr 24, m.to 29, m.fr 24, m.to 25, m.fr 28, m.to 29, m.fr 35, m.to 36, m.fr 42, m.to 55, m.fr 42, m.to 43, m.fr 46, m.to 55, m.fr 46, m.to 47, m.fr 48, m.to 55, m.fr 49, m.to 54, m.fr 49, m.to 50, m.fr 53, m.to 54, 0, 0, 0, 0, m.fr 0, m.to 62, m.fr 8, m.fr 12, m.to 55, m.fr 16, m.fr 59, m.to 62, m.fr 59, m.to 60, m.fr 61, m.to 62] : List Nat).getD i 0, rfl⟩

theorem tri_eq (K : Nat) : ∀ j : Nat, Tw.tri K j = ((K + j * (j + 1) / 2 : Nat) : Int)
  | 0 => by simp [Tw.tri]
  | j + 1 => by
    simp only [Tw.tri, tri_eq K j]
    have : (j + 1) * (j + 1 + 1) = j * (j + 1) + 2 * (j + 1) := by rw [Nat.add_mul, Nat.mul_add, Nat.mul_add]; omega
    rw [this]
    omega

theorem run_done {lk ln K N : Nat} (hK : K < 50) (hN : N < 200) : Tw.runS 4000 (Tw.tR lk ln K N) (N + 1) = some (0, N + 1, Lib.decDigits (K + N * (N + 1) / 2)) := by
  obtain ⟨a, ha⟩ := tR_whole lk ln K N
  obtain ⟨sl, h⟩ := Tw.rec_whole (a := a) (K := (K : Int)) (by omega) (by omega) (N := N) (bud := N + 1) (by omega)
  have hv : K + N * (N + 1) / 2 < 10 ^ 18 := by
    have : N * (N + 1) ≤ 200 * 200 := Nat.mul_le_mul (by omega) (by omega)
    omega
  rw [Tw.runS, ha, h, if_pos (by omega), Option.bind_some]
  simp only
  rw [tri_eq, told_num hv, Nat.add_comm 1 N]

theorem run_ends {lk ln K N : Nat} (hK : K < 50) (hN : N < 200) : Tw.runS 4000 (Tw.tR lk ln K N) N = some (2, N, []) := by
  obtain ⟨a, ha⟩ := tR_whole lk ln K N
  obtain ⟨sl, h⟩ := Tw.rec_whole (a := a) (K := (K : Int)) (by omega) (by omega) (N := N) (bud := N) (by omega)
  rw [Tw.runS, ha, h, if_neg (by omega), Option.bind_some]

theorem intR0 : intB 300 Tw.tR0 = true := by kernel_rfl
theorem intR (lk ln : Nat) (K N : Int) : IntTyped (Tw.tR lk ln K N) := by
  refine intTyped_of (fuel := 300) ?_
  have e : Tw.inferS 300 (Tw.tR lk ln K N) .nil ss0 = Tw.inferS 300 Tw.tR0 .nil ss0 := (Tw.inferS_re (Tw.mR lk ln K N) 300).1 Tw.tR0 .nil ss0
  have h := intR0
  unfold intB at h ⊢
  rw [e]
  exact h

/-- The text of Recursive, as it is put together. -/
def txR (dk dn : List UInt8) : ByteArray := ⟨(Tw.textR dk dn).toArray⟩

theorem fineR {K N : Nat} (hK : K < 50) (hN : N < 200) : Fine ShS (txR (Lib.decDigits K) (Lib.decDigits N)) (Tw.tR (Lib.decDigits K).length (Lib.decDigits N).length K N) [105, 110, 116] := by
  have dK := dig_of (u := K) (by omega)
  have dN := dig_of (u := N) hN
  have hlen := Tw.textR_len (Lib.decDigits K) (Lib.decDigits N)
  have hk := dK.len
  have hn := dN.len
  refine ⟨?_, ?_, allBound_of (Tw.boundR _ _ _ _), ⟨31, by rw [Tw.weightR, Tw.weightR0], by omega⟩, (intR _ _ _ _).said, by decide⟩
  · show (Tw.textR _ _).toArray.size ≤ 300
    rw [List.size_toArray, hlen]
    omega
  · refine ⟨_, 200, Tw.splitR dK.ne dK.dig (by omega) dN.ne dN.dig (by omega), ?_⟩
    exact Tw.parseR dK.pos dN.pos dK.val dN.val _ rfl

end Go.Proofs.YtckhafpejefbbaaGreatDoor

/- tailorkeep.Recursive. -/
namespace Go.Proofs.YtckhafpejefbbaaGreatDoor
open Go.RowKit

theorem budget_nat (n : Nat) (h : n ≤ 3000) : budget (n : Int) = n := by unfold budget; omega

theorem txR_eq (dk dn : List UInt8) : (((⟨#[108, 101, 116, 32, 114, 101, 99, 32, 102, 32, 61, 32, 102, 117, 110, 32, 110, 32, 45, 62, 32, 105, 102, 32, 110, 32, 60, 32, 49, 32, 116, 104, 101, 110, 32]⟩ : ByteArray) ++ ⟨dk.toArray⟩) ++ ⟨#[32, 101, 108, 115, 101, 32, 110, 32, 43, 32, 102, 32, 40, 110, 32, 45, 32, 49, 41, 32, 105, 110, 32, 102, 32]⟩) ++ ⟨dn.toArray⟩ = txR dk dn := by
  have hA : Tw.pA ++ [32] = [108, 101, 116, 32, 114, 101, 99, 32, 102, 32, 61, 32, 102, 117, 110, 32, 110, 32, 45, 62, 32, 105, 102, 32, 110, 32, 60, 32, 49, 32, 116, 104, 101, 110, 32] := by decide +kernel
  have hB : Tw.pB ++ [32] = [32, 101, 108, 115, 101, 32, 110, 32, 43, 32, 102, 32, 40, 110, 32, 45, 32, 49, 41, 32, 105, 110, 32, 102, 32] := by decide +kernel
  have e : Tw.textR dk dn = (Tw.pA ++ [32]) ++ dk ++ (Tw.pB ++ [32]) ++ dn := by simp [Tw.textR, List.append_assoc]
  apply ba_ext
  rw [txR, e, hA, hB]
  simp

theorem wrap_in {n : Int} (h0 : -9223372036854775808 ≤ n) (h1 : n ≤ 9223372036854775807) : IntKind.i64.wrap n = n := IntWalk.i64_in n ⟨h0, h1⟩

set_option maxRecDepth 100000 in
set_option maxHeartbeats 4000000 in
theorem Recursive_any (L : Lib4) {w : World} (hT : Tab w) (hG : 1 < w.heap.size) (n k : Int) (hn0 : -9223372036854775808 ≤ n) (hn1 : n ≤ 9223372036854775807) (hk0 : -9223372036854775808 ≤ k) (hk1 : k ≤ 9223372036854775807) :
    Calls Tryz.prog 8 #[.int .i64 n, .int .i64 k] w fun e w' => e = .returned (.bool true) ∧ w.grownBy w' none := by
  have HT := hide hT
  clear hT
  go_enter Tryz.func8, Tryz.ntmps8
  go_wp2_with fail
  refine (awake_any L (unhide HT) hG).mono ?_
  rintro e1 w1 ⟨rfl, hk⟩
  have K1 := hide hk
  have z1 := hk.size
  clear hk
  go_wp2_with fail
  refine (pick_any n 200 hn0 hn1 (by omega) (by omega) w1).mono ?_
  rintro e1 w1' ⟨N, rfl, hN, rfl⟩
  go_wp2_with fail
  refine (pick_any k 50 hk0 hk1 (by omega) (by omega) w1).mono ?_
  rintro e1 w1' ⟨K, rfl, hK, rfl⟩
  go_wp2_with fail
  refine (digits_any K (by omega) w1).mono ?_
  rintro e1 w2 ⟨rfl, hg⟩
  have K2 := hide ((unhide K1).trans (TK.of_grown _ _ hg))
  have z2 := hg.size
  have dK := (dig_of (u := K) (by omega)).len
  have dN := (dig_of (u := N) hN).len
  have sK : (Lib.decDigits K).toArray.size ≤ 3 := by simpa using dK
  have sN : (Lib.decDigits N).toArray.size ≤ 3 := by simpa using dN
  clear hg
  go_wp2_with fail
  refine (digits_any N (by omega) w2).mono ?_
  rintro e1 w3 ⟨rfl, hg⟩
  have K3 := hide ((unhide K2).trans (TK.of_grown _ _ hg))
  have z3 := hg.size
  clear hg
  go_wp2_with fail
  rw [txR_eq]
  refine (kopen_fine L.ib L.pi (fineR hK hN) w3).mono ?_
  rintro e1 w4 ⟨bt, rfl, hX, hk⟩
  have X4 := hide hX
  have K4 := hide ((unhide K3).trans ((hk.base (by omega)).sub (S' := LawS) (by decide)))
  have z4 := hk.size
  clear hX hk
  go_wp2_with fail
  have b1 : budget ((N : Int) + 1) = N + 1 := by unfold budget; omega
  refine (Run_any L.fi L.fb ((N : Int) + 1) (unhide X4) ((unhide HT).tk (unhide K4) hG) (by omega) (by rw [b1]; exact run_done hK hN)).mono ?_
  rintro e1 w5 ⟨rfl, hk⟩
  have z5 := hk.size
  have K5 := hide ((unhide K4).trans ((hk.base (by omega)).sub (S' := LawS) (by decide)))
  have X5 := hide ((unhide X4).tk hk (by decide))
  clear hk
  obtain ⟨V, hV⟩ : ∃ V, Lib.decDigits (K + N * (N + 1) / 2) = V := ⟨_, rfl⟩
  rw [hV]
  have HV := hide hV
  clear hV
  go_wp2_with fail
  have G5 : Hid (w5.grownBy (w5.alloc (.cells #[.int .i64 0, .int .i64 ((N + 1 : Nat) : Int), bytesV V] 39)) none) := World.grownBy_alloc _ _ none
  have b2 : budget (N : Int) = N := budget_nat N (by omega)
  refine (Run_any L.fi L.fb (N : Int) ((unhide X5).tk (TK.of_grown 0 [] G5.out) (by decide)) (((unhide HT).tk (unhide K5) hG).tk (TK.of_grown w.heap.size [] G5.out) hG) (by have := G5.out.size; omega) (by rw [b2]; exact run_ends hK hN)).mono ?_
  rintro e1 w6 ⟨rfl, hk⟩
  have z6 := hk.size
  have z6' := G5.out.size
  have K6 := hide (((unhide K5).trans (TK.of_grown _ _ G5.out)).trans ((hk.base (by omega)).sub (S' := LawS) (by decide)))
  have X6 := hide (((unhide X5).tk (TK.of_grown 0 [] G5.out) (by decide)).tk hk (by decide))
  have C6 := hide (hk.cells (three_new w5 (.int .i64 0) (.int .i64 ((N + 1 : Nat) : Int)) (bytesV V) 39) (by decide))
  clear hk
  go_wp2_with fail
  have G6 : Hid (w6.grownBy (w6.alloc (.cells #[.int .i64 2, .int .i64 N, .string ⟨#[]⟩] 39)) none) := World.grownBy_alloc _ _ none
  refine (Type_any (S := ShS) ((unhide X6).tk (TK.of_grown 0 [] G6.out) (by decide)) (fineR hK hN).of).mono ?_
  rintro e1 w7 ⟨rfl, hk⟩
  have z7' := G6.out.size
  have z7 := hk.size
  have K7 := hide (((unhide K6).trans (TK.of_grown _ _ G6.out)).trans ((hk.base (by omega)).sub (S' := LawS) (by decide)))
  have C7 := hide (hk.cells ((G6.out.block _ (Array.getElem?_eq_some_iff.1 (unhide C6)).1 (by simp)).trans (unhide C6)) (by decide))
  have P7 := hide (hk.cells (three_new w6 (.int .i64 2) (.int .i64 N) (.string ⟨#[]⟩) 39) (by decide))
  obtain ⟨o0, o1, o2, _, _, _⟩ := three_cells (unhide C7)
  obtain ⟨p0, p1, p2, _, _, _⟩ := three_cells (unhide P7)
  have l5 : w5.heap.size < w7.heap.size := (Array.getElem?_eq_some_iff.1 (unhide C7)).1
  have l6 : w6.heap.size < w7.heap.size := (Array.getElem?_eq_some_iff.1 (unhide P7)).1
  have hmul : N * (N + 1) ≤ 200 * 200 := Nat.mul_le_mul (by omega) (by omega)
  have hw1 : IntKind.i64.wrap ((N : Int) + 1) = (N : Int) + 1 := wrap_in (by omega) (by omega)
  have hw2 : IntKind.i64.wrap ((N : Int) * ((N : Int) + 1)) = ((N * (N + 1) : Nat) : Int) := by
    rw [show (N : Int) * ((N : Int) + 1) = ((N * (N + 1) : Nat) : Int) from by push_cast; rfl]
    exact wrap_in (by omega) (by omega)
  have hw3' : ((N : Int) * ((N : Int) + 1)) = ((N * (N + 1) : Nat) : Int) := by push_cast; rfl
  have hw3 : IntKind.i64.wrap (((N * (N + 1) : Nat) : Int).tdiv 2) = ((N * (N + 1) / 2 : Nat) : Int) := by
    rw [Int.tdiv_eq_ediv_of_nonneg (by omega), show ((N * (N + 1) : Nat) : Int) / 2 = ((N * (N + 1) / 2 : Nat) : Int) from by omega]
    exact wrap_in (by omega) (by omega)
  have hw4 : IntKind.i64.wrap ((K : Int) + ((N * (N + 1) / 2 : Nat) : Int)) = ((K + N * (N + 1) / 2 : Nat) : Int) := by
    rw [show (K : Int) + ((N * (N + 1) / 2 : Nat) : Int) = ((K + N * (N + 1) / 2 : Nat) : Int) from by omega]
    exact wrap_in (by omega) (by omega)
  have hwA : IntKind.i64.wrap ((K : Int) + IntKind.i64.wrap (((N : Int) * ((N : Int) + 1)).tdiv 2)) = ((K + N * (N + 1) / 2 : Nat) : Int) := by rw [hw3', hw3, hw4]
  have HWA := hide hwA
  have HVL : Hid (K + N * (N + 1) / 2 < 10 ^ 18) := by show _ < _; omega
  clear hwA hw3 hw4 hw3'
  have D7 : Hid (w7.grownBy w7.drew none) := grown_drew (grown_refl _)
  clear hk C6 X6 X5 X4 K2 K3 K4 K5 K6
  have o1' : w7.cell? ⟨w5.heap.size, 1, none⟩ = some (.int .i64 ((N : Int) + 1)) := by rw [o1]; simp
  clear o1
  generalize hR5 : w5.heap.size = r5 at *
  generalize hR6 : w6.heap.size = r6 at *
  clear hR5 hR6
  go_wp2_with fail
  go_region_held3 (fun W => W.cell? ⟨r5, 0, none⟩ = some (.int .i64 0) ∧ W.cell? ⟨r5, 1, none⟩ = some (.int .i64 ((N : Int) + 1)) ∧ W.cell? ⟨r5, 2, none⟩ = some (bytesV V) ∧ W.cell? ⟨r6, 0, none⟩ = some (.int .i64 2) ∧ W.cell? ⟨r6, 1, none⟩ = some (.int .i64 N) ∧ W.cell? ⟨r6, 2, none⟩ = some (.string ⟨#[]⟩)) (go_keep)
    ((go_at_call 20; rw [unhide HWA]; refine (digits_any _ (unhide HVL) _).mono ?_; rintro e1 w8 ⟨rfl, hg⟩
      rw [unhide HV]
      have K8 : Hid (TK w.heap.size LawS w w8) := (unhide K7).trans (TK.of_grown _ _ (grown_trans D7.out hg))
      have g8 := grown_trans D7.out hg
      obtain ⟨q0, q1, q2, _, _, _⟩ := three_cells ((g8.block r5 l5 (by simp)).trans (unhide C7))
      obtain ⟨q3, q4, q5, _, _, _⟩ := three_cells ((g8.block r6 l6 (by simp)).trans (unhide P7))
      have q1' : w8.cell? ⟨r5, 1, none⟩ = some (.int .i64 ((N : Int) + 1)) := by rw [q1]; simp
      clear hg g8 q1))
  go_wp2_with fail
  go_ret
  exact ⟨rfl, (unhide K8).grown⟩

end Go.Proofs.YtckhafpejefbbaaGreatDoor
