/- Texts of the proof, put together: Show4, Show5, TypesOf2. -/
import Derived.Test.YtckhafpejefbbaaGreatDoorB14
import Derived.Deep.RegionHeld3

/- Package types: sortOf, made of a writer. -/
namespace Go.Proofs.YtckhafpejefbbaaGreatDoor
open Go.RowKit

/-- A type's writer with all that it holds. -/
def WrtAt (w : World) (bt bw bs g cap : Nat) (t : Tw.TW) : Prop := ∃ vv sv cur, TwAt w bt bw bs vv t.vars ∧ BrAt w bw 400 sv t.acc ∧ RowAt w bs g cap cur t.st

/-- What writing a type may turn. -/
abbrev WtS : List TypeId := [128, 334, 329, 5, 245, 124]

abbrev SolS : List TypeId := [128, 334]

/-- Shapes that do not lie in the solver's row lie as they lay. -/
structure KG (g : Nat) (w w' : World) : Prop where
  keep : ∀ {k : Nat} {c : Array Value} {m : Nat × Nat}, k ≠ g → w.heap[k]? = some (.cells c 334 m) → w'.heap[k]? = some (.cells c 334 m)

theorem KG.refl (g : Nat) (w : World) : KG g w w := ⟨fun _ h => h⟩
theorem KG.trans {g : Nat} {a b c : World} (h : KG g a b) (k : KG g b c) : KG g a c := ⟨fun n x => k.keep n (h.keep n x)⟩
theorem KG.of_grown {g : Nat} {w w' : World} (h : w.grownBy w' none) : KG g w w' := ⟨fun _ x => (h.block _ (Array.getElem?_eq_some_iff.1 x).1 (by simp)).trans x⟩
theorem KG.of_tk {B g : Nat} {S : List TypeId} {w w' : World} (h : TK B S w w') (hS : S.contains 334 = false) : KG g w w' := ⟨fun _ x => h.cells x hS⟩
theorem KG.of_uk {bs g cap : Nat} {cur : Array Value} {st : Tw.SS} {w w' : World} (hR : RowAt w bs g cap cur st) (h : UK bs g w w') : KG g w w' := ⟨fun {k c m} n x => h.at x (fun e => by subst e; rw [hR.solver] at x; simp at x) n⟩

theorem findS_len : ∀ (n : Nat) {st st' : Tw.SS} {r p : Nat}, Tw.findS n st r = some (p, st') → st'.shs.length = st.shs.length
  | 0, _, _, _, _, h => by simp [Tw.findS] at h
  | n + 1, st, st', r, p, h => by
    rw [Tw.findS] at h
    split at h
    · cases h
    · split at h
      · cases h; rfl
      · split at h
        · cases h
        · have := findS_len n h
          simpa [Tw.setSame] using this

set_option maxRecDepth 100000 in
set_option maxHeartbeats 4000000 in
theorem sortOf_any {w : World} {B bt bw bs g cap : Nat} {cur : Array Value} {vv : Value} {vars : List Nat} (hT : TwAt w bt bw bs vv vars) {st st1 : Tw.SS} (hR : RowAt w bs g cap cur st) (hB : B ≤ bs) {fuel r : Nat} {so : Int}
    (hf : Tw.sortOfS fuel st r = some (so, st1)) :
    Calls Tryz.prog 182 #[.pointer (some ⟨bt, 0, none⟩), .int .i64 r] w fun e w' => e = .returned (.int .i64 so) ∧ TK B SolS w w' ∧ KG g w w' ∧ ∃ cur', RowAt w' bs g cap cur' st1 := by
  unfold Tw.sortOfS at hf
  simp only [Option.bind_eq_some_iff, Option.some.injEq, Prod.mk.injEq] at hf
  obtain ⟨⟨p, st2⟩, hfi, x, hx, rfl, rfl⟩ := hf
  have HT := hide hT
  have HR := hide hR
  have HF := hide hfi
  have HX := hide hx
  have hl := findS_len _ hfi
  dsimp only at hl hx
  have RD := hide hR.drew
  obtain ⟨c0, c1, c2, _, _, _⟩ := three_cells (show w.drew.heap[bt]? = _ from hT.cell)
  obtain ⟨d0, d1, _, _⟩ := two_cells (unhide RD).solver
  have c237 : Tryz.prog.cellsOf 334 = 4 := by kernel_rfl
  clear hT hR hfi hx
  go_enter Tryz.func182, Tryz.ntmps182
  go_wp2_with fail
  go_region_held3 (fun W => W.cell? ⟨bt, 1, none⟩ = some (.pointer (some ⟨bs, 0, none⟩)) ∧ W.cell? ⟨bs, 0, none⟩ = some (.slice (some ⟨g, 0, none⟩) st.shs.length cap)) (go_keep)
    ((go_at_call 177; refine (find_any (unhide RD) (unhide HF)).mono ?_; rintro e1 w1 ⟨rfl, hk, cur1, hR1⟩
      have R1 := hide hR1
      have K1 : Hid (TK B SolS w w1) := (TK.of_grown _ _ (grown_drew (grown_refl _))).trans ((unhide HR).drew.uk_tk hk (by decide) (by decide) hB)
      have T1 := hide ((unhide HT).tk (unhide K1) (by decide) (by decide))
      have G1 : Hid (KG g w w1) := (KG.of_grown (grown_drew (grown_refl _))).trans (KG.of_uk (unhide HR).drew hk)
      obtain ⟨e0, e1, e2, _, _, _⟩ := three_cells (unhide T1).cell
      obtain ⟨f0, f1, _, _⟩ := two_cells hR1.solver
      rw [hl] at f0
      obtain ⟨hpl, x0, x1, x2, x3⟩ := hR1.sh (unhide HX)
      have hpi : (p : Int) < (st.shs.length : Int) := by omega
      clear hk hR1))
  go_wp2_with fail
  go_ret
  exact ⟨rfl, K1.out, G1.out, cur1, R1.out⟩

set_option maxRecDepth 100000 in
set_option maxHeartbeats 4000000 in
theorem madeW_any {w : World} {B bt bw bs g cap : Nat} {cur : Array Value} {vv : Value} {vars : List Nat} (hT : TwAt w bt bw bs vv vars) {st st1 : Tw.SS} (hR : RowAt w bs g cap cur st) (hB : B ≤ bs) {fuel r : Nat} {so : Int}
    (hf : Tw.sortOfS fuel st r = some (so, st1)) :
    Calls Tryz.prog 183 #[.pointer (some ⟨bt, 0, none⟩), .int .i64 r] w fun e w' => e = .returned (.bool (so == 3 || so == 4)) ∧ TK B SolS w w' ∧ KG g w w' ∧ ∃ cur', RowAt w' bs g cap cur' st1 := by
  unfold Tw.sortOfS at hf
  simp only [Option.bind_eq_some_iff, Option.some.injEq, Prod.mk.injEq] at hf
  obtain ⟨⟨p, st2⟩, hfi, x, hx, rfl, rfl⟩ := hf
  have HT := hide hT
  have HR := hide hR
  have HF := hide hfi
  have HX := hide hx
  have hl := findS_len _ hfi
  dsimp only at hl hx
  have RD := hide hR.drew
  obtain ⟨c0, c1, c2, _, _, _⟩ := three_cells (show w.drew.heap[bt]? = _ from hT.cell)
  obtain ⟨d0, d1, _, _⟩ := two_cells (unhide RD).solver
  have c237 : Tryz.prog.cellsOf 334 = 4 := by kernel_rfl
  obtain ⟨mv, hmv⟩ : ∃ mv, (x.sort == 3 || x.sort == 4) = mv := ⟨_, rfl⟩
  rw [hmv]
  have HM : Hid (Tw.madeS x = mv) := hmv
  clear hT hR hfi hx hmv
  go_enter Tryz.func183, Tryz.ntmps183
  go_wp2_with fail
  go_region_held3 (fun W => W.cell? ⟨bt, 1, none⟩ = some (.pointer (some ⟨bs, 0, none⟩)) ∧ W.cell? ⟨bs, 0, none⟩ = some (.slice (some ⟨g, 0, none⟩) st.shs.length cap)) (go_keep)
    (first
      | (go_at_call 177; refine (find_any (unhide RD) (unhide HF)).mono ?_; rintro e1 w1 ⟨rfl, hk, cur1, hR1⟩
         have R1 := hide hR1
         have K1 : Hid (TK B SolS w w1) := (TK.of_grown _ _ (grown_drew (grown_refl _))).trans ((unhide HR).drew.uk_tk hk (by decide) (by decide) hB)
         have T1 := hide ((unhide HT).tk (unhide K1) (by decide) (by decide))
         have G1 : Hid (KG g w w1) := (KG.of_grown (grown_drew (grown_refl _))).trans (KG.of_uk (unhide HR).drew hk)
         obtain ⟨e0, e1, e2, _, _, _⟩ := three_cells (unhide T1).cell
         obtain ⟨f0, f1, _, _⟩ := two_cells hR1.solver
         rw [hl] at f0
         obtain ⟨hpl, x0, x1, x2, x3⟩ := hR1.sh (unhide HX)
         have hpi : (p : Int) < (st.shs.length : Int) := by omega
         clear hk hR1)
      | (go_at_call 178; refine (made_any x _).mono ?_; rintro e1 w2 ⟨rfl, hg⟩
         rw [unhide HM]
         have K2 : Hid (TK B SolS w w2) := K1.out.trans (TK.of_grown _ _ hg)
         have G2 : Hid (KG g w w2) := G1.out.trans (KG.of_grown hg)
         have R2 := hide ((unhide R1).grown hg)
         obtain ⟨e3, e4, e5, _, _, _⟩ := three_cells ((unhide T1).grown hg).cell
         obtain ⟨f3, f4, _, _⟩ := two_cells (unhide R2).solver
         rw [hl] at f3
         clear hg))
  go_wp2_with fail
  go_ret
  exact ⟨rfl, K2.out, G2.out, cur1, R2.out⟩

end Go.Proofs.YtckhafpejefbbaaGreatDoor

/- Package types: part, write, show of every type. -/
namespace Go.Proofs.YtckhafpejefbbaaGreatDoor
open Go.RowKit

def TPost (B bt bw bs g cap : Nat) (w : World) (t' : Tw.TW) (e : Ending) (w' : World) : Prop := e = .returned (.tuple #[]) ∧ (TK B WtS w w' ∧ KG g w w') ∧ WrtAt w' bt bw bs g cap t'

def WSaidT (n : Nat) : Prop := ∀ {w : World} {B bt bw bs g cap : Nat} {t t' : Tw.TW} {r : Nat}, WrtAt w bt bw bs g cap t → B ≤ bt → B ≤ bw → B ≤ bs → Tw.writeTS n t r = some t' →
  Calls Tryz.prog 107 #[.pointer (some ⟨bt, 0, none⟩), .int .i64 r] w (TPost B bt bw bs g cap w t')

def PSaidT (n : Nat) : Prop := ∀ {w : World} {B bt bw bs g cap : Nat} {t t' : Tw.TW} {r : Nat} {b : Bool}, WrtAt w bt bw bs g cap t → B ≤ bt → B ≤ bw → B ≤ bs → Tw.partTS n t r b = some t' →
  Calls Tryz.prog 181 #[.pointer (some ⟨bt, 0, none⟩), .int .i64 r, .bool b] w (TPost B bt bw bs g cap w t')

theorem numberS_lt {vars vars' : List Nat} {r k : Nat} (h : Tw.numberS vars r = some (k, vars')) (hl : vars.length ≤ 2001) : k < 2600 := by
  unfold Tw.numberS at h
  rcases idxS_spec r vars 0 with ⟨i, h1, _, h3, _⟩ | ⟨h1, _⟩
  · rw [h1] at h
    cases h
    omega
  · rw [h1] at h
    dsimp only at h
    split at h
    · cases h
      omega
    · cases h

theorem vname_len {k : Nat} (h : k < 2600) : (Tw.vname k).length ≤ 4 ∧ 0 < (Tw.vname k).length := by
  unfold Tw.vname
  split
  · have : Lib.itoa ((k / 26 : Nat) : Int) = Lib.decDigits (k / 26) := by
      unfold Lib.itoa
      rw [if_neg (by omega)]
      rfl
    rw [this]
    have := decDigits_len2 (k / 26) (by omega)
    simp
    omega
  · simp

/-- Bytes are put. -/
theorem putW_any {w : World} {B bt bw bs g cap : Nat} {t : Tw.TW} (h : WrtAt w bt bw bs g cap t) (hB : B ≤ bw) (s : ByteArray) (hs : s.size ≤ 1000) (h0 : 0 < s.size) :
    Calls Tryz.prog 172 #[.pointer (some ⟨bw, 0, none⟩), .string s] w (TPost B bt bw bs g cap w ⟨t.st, t.vars, Tw.putS 400 t.acc s.data.toList⟩) := by
  obtain ⟨vv, sv, cur, hT, hW, hR⟩ := h
  refine (Put_any hW hB s hs h0).mono ?_
  rintro e w' ⟨rfl, hk, sv', hW'⟩
  exact ⟨rfl, ⟨hk.sub (by decide), KG.of_tk hk (by decide)⟩, vv, sv', cur, hT.tk hk (by decide) (by decide), hW', hR.tk hk (by decide) (by decide)⟩

theorem WrtAt.cells {w : World} {bt bw bs g cap : Nat} {t : Tw.TW} (h : WrtAt w bt bw bs g cap t) : ∃ vv, w.heap[bt]? = some (.cells #[.pointer (some ⟨bw, 0, none⟩), .pointer (some ⟨bs, 0, none⟩), vv] 245 (0, 0)) := by
  obtain ⟨vv, sv, cur, hT, _, _⟩ := h
  exact ⟨vv, hT.cell⟩

theorem WrtAt.grown {w w' : World} {bt bw bs g cap : Nat} {t : Tw.TW} (h : WrtAt w bt bw bs g cap t) (hg : w.grownBy w' none) : WrtAt w' bt bw bs g cap t := by
  obtain ⟨vv, sv, cur, hT, hW, hR⟩ := h
  exact ⟨vv, sv, cur, hT.grown hg, hW.grown hg, hR.grown hg⟩

set_option maxRecDepth 100000 in
set_option maxHeartbeats 4000000 in
theorem part_step {n : Nat} (hW : WSaidT n) : PSaidT (n + 1) := by
  intro w B bt bw bs g cap t t' r b h h1 h2 h3 hf
  rw [Tw.partTS] at hf
  have HH := hide h
  obtain ⟨vv, hc⟩ := h.cells
  obtain ⟨c0, c1, _, _, _, _⟩ := three_cells hc
  clear h hc
  cases b with
  | false =>
    simp only [Bool.false_eq_true, if_false] at hf
    have HF := hide hf
    clear hf
    go_enter Tryz.func181, Tryz.ntmps181
    go_wp2_with fail
    refine (hW (unhide HH) h1 h2 h3 (unhide HF)).mono ?_
    rintro e1 w1 ⟨rfl, hk⟩
    have K := hide hk
    clear hk
    go_wp2_with fail
    go_end0
    exact ⟨rfl, unhide K⟩
  | true =>
    simp only [if_true, Option.bind_eq_some_iff, Option.some.injEq] at hf
    obtain ⟨u, hu, rfl⟩ := hf
    have HF := hide hu
    clear hu
    go_enter Tryz.func181, Tryz.ntmps181
    go_wp2_with fail
    refine (putW_any (unhide HH) h2 ⟨#[40]⟩ (by simp [ByteArray.size]) (by simp [ByteArray.size])).mono ?_
    rintro e1 w1 ⟨rfl, hk, hw⟩
    have K1 := hide hk
    have W1 := hide hw
    clear hk hw c0 c1
    go_wp2_with fail
    refine (hW (unhide W1) h1 h2 h3 (unhide HF)).mono ?_
    rintro e1 w2 ⟨rfl, hk, hw⟩
    have K2 := hide (And.intro ((unhide K1).1.trans hk.1) ((unhide K1).2.trans hk.2))
    have W2 := hide hw
    obtain ⟨vv2, hc⟩ := hw.cells
    obtain ⟨c0, c1, _, _, _, _⟩ := three_cells hc
    clear hk hw hc K1
    go_wp2_with fail
    refine (putW_any (unhide W2) h2 ⟨#[41]⟩ (by simp [ByteArray.size]) (by simp [ByteArray.size])).mono ?_
    rintro e1 w3 ⟨rfl, hk, hw⟩
    have X := hide (And.intro (And.intro ((unhide K2).1.trans hk.1) ((unhide K2).2.trans hk.2)) hw)
    clear hk hw
    go_wp2_with fail
    go_end0
    exact ⟨rfl, unhide X⟩

set_option maxRecDepth 100000 in
set_option maxHeartbeats 4000000 in
theorem write_step {n : Nat} (hIt : Said.ItoaSmall) (hW : WSaidT n) (hP : PSaidT n) : WSaidT (n + 1) := by
  intro w B bt bw bs g cap t t' r h h1 h2 h3 hf
  rw [Tw.writeTS] at hf
  have HH := hide h
  obtain ⟨vv, sv, cur, hT, hB, hR⟩ := h
  obtain ⟨c0, c1, _, _, _, _⟩ := three_cells hT.cell
  have T0 := hide hT
  have B0 := hide hB
  have R0 := hide hR
  clear hT hB hR
  by_cases hfull : 400 < t.acc.length
  · rw [if_pos hfull] at hf
    cases hf
    have hd : decide (400 < t.acc.length) = true := by simp [hfull]
    have HD := hide hd
    clear hd
    go_enter Tryz.func107, Tryz.ntmps107
    go_wp2_with fail
    refine (Full_any (unhide B0)).mono ?_
    rintro e1 w1 ⟨rfl, rfl⟩
    rw [unhide HD]
    go_wp2_with fail
    go_end0
    exact ⟨rfl, ⟨TK.of_grown _ _ (grown_drew (grown_refl _)), KG.of_grown (grown_drew (grown_refl _))⟩, (unhide HH).grown (grown_drew (grown_refl _))⟩
  rw [if_neg hfull] at hf
  simp only [Option.bind_eq_some_iff] at hf
  obtain ⟨⟨p, st1⟩, hfi, x, hx, hf⟩ := hf
  dsimp only at hx hf
  have HF := hide hfi
  have HX := hide hx
  have hd : decide (400 < t.acc.length) = false := by simp; omega
  have HD := hide hd
  have c237 : Tryz.prog.cellsOf 334 = 4 := by kernel_rfl
  clear hfi hx hd
  have hcase : x.sort = 0 ∨ x.sort = 1 ∨ x.sort = 2 ∨ x.sort = 3 ∨ x.sort = 4 ∨ (x.sort ≠ 0 ∧ x.sort ≠ 1 ∧ x.sort ≠ 2 ∧ x.sort ≠ 3 ∧ x.sort ≠ 4) := by omega
  have hbt : bt < w.heap.size := (Array.getElem?_eq_some_iff.1 (unhide T0).cell).1
  rcases hcase with hs | hs | hs | hs | hs | ⟨hs0, hs1, hs2, hs3, hs4⟩
  all_goals
    first
      | (simp only [hs, if_true, Int.reduceEq, if_false, Option.some.injEq] at hf)
      | (simp only [hs0, hs1, hs2, hs3, hs4, if_false, Option.some.injEq] at hf)
    have HG := hide hf
    clear hf
    first
      | (
          have s0 := congrArg (fun z : Int => z == 0) hs
          have s1 := congrArg (fun z : Int => z == 1) hs
          have s2 := congrArg (fun z : Int => z == 2) hs
          have s3 := congrArg (fun z : Int => z == 3) hs
          have s4 := congrArg (fun z : Int => z == 4) hs
          simp only [Int.reduceBEq] at s0 s1 s2 s3 s4)
      | (
          have s0 : (x.sort == 0) = false := by simp [hs0]
          have s1 : (x.sort == 1) = false := by simp [hs1]
          have s2 : (x.sort == 2) = false := by simp [hs2]
          have s3 : (x.sort == 3) = false := by simp [hs3]
          have s4 : (x.sort == 4) = false := by simp [hs4])
    first
      | clear hs
      | clear hs0 hs1 hs2 hs3 hs4
    go_enter Tryz.func107, Tryz.ntmps107
    go_wp2_with fail
    refine (Full_any (unhide B0)).mono ?_
    rintro e1 w' ⟨rfl, rfl⟩
    rw [unhide HD]
    have T1 : Hid (TwAt w.drew bt bw bs vv t.vars) := (unhide T0).grown (grown_drew (grown_refl _))
    obtain ⟨d0, d1, _, _, _, _⟩ := three_cells (unhide T1).cell
    clear c0 c1
    go_wp2_with fail
    refine (find_any (unhide R0).drew (unhide HF)).mono ?_
    rintro e1 w1 ⟨rfl, hk, cur1, hR1⟩
    have R1 := hide hR1
    have K1 : Hid (TK B SolS w w1) := (TK.of_grown _ _ (grown_drew (grown_refl _))).trans ((unhide R0).drew.uk_tk hk (by decide) (by decide) h3)
    have G1 : Hid (KG g w w1) := (KG.of_grown (grown_drew (grown_refl _))).trans (KG.of_uk (unhide R0).drew hk)
    have W1 : Hid (WrtAt w1 bt bw bs g cap ⟨st1, t.vars, t.acc⟩) := ⟨vv, sv, cur1, (unhide T0).tk (unhide K1) (by decide) (by decide), (unhide B0).tk (unhide K1) (by decide) (by decide), hR1⟩
    have T2 := hide ((unhide T0).tk (unhide K1) (by decide) (by decide))
    obtain ⟨e0, e1, _, _, _, _⟩ := three_cells (unhide T2).cell
    have hbt1 : bt < w1.heap.size := (Array.getElem?_eq_some_iff.1 (unhide T2).cell).1
    obtain ⟨hpl, x0, x1, x2, x3⟩ := hR1.sh (unhide HX)
    obtain ⟨t0, _, _, _⟩ := two_cells hR1.solver
    have hpi : (p : Int) < (st1.shs.length : Int) := by omega
    have hm := hR1.many
    clear hk hR1 d0 d1 T0 T1 B0 R0 HH
    have hgl : g < w1.heap.size := (Array.getElem?_eq_some_iff.1 (unhide R1).row).1
    have A2 : Hid (w1.grownBy (w1.alloc (.cells #[.int .i64 x.sort, .int .i64 x.left, .int .i64 x.right, .int .i64 x.same] 334)) none) := World.grownBy_alloc _ _ none
    have K2 : Hid (TK B WtS w (w1.alloc (.cells #[.int .i64 x.sort, .int .i64 x.left, .int .i64 x.right, .int .i64 x.same] 334)) ∧ KG g w (w1.alloc (.cells #[.int .i64 x.sort, .int .i64 x.left, .int .i64 x.right, .int .i64 x.same] 334))) := ⟨((unhide K1).sub (by decide)).trans (TK.of_grown _ _ A2.out), G1.out.trans (KG.of_grown A2.out)⟩
    have W2 := hide ((unhide W1).grown A2.out)
    have N2 : Hid ((w1.alloc (.cells #[.int .i64 x.sort, .int .i64 x.left, .int .i64 x.right, .int .i64 x.same] 334)).heap[w1.heap.size]? = some (.cells #[.int .i64 x.sort, .int .i64 x.left, .int .i64 x.right, .int .i64 x.same] 334 (0, 0))) := new_block _ _
    clear R1 K1 G1 W1 T2 A2
    go_wp2_with fail
  · have hg' := HG.out
    simp only [Option.bind_eq_some_iff, Option.some.injEq] at hg'
    obtain ⟨⟨k, vars'⟩, hn, rfl⟩ := hg'
    have HN := hide hn
    obtain ⟨vv2, sv2, cur2, hT2, hB2, hR2⟩ := unhide W2
    have HK := hide (numberS_lt hn hT2.vars.few)
    clear hn HG
    have T2 := hide (hT2.grown (grown_drew (grown_refl _)))
    obtain ⟨f0, f1, f2, _, _, _⟩ := three_cells (unhide T2).cell
    have B2 := hide hB2
    have R2 := hide hR2
    clear hT2 hB2 hR2
    generalize w1.alloc (.cells #[.int .i64 x.sort, .int .i64 x.left, .int .i64 x.right, .int .i64 x.same] 334) = wa at *
    go_region_held3 (fun W => W.cell? ⟨bt, 0, none⟩ = some (.pointer (some ⟨bw, 0, none⟩))) (go_keep)
      (first
        | (go_at_call 180; refine (numberW_any (unhide T2) h1 (unhide HN)).mono ?_; rintro e1 w3 ⟨rfl, hk, vv3, hT3⟩
           have T3 := hide hT3
           have K3 : Hid (TK B WtS w w3 ∧ KG g w w3) := ⟨(unhide K2).1.trans ((TK.of_grown _ _ (grown_drew (grown_refl _))).trans (hk.sub (by decide))), (unhide K2).2.trans ((KG.of_grown (grown_drew (grown_refl _))).trans (KG.of_tk hk (by decide)))⟩
           have B3 := hide (((unhide B2).grown (grown_drew (grown_refl _))).tk hk (by decide) (by decide))
           have R3 := hide ((unhide R2).drew.tk hk (by decide) (by decide))
           obtain ⟨k0, k1, k2, _, _, _⟩ := three_cells hT3.cell
           clear hk hT3)
        | (go_at_call 179; refine (variableName_any hIt k (unhide HK) _).mono ?_; rintro e1 w4 ⟨rfl, rfl⟩)
        | (go_at_call 172; refine (putW_any (t := ⟨st1, vars', t.acc⟩) ⟨vv3, sv2, cur2, unhide T3, unhide B3, unhide R3⟩ h2 ⟨(Tw.vname k).toArray⟩ (by have := (vname_len (unhide HK)).1; simp [ByteArray.size]; omega) (by have := (vname_len (unhide HK)).2; simpa [ByteArray.size] using this)).mono ?_; rintro e1 w5 ⟨rfl, hk, hw⟩
           have X := hide (And.intro (And.intro ((unhide K3).1.trans hk.1) ((unhide K3).2.trans hk.2)) hw)
           obtain ⟨vv4, hc⟩ := hw.cells
           obtain ⟨m0, m1, m2, _, _, _⟩ := three_cells hc
           clear hk hw hc))
    go_wp2_with fail
    go_end0
    exact ⟨rfl, unhide X⟩
  · cases HG.out
    refine (putW_any (unhide W2) h2 ⟨#[105, 110, 116]⟩ (by simp [ByteArray.size]) (by simp [ByteArray.size])).mono ?_
    rintro e1 w3 ⟨rfl, hk, hw⟩
    have X := hide (And.intro (And.intro ((unhide K2).1.trans hk.1) ((unhide K2).2.trans hk.2)) hw)
    clear hk hw
    go_wp2_with fail
    go_end0
    exact ⟨rfl, unhide X⟩
  · cases HG.out
    refine (putW_any (unhide W2) h2 ⟨#[98, 111, 111, 108]⟩ (by simp [ByteArray.size]) (by simp [ByteArray.size])).mono ?_
    rintro e1 w3 ⟨rfl, hk, hw⟩
    have X := hide (And.intro (And.intro ((unhide K2).1.trans hk.1) ((unhide K2).2.trans hk.2)) hw)
    clear hk hw
    go_wp2_with fail
    go_end0
    exact ⟨rfl, unhide X⟩
  · have hg' := HG.out
    simp only [Option.bind_eq_some_iff] at hg'
    obtain ⟨⟨so, st2⟩, hn, u, hu, hv⟩ := hg'
    dsimp only at hu hv
    have HN := hide hn
    have HU := hide hu
    have HV := hide hv
    clear hn hu hv HG
    obtain ⟨vv2, sv2, cur2, hT2, hB2, hR2⟩ := unhide W2
    have T2 := hide (hT2.grown (grown_drew (grown_refl _)))
    have B2 := hide (hB2.grown (grown_drew (grown_refl _)))
    have R2 := hide hR2.drew
    clear hT2 hB2 hR2
    have hgne : w1.heap.size ≠ g := by omega
    have NE := hide hgne
    generalize w1.alloc (.cells #[.int .i64 x.sort, .int .i64 x.left, .int .i64 x.right, .int .i64 x.same] 334) = wa at *
    clear e0 e1 x0 x1 x2 x3 t0 hbt1 hgl hgne
    generalize w1.heap.size = wb at *
    have KD : Hid (TK B WtS w wa.drew ∧ KG g w wa.drew) := ⟨(unhide K2).1.trans (TK.of_grown _ _ (grown_drew (grown_refl _))), (unhide K2).2.trans (KG.of_grown (grown_drew (grown_refl _)))⟩
    have ND : Hid (wa.drew.heap[wb]? = some (.cells #[.int .i64 x.sort, .int .i64 x.left, .int .i64 x.right, .int .i64 x.same] 334 (0, 0))) := unhide N2
    obtain ⟨y0, y1, y2, y3⟩ := four_cells (unhide ND)
    clear W2 K2 N2
    go_region_held3 (fun W => W.cell? ⟨wb, 1, none⟩ = some (.int .i64 x.left)) (go_keep)
      (first
        | (go_at_call 182; refine (sortOf_any (unhide T2) (unhide R2) h3 (unhide HN)).mono ?_; rintro e1 w3 ⟨rfl, hk, hkg, cur3, hR3⟩
           have K3 : Hid (TK B WtS w w3 ∧ KG g w w3) := ⟨(unhide KD).1.trans (hk.sub (by decide)), (unhide KD).2.trans hkg⟩
           have W3 : Hid (WrtAt w3 bt bw bs g cap ⟨st2, t.vars, t.acc⟩) := ⟨vv2, sv2, cur3, (unhide T2).tk hk (by decide) (by decide), (unhide B2).tk hk (by decide) (by decide), hR3⟩
           have N3 := hide (hkg.keep (unhide NE) (unhide ND))
           obtain ⟨z0, z1, z2, z3⟩ := four_cells (unhide N3)
           clear hk hkg hR3)
        | (go_at_call 181; refine (hP (unhide W3) h1 h2 h3 (unhide HU)).mono ?_; rintro e1 w4 ⟨rfl, hk, hw⟩
           have K4 : Hid (TK B WtS w w4 ∧ KG g w w4) := ⟨(unhide K3).1.trans hk.1, (unhide K3).2.trans hk.2⟩
           have W4 := hide hw
           have N4 := hide (hk.2.keep (unhide NE) (unhide N3))
           obtain ⟨v0, v1, v2, v3⟩ := four_cells (unhide N4)
           obtain ⟨vv4, hc⟩ := hw.cells
           obtain ⟨m0, m1, m2, _, _, _⟩ := three_cells hc
           clear hk hw hc))
    go_wp2_with fail
    refine (putW_any (unhide W4) h2 ⟨#[32, 45, 62, 32]⟩ (by simp [ByteArray.size]) (by simp [ByteArray.size])).mono ?_
    rintro e1 w5 ⟨rfl, hk, hw⟩
    have K5 : Hid (TK B WtS w w5 ∧ KG g w w5) := ⟨(unhide K4).1.trans hk.1, (unhide K4).2.trans hk.2⟩
    have W5 := hide hw
    obtain ⟨u0, u1, u2, u3⟩ := four_cells (hk.2.keep (unhide NE) (unhide N4))
    clear hk hw
    go_wp2_with fail
    refine (hW (unhide W5) h1 h2 h3 (unhide HV)).mono ?_
    rintro e1 w6 ⟨rfl, hk, hw⟩
    have X := hide (And.intro (And.intro ((unhide K5).1.trans hk.1) ((unhide K5).2.trans hk.2)) hw)
    clear hk hw
    go_wp2_with fail
    go_end0
    exact ⟨rfl, unhide X⟩
  · have hg' := HG.out
    simp only [Option.bind_eq_some_iff] at hg'
    obtain ⟨⟨so, st2⟩, hn, u, hu, ⟨so2, st3⟩, hn2, hv⟩ := hg'
    dsimp only at hu hv
    have HN := hide hn
    have HU := hide hu
    have HN2 := hide hn2
    have HV := hide hv
    clear hn hu hn2 hv HG
    obtain ⟨vv2, sv2, cur2, hT2, hB2, hR2⟩ := unhide W2
    have T2 := hide (hT2.grown (grown_drew (grown_refl _)))
    have B2 := hide (hB2.grown (grown_drew (grown_refl _)))
    have R2 := hide hR2.drew
    clear hT2 hB2 hR2
    have hgne : w1.heap.size ≠ g := by omega
    have NE := hide hgne
    generalize w1.alloc (.cells #[.int .i64 x.sort, .int .i64 x.left, .int .i64 x.right, .int .i64 x.same] 334) = wa at *
    clear e0 e1 x0 x1 x2 x3 t0 hbt1 hgl hgne
    generalize w1.heap.size = wb at *
    have KD : Hid (TK B WtS w wa.drew ∧ KG g w wa.drew) := ⟨(unhide K2).1.trans (TK.of_grown _ _ (grown_drew (grown_refl _))), (unhide K2).2.trans (KG.of_grown (grown_drew (grown_refl _)))⟩
    have ND : Hid (wa.drew.heap[wb]? = some (.cells #[.int .i64 x.sort, .int .i64 x.left, .int .i64 x.right, .int .i64 x.same] 334 (0, 0))) := unhide N2
    obtain ⟨y0, y1, y2, y3⟩ := four_cells (unhide ND)
    clear W2 K2 N2
    go_region_held3 (fun W => W.cell? ⟨wb, 1, none⟩ = some (.int .i64 x.left)) (go_keep)
      (first
        | (go_at_call 183; refine (madeW_any (unhide T2) (unhide R2) h3 (unhide HN)).mono ?_; rintro e1 w3 ⟨rfl, hk, hkg, cur3, hR3⟩
           have K3 : Hid (TK B WtS w w3 ∧ KG g w w3) := ⟨(unhide KD).1.trans (hk.sub (by decide)), (unhide KD).2.trans hkg⟩
           have W3 : Hid (WrtAt w3 bt bw bs g cap ⟨st2, t.vars, t.acc⟩) := ⟨vv2, sv2, cur3, (unhide T2).tk hk (by decide) (by decide), (unhide B2).tk hk (by decide) (by decide), hR3⟩
           have N3 := hide (hkg.keep (unhide NE) (unhide ND))
           obtain ⟨z0, z1, z2, z3⟩ := four_cells (unhide N3)
           clear hk hkg hR3)
        | (go_at_call 181; refine (hP (unhide W3) h1 h2 h3 (unhide HU)).mono ?_; rintro e1 w4 ⟨rfl, hk, hw⟩
           have K4 : Hid (TK B WtS w w4 ∧ KG g w w4) := ⟨(unhide K3).1.trans hk.1, (unhide K3).2.trans hk.2⟩
           have W4 := hide hw
           have N4 := hide (hk.2.keep (unhide NE) (unhide N3))
           obtain ⟨v0, v1, v2, v3⟩ := four_cells (unhide N4)
           obtain ⟨vv4, hc⟩ := hw.cells
           obtain ⟨m0, m1, m2, _, _, _⟩ := three_cells hc
           clear hk hw hc))
    go_wp2_with fail
    refine (putW_any (unhide W4) h2 ⟨#[32, 42, 32]⟩ (by simp [ByteArray.size]) (by simp [ByteArray.size])).mono ?_
    rintro e1 w5 ⟨rfl, hk, hw⟩
    have K5 : Hid (TK B WtS w w5.drew ∧ KG g w w5.drew) := ⟨((unhide K4).1.trans hk.1).trans (TK.of_grown _ _ (grown_drew (grown_refl _))), ((unhide K4).2.trans hk.2).trans (KG.of_grown (grown_drew (grown_refl _)))⟩
    obtain ⟨vv5, sv5, cur5, hT5, hB5, hR5⟩ := hw
    have T5 := hide (hT5.grown (grown_drew (grown_refl _)))
    have B5 := hide (hB5.grown (grown_drew (grown_refl _)))
    have R5 := hide hR5.drew
    have N5 : Hid (w5.drew.heap[wb]? = some (.cells #[.int .i64 x.sort, .int .i64 x.left, .int .i64 x.right, .int .i64 x.same] 334 (0, 0))) := hk.2.keep (unhide NE) (unhide N4)
    obtain ⟨u0, u1, u2, u3⟩ := four_cells (unhide N5)
    clear hk hT5 hB5 hR5 KD ND T2 B2 R2 W4 K4 N4
    go_wp2_with fail
    go_region_held3 (fun W => W.cell? ⟨wb, 2, none⟩ = some (.int .i64 x.right)) (go_keep)
      (first
        | (go_at_call 183; refine (madeW_any (unhide T5) (unhide R5) h3 (unhide HN2)).mono ?_; rintro e1 w6 ⟨rfl, hk, hkg, cur6, hR6⟩
           have K6 : Hid (TK B WtS w w6 ∧ KG g w w6) := ⟨(unhide K5).1.trans (hk.sub (by decide)), (unhide K5).2.trans hkg⟩
           have W6 : Hid (WrtAt w6 bt bw bs g cap ⟨st3, u.vars, Tw.putS 400 u.acc [32, 42, 32]⟩) := ⟨vv5, sv5, cur6, (unhide T5).tk hk (by decide) (by decide), (unhide B5).tk hk (by decide) (by decide), hR6⟩
           have N6 := hide (hkg.keep (unhide NE) (unhide N5))
           obtain ⟨z0, z1, z2, z3⟩ := four_cells (unhide N6)
           clear hk hkg hR6)
        | (go_at_call 181; refine (hP (unhide W6) h1 h2 h3 (unhide HV)).mono ?_; rintro e1 w7 ⟨rfl, hk, hw⟩
           have X := hide (And.intro (And.intro ((unhide K6).1.trans hk.1) ((unhide K6).2.trans hk.2)) hw)
           obtain ⟨v0, v1, v2, v3⟩ := four_cells (hk.2.keep (unhide NE) (unhide N6))
           clear hk hw))
    go_wp2_with fail
    go_end0
    exact ⟨rfl, unhide X⟩
  · cases HG.out
    go_end0
    exact ⟨rfl, unhide K2, unhide W2⟩

theorem write_all (hIt : Said.ItoaSmall) : ∀ n, WSaidT n ∧ PSaidT n
  | 0 => ⟨fun _ _ _ _ h => by simp [Tw.writeTS] at h, fun _ _ _ _ h => by simp [Tw.partTS] at h⟩
  | n + 1 => ⟨write_step hIt (write_all hIt n).1 (write_all hIt n).2, part_step (write_all hIt n).1⟩

set_option maxRecDepth 100000 in
set_option maxHeartbeats 2000000 in
theorem show_any (hIt : Said.ItoaSmall) {w : World} {B bs g cap : Nat} {cur : Array Value} {st : Tw.SS} (hR : RowAt w bs g cap cur st) {n r : Nat} {u : Tw.TW} (hf : Tw.writeTS n ⟨st, [], []⟩ r = some u) (hB : B ≤ bs) :
    Calls Tryz.prog 55 #[.pointer (some ⟨bs, 0, none⟩), .int .i64 r] w fun e w' => e = .returned (bytesV (Tw.toldS 400 u.acc)) ∧ TK B WtS w w' := by
  have R0 := hide hR
  have HF := hide hf
  have hbs : bs < w.heap.size := (Array.getElem?_eq_some_iff.1 hR.solver).1
  clear hR hf
  go_enter Tryz.func55, Tryz.ntmps55
  go_wp2_with fail
  refine (NewWriter_any w 400 (by omega)).mono ?_
  rintro e1 w1 ⟨rfl, hg, hb⟩
  have G1 := hide hg
  have B1 := hide hb
  have R1 := hide ((unhide R0).grown hg)
  have z1 := hg.size
  clear hg hb
  go_wp2_with fail
  refine ((write_all hIt n).1 (B := B) (t := ⟨st, [], []⟩) ⟨_, _, _, ⟨new_block _ _, ⟨⟨by simp, .inl ⟨rfl, rfl⟩⟩, by simp⟩, by simp [Value.ownBlock]⟩, (unhide B1).grown (World.grownBy_alloc _ _ none), (unhide R1).grown (World.grownBy_alloc _ _ none)⟩ (by omega) (by omega) hB (unhide HF)).mono ?_
  rintro e1 w2 ⟨rfl, hk, vv2, sv2, cur2, hT, hB', hR'⟩
  have K2 : Hid (TK B WtS w w2) := (TK.of_grown _ _ (grown_alloc (unhide G1) _)).trans hk.1
  have B2 := hide hB'
  obtain ⟨e0, e1, _, _, _, _⟩ := three_cells hT.cell
  clear hk hB' hT hR'
  go_wp2_with fail
  refine (Told_any (unhide B2)).mono ?_
  rintro e1 w3 ⟨rfl, hg⟩
  go_wp2_with fail
  go_ret
  exact ⟨rfl, (unhide K2).trans (TK.of_grown _ _ hg)⟩

end Go.Proofs.YtckhafpejefbbaaGreatDoor

/- types.Of of every tree. -/
namespace Go.Proofs.YtckhafpejefbbaaGreatDoor
open Go.RowKit

/-- What Of gives. -/
def ofV : Option (List UInt8) → Value
  | none => .tuple #[bytesV [], .bool false]
  | some s => .tuple #[bytesV s, .bool true]

set_option maxRecDepth 100000 in
set_option maxHeartbeats 4000000 in
theorem Of_any (hIt : Said.ItoaSmall) {w : World} {hi : Nat} {t : Tw.T} {tv : Value} (hr : Rep w 0 hi t tv) {fuel : Nat} {res : Option (List UInt8)} (hf : Tw.ofS fuel t = some res) :
    Calls Tryz.prog 34 #[tv] w fun e w' => e = .returned (ofV res) ∧ TK w.heap.size WtS w w' := by
  unfold Tw.ofS at hf
  simp only [Option.bind_eq_some_iff] at hf
  obtain ⟨⟨r, st1⟩, h1, hf⟩ := hf
  dsimp only at hf
  have HR := hide hr
  have H1 : Hid (Tw.inferS fuel t .nil ss0 = some (r, st1)) := h1
  obtain ⟨T0, n0, rfl⟩ := hr.iface
  clear hr h1
  by_cases hc : st1.clash = true
  · rw [if_pos hc] at hf
    cases hf
    have HC := hide hc
    clear hc
    go_enter Tryz.func34, Tryz.ntmps34
    go_wp2_with fail
    refine (newSolver_any w).mono ?_
    rintro e1 w1 ⟨rfl, hg, hs⟩
    have G1 := hide hg
    have S1 := hide hs
    have R1 := hide ((unhide HR).grown hg (Nat.le_refl _) (Nat.le_refl _))
    clear hg hs
    go_wp2_with fail
    refine ((infer_all fuel).1 (unhide S1) (unhide R1) (show EnvAt w1 hi .nil (.pointer none) from rfl) (unhide H1)).mono ?_
    rintro e1 w2 ⟨rfl, hk, hs⟩
    have K2 : Hid (TK w.heap.size WtS w w2) := (TK.of_grown _ _ (unhide G1)).trans ((unhide S1).sk_tk hk (by decide) (by decide) (Nat.le_refl _))
    obtain ⟨g, cap, cur, hR⟩ := hs
    obtain ⟨s0, s1, _, _⟩ := two_cells hR.solver
    rw [unhide HC] at s1
    clear hk hR
    go_wp2_with fail
    go_ret2
    exact ⟨rfl, K2.out⟩
  rw [if_neg hc] at hf
  simp only [Bool.not_eq_true] at hc
  have HC := hide hc
  simp only [Option.bind_eq_some_iff] at hf
  obtain ⟨⟨en, st2⟩, h2, hf⟩ := hf
  dsimp only at hf
  have H2 := hide h2
  clear h2 hc
  cases en with
  | true =>
    simp only [if_true, Option.some.injEq] at hf
    subst hf
    go_enter Tryz.func34, Tryz.ntmps34
    go_wp2_with fail
    refine (newSolver_any w).mono ?_
    rintro e1 w1 ⟨rfl, hg, hs⟩
    have G1 := hide hg
    have S1 := hide hs
    have R1 := hide ((unhide HR).grown hg (Nat.le_refl _) (Nat.le_refl _))
    clear hg hs
    go_wp2_with fail
    refine ((infer_all fuel).1 (unhide S1) (unhide R1) (show EnvAt w1 hi .nil (.pointer none) from rfl) (unhide H1)).mono ?_
    rintro e1 w2 ⟨rfl, hk, hs⟩
    have K2 : Hid (TK w.heap.size WtS w w2) := (TK.of_grown _ _ (unhide G1)).trans ((unhide S1).sk_tk hk (by decide) (by decide) (Nat.le_refl _))
    obtain ⟨g, cap, cur, hR⟩ := hs
    have R2 := hide hR
    obtain ⟨s0, s1, _, _⟩ := two_cells hR.solver
    rw [unhide HC] at s1
    clear hk hR
    go_wp2_with fail
    refine (endless_any (unhide R2) (unhide H2)).mono ?_
    rintro e1 w3 ⟨rfl, hk, cur3, hR⟩
    have K3 : Hid (TK w.heap.size WtS w w3) := (unhide K2).trans ((unhide R2).uk_tk hk (by decide) (by decide) (Nat.le_refl _))
    clear hk hR
    go_wp2_with fail
    go_ret2
    exact ⟨rfl, K3.out⟩
  | false =>
    simp only [Bool.false_eq_true, if_false, Option.bind_eq_some_iff, Option.some.injEq] at hf
    obtain ⟨u, h3, rfl⟩ := hf
    have H3 := hide h3
    clear h3
    go_enter Tryz.func34, Tryz.ntmps34
    go_wp2_with fail
    refine (newSolver_any w).mono ?_
    rintro e1 w1 ⟨rfl, hg, hs⟩
    have G1 := hide hg
    have S1 := hide hs
    have R1 := hide ((unhide HR).grown hg (Nat.le_refl _) (Nat.le_refl _))
    clear hg hs
    go_wp2_with fail
    refine ((infer_all fuel).1 (unhide S1) (unhide R1) (show EnvAt w1 hi .nil (.pointer none) from rfl) (unhide H1)).mono ?_
    rintro e1 w2 ⟨rfl, hk, hs⟩
    have K2 : Hid (TK w.heap.size WtS w w2) := (TK.of_grown _ _ (unhide G1)).trans ((unhide S1).sk_tk hk (by decide) (by decide) (Nat.le_refl _))
    obtain ⟨g, cap, cur, hR⟩ := hs
    have R2 := hide hR
    obtain ⟨s0, s1, _, _⟩ := two_cells hR.solver
    rw [unhide HC] at s1
    clear hk hR
    go_wp2_with fail
    refine (endless_any (unhide R2) (unhide H2)).mono ?_
    rintro e1 w3 ⟨rfl, hk, cur3, hR⟩
    have K3 : Hid (TK w.heap.size WtS w w3) := (unhide K2).trans ((unhide R2).uk_tk hk (by decide) (by decide) (Nat.le_refl _))
    have R3 := hide hR
    clear hk hR
    go_wp2_with fail
    refine (show_any hIt (unhide R3) (unhide H3) (Nat.le_refl _)).mono ?_
    rintro e1 w4 ⟨rfl, hk⟩
    have K4 : Hid (TK w.heap.size WtS w w4) := (unhide K3).trans hk
    clear hk
    go_wp2_with fail
    go_ret2
    exact ⟨rfl, K4.out⟩

end Go.Proofs.YtckhafpejefbbaaGreatDoor
