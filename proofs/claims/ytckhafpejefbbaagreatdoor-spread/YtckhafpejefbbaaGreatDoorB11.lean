/- Texts of the proof, put together: Weight3, NamesTw, Names. -/
import Derived.Test.YtckhafpejefbbaaGreatDoorB10
import Derived.Deep.RegionHeld3
import Derived.Test.YtckhafpejefbbaaGreatDoorB04
import Derived.Test.YtckhafpejefbbaaGreatDoorB09
import Derived.Deep.LoopGhost

/- tree.weight at names, fun and let; tree.Weight. -/
namespace Go.Proofs.YtckhafpejefbbaaGreatDoor
open Go.RowKit

theorem weightS_le : ∀ {t : Tw.T} {e : Tw.WEn} {k : Nat}, Tw.weightS t e = some k → k ≤ 2001 := by
  intro t e k h
  cases t <;> simp only [Tw.weightS, Option.bind_eq_some_iff, Option.some.injEq] at h
  · obtain ⟨_, _, h⟩ := h; omega
  · omega
  · omega
  · omega
  · obtain ⟨_, _, h⟩ := h; omega
  · obtain ⟨_, _, _, _, h⟩ := h; omega
  · obtain ⟨_, _, _, _, h⟩ := h; omega
  · obtain ⟨_, _, _, _, h⟩ := h; omega
  · obtain ⟨_, _, _, _, _, _, h⟩ := h; omega
  · obtain ⟨_, _, h⟩ := h; omega
  · obtain ⟨_, _, _, _, h⟩ := h; omega

def WSaid (t : Tw.T) : Prop := ∀ {w : World} {hi : Nat} {tv ev : Value} {e : Tw.WEn} {k : Nat}, Rep w 0 hi t tv → WAt w e ev → Tw.weightS t e = some k → Calls Tryz.prog 87 #[tv, ev] w (WPost w k)

set_option maxRecDepth 100000 in
set_option maxHeartbeats 4000000 in
theorem weight_Name (fr to : Nat) (x : List UInt8) : WSaid (.name fr to x) := by
  intro w hi tv ev e k hr he hf
  obtain ⟨b, _, _, rfl, hb⟩ := hr
  rw [Tw.weightS] at hf
  obtain ⟨m, hm, hf1⟩ := Option.bind_eq_some_iff.1 hf
  simp only [Option.some.injEq] at hf1
  have HR := hide hf1
  have HM := hide hm
  have HE := hide he
  have c2 : w.cell? ⟨b, 2, none⟩ = some (bytesV x) := by rw [cell_of_row _ _ _ _ _ _ hb]; rfl
  obtain ⟨a, rfl⟩ := he.ptr
  have q0 := ta_Name_Name
  have q1 := ta_Name_Fun
  have q2 := ta_Name_Let
  clear hf hf1 hm he hb
  go_enter Tryz.func87, Tryz.ntmps87
  go_wp2_with fail
  refine (findW_any (unhide HE) x (unhide HM)).mono ?_
  rintro e1 w1 ⟨rfl, rfl⟩
  go_wp2_with fail
  all_goals
    go_ret
    go_light
    exact ⟨ret_int (by have := unhide HR; omega), grown_refl _⟩

set_option maxRecDepth 100000 in
set_option maxHeartbeats 4000000 in
theorem weight_Fun {fr to bat : Nat} {bn : List UInt8} {body : Tw.T} (hB : WSaid body) : WSaid (.fn fr to bn bat body) := by
  intro w hi tv ev e k hr he hf
  obtain ⟨v1, ⟨b, _, _, rfl, hb⟩, r1⟩ := hr
  rw [Tw.weightS] at hf
  obtain ⟨m, hm, hf1⟩ := Option.bind_eq_some_iff.1 hf
  simp only [Option.some.injEq] at hf1
  have HR := hide hf1
  have HM := hide hm
  have HE := hide he
  have R0 := hide r1
  have B0 := hide hb
  have hm1 := hide (weightS_le hm)
  obtain ⟨T0, n0, rfl⟩ := r1.iface
  obtain ⟨_, _, c2, _, c4⟩ := five_cells hb
  obtain ⟨a, rfl⟩ := he.ptr
  have q0 := ta_Fun_Name
  have q1 := ta_Fun_Fun
  have q2 := ta_Fun_Let
  clear hf hf1 hm he hb r1
  have hm2 := unhide hm1
  go_enter Tryz.func87, Tryz.ntmps87
  go_wp2_with fail
  have D1 : Hid (w.grownBy w.drew none) := grown_drew (grown_refl _)
  go_region_held3 (fun W => W.cell? ⟨b, 2, none⟩ = some (bytesV bn) ∧ W.cell? ⟨b, 4, none⟩ = some (.iface T0 (.pointer (some ⟨n0, 0, none⟩)))) (go_keep)
    (first
      | (go_at_call 164; refine (withW_any ((unhide HE).grown D1.out) bn 1).mono ?_; rintro e1 w2 ⟨sa, rfl, hg, hn⟩
         have G2 : Hid (w.grownBy w2 none) := grown_trans D1.out hg
         have N2 := hide hn
         have B2 := five_cells ((grown_trans D1.out hg).block b (Array.getElem?_eq_some_iff.1 B0.out).1 (by simp) |>.trans B0.out)
         obtain ⟨_, _, d2, _, d4⟩ := B2
         clear hg hn)
      | (go_at_call 87; refine (hB ((unhide R0).grown G2.out (Nat.le_refl _) (Nat.le_refl _)) (unhide N2) (unhide HM)).mono ?_; rintro e1 w3 ⟨rfl, hg⟩
         have G3 : Hid (w.grownBy w3 none) := grown_trans G2.out hg
         have B3 := five_cells (G3.out.block b (Array.getElem?_eq_some_iff.1 B0.out).1 (by simp) |>.trans B0.out)
         obtain ⟨_, _, g2, _, g4⟩ := B3
         clear hg))
  go_wp2_with fail
  all_goals
    go_ret
    go_light
    exact ⟨ret_int (by have := unhide HR; omega), G3.out⟩

set_option maxRecDepth 100000 in
set_option maxHeartbeats 4000000 in
theorem weight_Let {fr to bat : Nat} {rc : Bool} {bn : List UInt8} {d x : Tw.T} (hD : WSaid d) (hX : WSaid x) : WSaid (.lett fr to rc bn bat d x) := by
  intro w hi tv ev e k hr he hf
  obtain ⟨v1, v2, ⟨b, _, _, rfl, hb⟩, r1, r2⟩ := hr
  rw [Tw.weightS] at hf
  obtain ⟨m, hm, hf1⟩ := Option.bind_eq_some_iff.1 hf
  obtain ⟨c, hc, hf2⟩ := Option.bind_eq_some_iff.1 hf1
  simp only [Option.some.injEq] at hf2
  have HR := hide hf2
  have HC := hide hc
  have HE := hide he
  have R1 := hide r1
  have R2 := hide r2
  have B0 := hide hb
  have hm2 := weightS_le hm
  have hc2 := weightS_le hc
  obtain ⟨T0, n0, rfl⟩ := r1.iface
  obtain ⟨T1, n1, rfl⟩ := r2.iface
  obtain ⟨c2, c3, c5, c6⟩ := seven_cells hb
  obtain ⟨a, rfl⟩ := he.ptr
  have q0 := ta_Let_Name
  have q1 := ta_Let_Fun
  have q2 := ta_Let_Let
  clear hf hf1 hf2 hc he hb r1 r2
  have tail : ∀ (W : World), w.grownBy W none → Hid (W.grownBy W.drew none) := fun W _ => grown_drew (grown_refl _)
  cases rc
  · simp only [Bool.false_eq_true, if_false] at hm
    have HM := hide hm
    clear hm
    go_enter Tryz.func87, Tryz.ntmps87
    go_wp2_with fail
    refine (hD (unhide R1) (unhide HE) (unhide HM)).mono ?_
    rintro e1 w1 ⟨rfl, hg⟩
    have G1 : Hid (w.grownBy w1 none) := hg
    clear hg
    obtain ⟨_, c3', _, c6'⟩ := seven_cells (G1.out.block b (Array.getElem?_eq_some_iff.1 B0.out).1 (by simp) |>.trans B0.out)
    have D1 : Hid (w1.grownBy w1.drew none) := grown_drew (grown_refl _)
    clear q0 q1 q2 c2 c3 c5 c6 tail
    go_wp2_with fail
    go_region_held3 (fun W => W.cell? ⟨b, 3, none⟩ = some (bytesV bn) ∧ W.cell? ⟨b, 6, none⟩ = some (.iface T1 (.pointer (some ⟨n1, 0, none⟩)))) (go_keep)
      (first
        | (go_at_call 164; refine (withW_any ((unhide HE).grown (grown_trans G1.out D1.out)) bn m).mono ?_; rintro e1 w2 ⟨sa2, rfl, hg, hn⟩
           have G2 : Hid (w.grownBy w2 none) := grown_trans (grown_trans G1.out D1.out) hg
           have N2 := hide hn
           have B2 := seven_cells (G2.out.block b (Array.getElem?_eq_some_iff.1 B0.out).1 (by simp) |>.trans B0.out)
           obtain ⟨_, d3, _, d6⟩ := B2
           clear hg hn)
        | (go_at_call 87; refine (hX ((unhide R2).grown G2.out (Nat.le_refl _) (Nat.le_refl _)) (unhide N2) (unhide HC)).mono ?_; rintro e1 w3 ⟨rfl, hg⟩
           have G3 : Hid (w.grownBy w3 none) := grown_trans G2.out hg
           have B3 := seven_cells (G3.out.block b (Array.getElem?_eq_some_iff.1 B0.out).1 (by simp) |>.trans B0.out)
           obtain ⟨_, g3, _, g6⟩ := B3
           clear hg))
    go_wp2_with fail
    all_goals
      go_ret
      go_light
      exact ⟨ret_int (by have := unhide HR; omega), G3.out⟩
  · simp only [if_true] at hm
    have HM := hide hm
    clear hm
    go_enter Tryz.func87, Tryz.ntmps87
    go_wp2_with fail
    refine (withW_any (unhide HE) bn 1).mono ?_
    rintro e1 w0 ⟨sa, rfl, hg, hn⟩
    have G0 : Hid (w.grownBy w0 none) := hg
    have N0 := hide hn
    clear hg hn
    obtain ⟨_, u3, u5, u6⟩ := seven_cells (G0.out.block b (Array.getElem?_eq_some_iff.1 B0.out).1 (by simp) |>.trans B0.out)
    go_wp2_with fail
    refine (hD ((unhide R1).grown G0.out (Nat.le_refl _) (Nat.le_refl _)) (unhide N0) (unhide HM)).mono ?_
    rintro e1 w1 ⟨rfl, hg⟩
    have G1 : Hid (w.grownBy w1 none) := grown_trans G0.out hg
    clear hg
    obtain ⟨_, c3', _, c6'⟩ := seven_cells (G1.out.block b (Array.getElem?_eq_some_iff.1 B0.out).1 (by simp) |>.trans B0.out)
    have D1 : Hid (w1.grownBy w1.drew none) := grown_drew (grown_refl _)
    clear q0 q1 q2 c2 c3 c5 c6 tail
    go_wp2_with fail
    go_region_held3 (fun W => W.cell? ⟨b, 3, none⟩ = some (bytesV bn) ∧ W.cell? ⟨b, 6, none⟩ = some (.iface T1 (.pointer (some ⟨n1, 0, none⟩)))) (go_keep)
      (first
        | (go_at_call 164; refine (withW_any ((unhide HE).grown (grown_trans G1.out D1.out)) bn m).mono ?_; rintro e1 w2 ⟨sa2, rfl, hg, hn⟩
           have G2 : Hid (w.grownBy w2 none) := grown_trans (grown_trans G1.out D1.out) hg
           have N2 := hide hn
           have B2 := seven_cells (G2.out.block b (Array.getElem?_eq_some_iff.1 B0.out).1 (by simp) |>.trans B0.out)
           obtain ⟨_, d3, _, d6⟩ := B2
           clear hg hn)
        | (go_at_call 87; refine (hX ((unhide R2).grown G2.out (Nat.le_refl _) (Nat.le_refl _)) (unhide N2) (unhide HC)).mono ?_; rintro e1 w3 ⟨rfl, hg⟩
           have G3 : Hid (w.grownBy w3 none) := grown_trans G2.out hg
           have B3 := seven_cells (G3.out.block b (Array.getElem?_eq_some_iff.1 B0.out).1 (by simp) |>.trans B0.out)
           obtain ⟨_, g3, _, g6⟩ := B3
           clear hg))
    go_wp2_with fail
    all_goals
      go_ret
      go_light
      exact ⟨ret_int (by have := unhide HR; omega), G3.out⟩

theorem kid {t : Tw.T} (h : WSaid t) {w : World} {hi : Nat} {tv ev : Value} {e : Tw.WEn} {k : Nat} (hr : Rep w 0 hi t tv) (he : WAt w e ev) (hf : Tw.weightS t e = some k) : (∃ T n, tv = .iface T (.pointer (some ⟨n, 0, none⟩))) ∧ KidSaid w ev tv k :=
  ⟨hr.iface, fun _ hg => h (hr.grown hg (Nat.le_refl _) (Nat.le_refl _)) (he.grown hg) hf⟩

theorem weight_all : ∀ t : Tw.T, WSaid t
  | .name fr to x => weight_Name fr to x
  | .int fr to v => by
    intro hr he hf
    obtain ⟨b, _, _, rfl, hb⟩ := hr
    simp only [Tw.weightS, Option.some.injEq] at hf
    subst hf
    exact weight_Int (vs := []) (ks := []) (parts_Int _ b) he.ptr rfl (by simp) (by simp) (by simp)
  | .truth fr to v => by
    intro hr he hf
    obtain ⟨b, _, _, rfl, hb⟩ := hr
    simp only [Tw.weightS, Option.some.injEq] at hf
    subst hf
    exact weight_Truth (vs := []) (ks := []) (parts_Truth _ b) he.ptr rfl (by simp) (by simp) (by simp)
  | .side fr to v => by
    intro hr he hf
    obtain ⟨b, _, _, rfl, hb⟩ := hr
    simp only [Tw.weightS, Option.some.injEq] at hf
    subst hf
    exact weight_Side (vs := []) (ks := []) (parts_Side _ b) he.ptr rfl (by simp) (by simp) (by simp)
  | .bracket fr to i => by
    intro hr he hf
    obtain ⟨v1, ⟨b, _, _, rfl, hb⟩, r1⟩ := hr
    simp only [Tw.weightS, Option.bind_eq_some_iff, Option.some.injEq] at hf
    obtain ⟨k1, h1, rfl⟩ := hf
    have K1 := kid (weight_all i) r1 he h1
    have := weight_Bracket (vs := [v1]) (ks := [k1]) (parts_Bracket K1.1 hb) he.ptr rfl (by simp) (by
      intro j a1 a2
      match j, a1 with
      | 0, _ => exact K1) (by intro k hk; simp at hk; subst hk; exact weightS_le h1)
    simpa using this
  | .fn fr to bn bat b => weight_Fun (weight_all b)
  | .lett fr to rc bn bat d b => weight_Let (weight_all d) (weight_all b)
  | .pair fr to l r => by
    intro hr he hf
    obtain ⟨v1, v2, ⟨b, _, _, rfl, hb⟩, r1, r2⟩ := hr
    simp only [Tw.weightS, Option.bind_eq_some_iff, Option.some.injEq] at hf
    obtain ⟨k1, h1, k2, h2, rfl⟩ := hf
    have K1 := kid (weight_all l) r1 he h1
    have K2 := kid (weight_all r) r2 he h2
    have := weight_Pair (vs := [v1, v2]) (ks := [k1, k2]) (parts_Pair K1.1 K2.1 hb) he.ptr rfl (by simp) (by
      intro j a1 a2
      match j, a1 with
      | 0, _ => exact K1
      | 1, _ => exact K2) (by intro k hk; simp at hk; rcases hk with rfl | rfl <;> first | exact weightS_le h1 | exact weightS_le h2)
    simpa [Nat.add_assoc] using this
  | .call fr to l r => by
    intro hr he hf
    obtain ⟨v1, v2, ⟨b, _, _, rfl, hb⟩, r1, r2⟩ := hr
    simp only [Tw.weightS, Option.bind_eq_some_iff, Option.some.injEq] at hf
    obtain ⟨k1, h1, k2, h2, rfl⟩ := hf
    have K1 := kid (weight_all l) r1 he h1
    have K2 := kid (weight_all r) r2 he h2
    have := weight_Call (vs := [v1, v2]) (ks := [k1, k2]) (parts_Call K1.1 K2.1 hb) he.ptr rfl (by simp) (by
      intro j a1 a2
      match j, a1 with
      | 0, _ => exact K1
      | 1, _ => exact K2) (by intro k hk; simp at hk; rcases hk with rfl | rfl <;> first | exact weightS_le h1 | exact weightS_le h2)
    simpa [Nat.add_assoc] using this
  | .binary fr to sg l r => by
    intro hr he hf
    obtain ⟨v1, v2, ⟨b, _, _, rfl, hb⟩, r1, r2⟩ := hr
    simp only [Tw.weightS, Option.bind_eq_some_iff, Option.some.injEq] at hf
    obtain ⟨k1, h1, k2, h2, rfl⟩ := hf
    have K1 := kid (weight_all l) r1 he h1
    have K2 := kid (weight_all r) r2 he h2
    have := weight_Binary (vs := [v1, v2]) (ks := [k1, k2]) (parts_Binary K1.1 K2.1 hb) he.ptr rfl (by simp) (by
      intro j a1 a2
      match j, a1 with
      | 0, _ => exact K1
      | 1, _ => exact K2) (by intro k hk; simp at hk; rcases hk with rfl | rfl <;> first | exact weightS_le h1 | exact weightS_le h2)
    simpa [Nat.add_assoc] using this
  | .cond fr to c t f => by
    intro hr he hf
    obtain ⟨v1, v2, v3, ⟨b, _, _, rfl, hb⟩, r1, r2, r3⟩ := hr
    simp only [Tw.weightS, Option.bind_eq_some_iff, Option.some.injEq] at hf
    obtain ⟨k1, h1, k2, h2, k3, h3, rfl⟩ := hf
    have K1 := kid (weight_all c) r1 he h1
    have K2 := kid (weight_all t) r2 he h2
    have K3 := kid (weight_all f) r3 he h3
    have := weight_If (vs := [v1, v2, v3]) (ks := [k1, k2, k3]) (parts_If K1.1 K2.1 K3.1 hb) he.ptr rfl (by simp) (by
      intro j a1 a2
      match j, a1 with
      | 0, _ => exact K1
      | 1, _ => exact K2
      | 2, _ => exact K3) (by intro k hk; simp at hk; rcases hk with rfl | rfl | rfl <;> first | exact weightS_le h1 | exact weightS_le h2 | exact weightS_le h3)
    simpa [Nat.add_assoc] using this

set_option maxRecDepth 100000 in
set_option maxHeartbeats 1000000 in
theorem Weight_any {w : World} {hi : Nat} {t : Tw.T} {tv : Value} {k : Nat} (hr : Rep w 0 hi t tv) (hf : Tw.weightS t .nil = some k) : Calls Tryz.prog 49 #[tv] w (WPost w k) := by
  have HR := hide hr
  have HF := hide hf
  obtain ⟨T0, n0, rfl⟩ := hr.iface
  clear hr hf
  go_enter Tryz.func49, Tryz.ntmps49
  go_wp2_with fail
  refine (weight_all t (unhide HR) (show WAt w .nil (.pointer none) from rfl) (unhide HF)).mono ?_
  rintro e1 w1 ⟨rfl, hg⟩
  have X := hide hg
  clear hg
  go_wp2_with fail
  go_ret
  exact ⟨rfl, unhide X⟩

end Go.Proofs.YtckhafpejefbbaaGreatDoor

/- Which binder a name has, as a plain function. -/
namespace Go.Proofs.YtckhafpejefbbaaGreatDoor.Tw
open Go

inductive BEn where
  | nil
  | cons (name : List UInt8) (k : Addr) (o : BEn)

def BEn.look : BEn → List UInt8 → Option Addr
  | .nil, _ => none
  | .cons n k o, x => if n = x then some k else o.look x

def BEn.size : BEn → Nat
  | .nil => 0
  | .cons _ _ o => o.size + 1

end Go.Proofs.YtckhafpejefbbaaGreatDoor.Tw

/- Package scope at *tree.Binder. -/
namespace Go.Proofs.YtckhafpejefbbaaGreatDoor
open Go.RowKit

def BAt (w : World) : Tw.BEn → Value → Prop
  | .nil, v => v = .pointer none
  | .cons n k o, v => ∃ b vo, v = .pointer (some ⟨b, 0, none⟩) ∧ w.heap[b]? = some (.cells #[bytesV n, .pointer (some k), vo] 302 (0, 0)) ∧ BAt w o vo

theorem BAt.grown {w w' : World} (hk : w.grownBy w' none) : ∀ {e : Tw.BEn} {v : Value}, BAt w e v → BAt w' e v
  | .nil, _, h => h
  | .cons .., _, ⟨b, vo, hv, hb, ho⟩ => ⟨b, vo, hv, (hk.block b (Array.getElem?_eq_some_iff.1 hb).1 (by simp)).trans hb, BAt.grown hk ho⟩

theorem BAt.ptr {w : World} {e : Tw.BEn} {v : Value} (h : BAt w e v) : ∃ a, v = .pointer a := by
  cases e with
  | nil => exact ⟨none, h⟩
  | cons => obtain ⟨b, _, hv, _⟩ := h; exact ⟨_, hv⟩

set_option maxRecDepth 100000 in
set_option maxHeartbeats 1000000 in
theorem withB_any {w : World} {e : Tw.BEn} {v : Value} (he : BAt w e v) (n : List UInt8) (k : Addr) :
    Calls Tryz.prog 161 #[v, bytesV n, .pointer (some k)] w fun r w' => ∃ a, r = .returned (.pointer a) ∧ w.grownBy w' none ∧ BAt w' (.cons n k e) (.pointer a) := by
  have HE : Hid (BAt w e v) := he
  obtain ⟨a, rfl⟩ := he.ptr
  clear he
  go_enter Tryz.func161, Tryz.ntmps161
  go_wp2_with fail
  go_ret
  exact ⟨_, rfl, World.grownBy_alloc _ _ none, _, _, rfl, new_block w _, HE.out.grown (World.grownBy_alloc _ _ none)⟩

set_option maxRecDepth 100000 in
set_option maxHeartbeats 2000000 in
theorem findB_any {w : World} {e : Tw.BEn} {v : Value} (he : BAt w e v) (x : List UInt8) {k : Addr} (hm : e.look x = some k) :
    Calls Tryz.prog 86 #[v, bytesV x] w fun r w' => r = .returned (.tuple #[.pointer (some k), .bool true]) ∧ w = w' := by
  have HE : Hid (BAt w e v) := he
  have HM : Hid (e.look x = some k) := hm
  clear he hm
  go_enter Tryz.func86, Tryz.ntmps86
  go_wp2_with fail
  go_loopg [0] e.size (fun j pv wr => wr = w ∧ ∃ ek : Tw.BEn, j = ek.size ∧ Hid (BAt w ek pv) ∧ Hid (ek.look x = some k))
  case atStart => exact ⟨rfl, e, rfl, HE, HM⟩
  case round =>
    obtain ⟨hw, ek, hks, HK, HL⟩ := hrel
    subst hw
    cases ek with
    | nil => have := HL.out; simp [Tw.BEn.look] at this
    | cons n r o =>
      obtain ⟨b, vo, hv, hb, ho⟩ := HK.out
      obtain ⟨a, rfl⟩ := ho.ptr
      subst hv
      obtain ⟨c0, c1, c2, _⟩ := three_cells hb
      have HO : Hid (BAt wr o (.pointer a)) := ho
      have hl := HL.out
      simp only [Tw.BEn.look] at hl
      clear HK HL hb ho HE HM
      by_cases hn : n = x
      · rw [if_pos hn] at hl
        simp only [Option.some.injEq] at hl
        subst hl
        have be : (n == x) = true := by simp [hn]
        clear hn
        go_wp2_with fail
        go_ret2
        exact ⟨rfl, rfl⟩
      · rw [if_neg hn] at hl
        have be : (n == x) = false := by simp [hn]
        have HL : Hid (o.look x = some k) := hl
        clear hn hl
        go_wp2_with fail
        go_roundg o.size
        case measure => simp [Tw.BEn.size] at hks; omega
        case rel => exact ⟨rfl, o, rfl, HO, HL⟩

set_option maxRecDepth 100000 in
set_option maxHeartbeats 2000000 in
theorem findB_none {w : World} {e : Tw.BEn} {v : Value} (he : BAt w e v) (x : List UInt8) (hm : e.look x = none) :
    Calls Tryz.prog 86 #[v, bytesV x] w fun r w' => r = .returned (.tuple #[.pointer none, .bool false]) ∧ w = w' := by
  have HE : Hid (BAt w e v) := he
  have HM : Hid (e.look x = none) := hm
  clear he hm
  go_enter Tryz.func86, Tryz.ntmps86
  go_wp2_with fail
  go_loopg [0] e.size (fun j pv wr => wr = w ∧ ∃ ek : Tw.BEn, j = ek.size ∧ Hid (BAt w ek pv) ∧ Hid (ek.look x = none))
  case atStart => exact ⟨rfl, e, rfl, HE, HM⟩
  case round =>
    obtain ⟨hw, ek, hks, HK, HL⟩ := hrel
    subst hw
    cases ek with
    | nil =>
      have hv : _ = Value.pointer none := HK.out
      subst hv
      clear HK HL HE HM
      go_wp2_with fail
      go_ret2
      exact ⟨rfl, rfl⟩
    | cons n r o =>
      obtain ⟨b, vo, hv, hb, ho⟩ := HK.out
      obtain ⟨a, rfl⟩ := ho.ptr
      subst hv
      obtain ⟨c0, c1, c2, _⟩ := three_cells hb
      have HO : Hid (BAt wr o (.pointer a)) := ho
      have hl := HL.out
      simp only [Tw.BEn.look] at hl
      clear HK HL hb ho HE HM
      by_cases hn : n = x
      · rw [if_pos hn] at hl
        cases hl
      · rw [if_neg hn] at hl
        have be : (n == x) = false := by simp [hn]
        have HL : Hid (o.look x = none) := hl
        clear hn hl
        go_wp2_with fail
        go_roundg o.size
        case measure => simp [Tw.BEn.size] at hks; omega
        case rel => exact ⟨rfl, o, rfl, HO, HL⟩

end Go.Proofs.YtckhafpejefbbaaGreatDoor
