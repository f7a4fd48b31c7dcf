/- Texts of the proof, put together: Infer4, Infer5, Infer6, Infer7, EndlessTw, Endless, Endless2, Endless3, WeightTw, TyThy, TyThy2, TyThy3, TyThy4, TyThy5, TyThy6, Weight, Parts, Weight2. -/
import Derived.Test.YtckhafpejefbbaaGreatDoorB09
import Derived.Test.YtckhafpejefbbaaGreatDoorB04
import Derived.Deep.LoopGhost

/- Package types: binary. -/
namespace Go.Proofs.YtckhafpejefbbaaGreatDoor
open Go.RowKit

set_option maxRecDepth 100000 in
set_option maxHeartbeats 2000000 in
theorem binary_less {n : Nat} (hI : InferSaid n) {w : World} {bs hi b : Nat} {st st' : Tw.SS} {e : Tw.En} {ev : Value} {l : Tw.T} {q : Tw.T} {v1 : Value} {v2 : Value} {sg : Int} (b23 : (sg == 23) = true) {fr to r : Nat} (h : Sol w bs st)
    (hb : w.heap[b]? = some (.cells #[.int .i64 fr, .int .i64 to, .int .i64 sg, v1, v2] 322 (0, 0))) (r0 : Rep w 0 hi l v1) (r1 : Rep w 0 hi q v2) (he : EnvAt w hi e ev) (hf : Tw.inferS (n + 1) (.binary fr to sg l q) e st = some (r, st')) :
    Calls Tryz.prog 101 #[.pointer (some ⟨bs, 0, none⟩), .pointer (some ⟨b, 0, none⟩), ev] w (IPost bs w r st') := by
  rw [Tw.inferS] at hf
  obtain ⟨⟨x1, st1⟩, h1, hf1⟩ := Option.bind_eq_some_iff.1 hf
  obtain ⟨st2, h2, hf2⟩ := Option.bind_eq_some_iff.1 hf1
  obtain ⟨⟨x3, st3⟩, h3, hf3⟩ := Option.bind_eq_some_iff.1 hf2
  obtain ⟨st4, h4, hf4⟩ := Option.bind_eq_some_iff.1 hf3
  simp only at h2 h3 h4
  simp only [Option.some.injEq, Prod.mk.injEq] at hf4
  obtain ⟨hr, rfl⟩ := hf4
  have HR := hide hr
  clear hr
  have S0 : Hid (Sol w bs st) := h
  have E0 : Hid (EnvAt w hi e ev) := he
  have B0 : Hid (w.heap[b]? = some (.cells #[.int .i64 fr, .int .i64 to, .int .i64 sg, v1, v2] 322 (0, 0))) := hb
  have R0l : Hid (Rep w 0 hi l v1) := r0
  have R0q : Hid (Rep w 0 hi q v2) := r1
  have H1 := hide h1
  have H2 := hide h2
  have H3 := hide h3
  have H4 := hide h4
  obtain ⟨T0, n0, rfl⟩ := r0.iface
  obtain ⟨T1, n1, rfl⟩ := r1.iface
  obtain ⟨ea, rfl⟩ := he.ptr
  have K0 : Hid (SK bs w w) := SK.refl _ _
  have c0 : w.cell? ⟨b, 3, none⟩ = some (.iface T0 (.pointer (some ⟨n0, 0, none⟩))) := by rw [cell_of_row _ _ _ _ _ _ B0.out]; rfl
  have c1 : w.cell? ⟨b, 4, none⟩ = some (.iface T1 (.pointer (some ⟨n1, 0, none⟩))) := by rw [cell_of_row _ _ _ _ _ _ B0.out]; rfl
  have c9 : w.cell? ⟨b, 2, none⟩ = some (.int .i64 sg) := by rw [cell_of_row _ _ _ _ _ _ B0.out]; rfl
  clear h he hb r0 r1 hf h1 h2 h3 h4 hf1 hf2 hf3
  go_enter Tryz.func101, Tryz.ntmps101
  go_wp2_with fail
  refine (hI S0.out R0l.out E0.out (unhide H1)).mono ?_
  rintro e1 w1 ⟨rfl, hk, hs⟩
  have S1 : Hid (Sol w1 bs st1) := hs
  have K1 : Hid (SK bs w w1) := K0.out.trans hk
  have E1 : Hid (EnvAt w1 hi e (.pointer ea)) := EnvAt.sk S0.out hk E0.out
  have B1 := hide (blk_sk S0.out hk B0.out rfl (by decide))
  have R1l := hide (Rep.sk S0.out hk R0l.out)
  have R1q := hide (Rep.sk S0.out hk R0q.out)
  clear c0 c1 c9
  have c0 : w1.cell? ⟨b, 3, none⟩ = some (.iface T0 (.pointer (some ⟨n0, 0, none⟩))) := by rw [cell_of_row _ _ _ _ _ _ B1.out]; rfl
  have c1 : w1.cell? ⟨b, 4, none⟩ = some (.iface T1 (.pointer (some ⟨n1, 0, none⟩))) := by rw [cell_of_row _ _ _ _ _ _ B1.out]; rfl
  have c9 : w1.cell? ⟨b, 2, none⟩ = some (.int .i64 sg) := by rw [cell_of_row _ _ _ _ _ _ B1.out]; rfl
  clear hk hs
  go_wp2_with fail
  refine (unify_sol S1.out (unhide H2)).mono ?_
  rintro e1 w2 ⟨rfl, hk, hs⟩
  have S2 : Hid (Sol w2 bs st2) := hs
  have K2 : Hid (SK bs w w2) := K1.out.trans hk
  have E2 : Hid (EnvAt w2 hi e (.pointer ea)) := EnvAt.sk S1.out hk E1.out
  have B2 := hide (blk_sk S1.out hk B1.out rfl (by decide))
  have R2l := hide (Rep.sk S1.out hk R1l.out)
  have R2q := hide (Rep.sk S1.out hk R1q.out)
  clear c0 c1 c9
  have c0 : w2.cell? ⟨b, 3, none⟩ = some (.iface T0 (.pointer (some ⟨n0, 0, none⟩))) := by rw [cell_of_row _ _ _ _ _ _ B2.out]; rfl
  have c1 : w2.cell? ⟨b, 4, none⟩ = some (.iface T1 (.pointer (some ⟨n1, 0, none⟩))) := by rw [cell_of_row _ _ _ _ _ _ B2.out]; rfl
  have c9 : w2.cell? ⟨b, 2, none⟩ = some (.int .i64 sg) := by rw [cell_of_row _ _ _ _ _ _ B2.out]; rfl
  clear hk hs
  go_wp2_with fail
  refine (hI S2.out R2q.out E2.out (unhide H3)).mono ?_
  rintro e1 w3 ⟨rfl, hk, hs⟩
  have S3 : Hid (Sol w3 bs st3) := hs
  have K3 : Hid (SK bs w w3) := K2.out.trans hk
  have E3 : Hid (EnvAt w3 hi e (.pointer ea)) := EnvAt.sk S2.out hk E2.out
  have B3 := hide (blk_sk S2.out hk B2.out rfl (by decide))
  have R3l := hide (Rep.sk S2.out hk R2l.out)
  have R3q := hide (Rep.sk S2.out hk R2q.out)
  clear c0 c1 c9
  have c0 : w3.cell? ⟨b, 3, none⟩ = some (.iface T0 (.pointer (some ⟨n0, 0, none⟩))) := by rw [cell_of_row _ _ _ _ _ _ B3.out]; rfl
  have c1 : w3.cell? ⟨b, 4, none⟩ = some (.iface T1 (.pointer (some ⟨n1, 0, none⟩))) := by rw [cell_of_row _ _ _ _ _ _ B3.out]; rfl
  have c9 : w3.cell? ⟨b, 2, none⟩ = some (.int .i64 sg) := by rw [cell_of_row _ _ _ _ _ _ B3.out]; rfl
  clear hk hs
  go_wp2_with fail
  refine (unify_sol S3.out (unhide H4)).mono ?_
  rintro e1 w4 ⟨rfl, hk, hs⟩
  have S4 : Hid (Sol w4 bs st4) := hs
  have K4 : Hid (SK bs w w4) := K3.out.trans hk
  have E4 : Hid (EnvAt w4 hi e (.pointer ea)) := EnvAt.sk S3.out hk E3.out
  have B4 := hide (blk_sk S3.out hk B3.out rfl (by decide))
  have R4l := hide (Rep.sk S3.out hk R3l.out)
  have R4q := hide (Rep.sk S3.out hk R3q.out)
  clear c0 c1 c9
  have c0 : w4.cell? ⟨b, 3, none⟩ = some (.iface T0 (.pointer (some ⟨n0, 0, none⟩))) := by rw [cell_of_row _ _ _ _ _ _ B4.out]; rfl
  have c1 : w4.cell? ⟨b, 4, none⟩ = some (.iface T1 (.pointer (some ⟨n1, 0, none⟩))) := by rw [cell_of_row _ _ _ _ _ _ B4.out]; rfl
  have c9 : w4.cell? ⟨b, 2, none⟩ = some (.int .i64 sg) := by rw [cell_of_row _ _ _ _ _ _ B4.out]; rfl
  clear hk hs
  go_wp2_with fail
  go_ret
  exact ⟨ret_int (by have := b23; simp at this; have hr := unhide HR; rw [if_pos (.inl this)] at hr; rw [← hr]; rfl), K4.out, S4.out⟩

set_option maxRecDepth 100000 in
set_option maxHeartbeats 2000000 in
theorem binary_equal {n : Nat} (hI : InferSaid n) {w : World} {bs hi b : Nat} {st st' : Tw.SS} {e : Tw.En} {ev : Value} {l : Tw.T} {q : Tw.T} {v1 : Value} {v2 : Value} {sg : Int} (b23 : (sg == 23) = false) (b15 : (sg == 15) = true) {fr to r : Nat} (h : Sol w bs st)
    (hb : w.heap[b]? = some (.cells #[.int .i64 fr, .int .i64 to, .int .i64 sg, v1, v2] 322 (0, 0))) (r0 : Rep w 0 hi l v1) (r1 : Rep w 0 hi q v2) (he : EnvAt w hi e ev) (hf : Tw.inferS (n + 1) (.binary fr to sg l q) e st = some (r, st')) :
    Calls Tryz.prog 101 #[.pointer (some ⟨bs, 0, none⟩), .pointer (some ⟨b, 0, none⟩), ev] w (IPost bs w r st') := by
  rw [Tw.inferS] at hf
  obtain ⟨⟨x1, st1⟩, h1, hf1⟩ := Option.bind_eq_some_iff.1 hf
  obtain ⟨st2, h2, hf2⟩ := Option.bind_eq_some_iff.1 hf1
  obtain ⟨⟨x3, st3⟩, h3, hf3⟩ := Option.bind_eq_some_iff.1 hf2
  obtain ⟨st4, h4, hf4⟩ := Option.bind_eq_some_iff.1 hf3
  simp only at h2 h3 h4
  simp only [Option.some.injEq, Prod.mk.injEq] at hf4
  obtain ⟨hr, rfl⟩ := hf4
  have HR := hide hr
  clear hr
  have S0 : Hid (Sol w bs st) := h
  have E0 : Hid (EnvAt w hi e ev) := he
  have B0 : Hid (w.heap[b]? = some (.cells #[.int .i64 fr, .int .i64 to, .int .i64 sg, v1, v2] 322 (0, 0))) := hb
  have R0l : Hid (Rep w 0 hi l v1) := r0
  have R0q : Hid (Rep w 0 hi q v2) := r1
  have H1 := hide h1
  have H2 := hide h2
  have H3 := hide h3
  have H4 := hide h4
  obtain ⟨T0, n0, rfl⟩ := r0.iface
  obtain ⟨T1, n1, rfl⟩ := r1.iface
  obtain ⟨ea, rfl⟩ := he.ptr
  have K0 : Hid (SK bs w w) := SK.refl _ _
  have c0 : w.cell? ⟨b, 3, none⟩ = some (.iface T0 (.pointer (some ⟨n0, 0, none⟩))) := by rw [cell_of_row _ _ _ _ _ _ B0.out]; rfl
  have c1 : w.cell? ⟨b, 4, none⟩ = some (.iface T1 (.pointer (some ⟨n1, 0, none⟩))) := by rw [cell_of_row _ _ _ _ _ _ B0.out]; rfl
  have c9 : w.cell? ⟨b, 2, none⟩ = some (.int .i64 sg) := by rw [cell_of_row _ _ _ _ _ _ B0.out]; rfl
  clear h he hb r0 r1 hf h1 h2 h3 h4 hf1 hf2 hf3
  go_enter Tryz.func101, Tryz.ntmps101
  go_wp2_with fail
  refine (hI S0.out R0l.out E0.out (unhide H1)).mono ?_
  rintro e1 w1 ⟨rfl, hk, hs⟩
  have S1 : Hid (Sol w1 bs st1) := hs
  have K1 : Hid (SK bs w w1) := K0.out.trans hk
  have E1 : Hid (EnvAt w1 hi e (.pointer ea)) := EnvAt.sk S0.out hk E0.out
  have B1 := hide (blk_sk S0.out hk B0.out rfl (by decide))
  have R1l := hide (Rep.sk S0.out hk R0l.out)
  have R1q := hide (Rep.sk S0.out hk R0q.out)
  clear c0 c1 c9
  have c0 : w1.cell? ⟨b, 3, none⟩ = some (.iface T0 (.pointer (some ⟨n0, 0, none⟩))) := by rw [cell_of_row _ _ _ _ _ _ B1.out]; rfl
  have c1 : w1.cell? ⟨b, 4, none⟩ = some (.iface T1 (.pointer (some ⟨n1, 0, none⟩))) := by rw [cell_of_row _ _ _ _ _ _ B1.out]; rfl
  have c9 : w1.cell? ⟨b, 2, none⟩ = some (.int .i64 sg) := by rw [cell_of_row _ _ _ _ _ _ B1.out]; rfl
  clear hk hs
  go_wp2_with fail
  refine (unify_sol S1.out (unhide H2)).mono ?_
  rintro e1 w2 ⟨rfl, hk, hs⟩
  have S2 : Hid (Sol w2 bs st2) := hs
  have K2 : Hid (SK bs w w2) := K1.out.trans hk
  have E2 : Hid (EnvAt w2 hi e (.pointer ea)) := EnvAt.sk S1.out hk E1.out
  have B2 := hide (blk_sk S1.out hk B1.out rfl (by decide))
  have R2l := hide (Rep.sk S1.out hk R1l.out)
  have R2q := hide (Rep.sk S1.out hk R1q.out)
  clear c0 c1 c9
  have c0 : w2.cell? ⟨b, 3, none⟩ = some (.iface T0 (.pointer (some ⟨n0, 0, none⟩))) := by rw [cell_of_row _ _ _ _ _ _ B2.out]; rfl
  have c1 : w2.cell? ⟨b, 4, none⟩ = some (.iface T1 (.pointer (some ⟨n1, 0, none⟩))) := by rw [cell_of_row _ _ _ _ _ _ B2.out]; rfl
  have c9 : w2.cell? ⟨b, 2, none⟩ = some (.int .i64 sg) := by rw [cell_of_row _ _ _ _ _ _ B2.out]; rfl
  clear hk hs
  go_wp2_with fail
  refine (hI S2.out R2q.out E2.out (unhide H3)).mono ?_
  rintro e1 w3 ⟨rfl, hk, hs⟩
  have S3 : Hid (Sol w3 bs st3) := hs
  have K3 : Hid (SK bs w w3) := K2.out.trans hk
  have E3 : Hid (EnvAt w3 hi e (.pointer ea)) := EnvAt.sk S2.out hk E2.out
  have B3 := hide (blk_sk S2.out hk B2.out rfl (by decide))
  have R3l := hide (Rep.sk S2.out hk R2l.out)
  have R3q := hide (Rep.sk S2.out hk R2q.out)
  clear c0 c1 c9
  have c0 : w3.cell? ⟨b, 3, none⟩ = some (.iface T0 (.pointer (some ⟨n0, 0, none⟩))) := by rw [cell_of_row _ _ _ _ _ _ B3.out]; rfl
  have c1 : w3.cell? ⟨b, 4, none⟩ = some (.iface T1 (.pointer (some ⟨n1, 0, none⟩))) := by rw [cell_of_row _ _ _ _ _ _ B3.out]; rfl
  have c9 : w3.cell? ⟨b, 2, none⟩ = some (.int .i64 sg) := by rw [cell_of_row _ _ _ _ _ _ B3.out]; rfl
  clear hk hs
  go_wp2_with fail
  refine (unify_sol S3.out (unhide H4)).mono ?_
  rintro e1 w4 ⟨rfl, hk, hs⟩
  have S4 : Hid (Sol w4 bs st4) := hs
  have K4 : Hid (SK bs w w4) := K3.out.trans hk
  have E4 : Hid (EnvAt w4 hi e (.pointer ea)) := EnvAt.sk S3.out hk E3.out
  have B4 := hide (blk_sk S3.out hk B3.out rfl (by decide))
  have R4l := hide (Rep.sk S3.out hk R3l.out)
  have R4q := hide (Rep.sk S3.out hk R3q.out)
  clear c0 c1 c9
  have c0 : w4.cell? ⟨b, 3, none⟩ = some (.iface T0 (.pointer (some ⟨n0, 0, none⟩))) := by rw [cell_of_row _ _ _ _ _ _ B4.out]; rfl
  have c1 : w4.cell? ⟨b, 4, none⟩ = some (.iface T1 (.pointer (some ⟨n1, 0, none⟩))) := by rw [cell_of_row _ _ _ _ _ _ B4.out]; rfl
  have c9 : w4.cell? ⟨b, 2, none⟩ = some (.int .i64 sg) := by rw [cell_of_row _ _ _ _ _ _ B4.out]; rfl
  clear hk hs
  go_wp2_with fail
  go_ret
  exact ⟨ret_int (by have := b15; simp at this; have hr := unhide HR; rw [if_pos (.inr this)] at hr; rw [← hr]; rfl), K4.out, S4.out⟩

set_option maxRecDepth 100000 in
set_option maxHeartbeats 2000000 in
theorem binary_int {n : Nat} (hI : InferSaid n) {w : World} {bs hi b : Nat} {st st' : Tw.SS} {e : Tw.En} {ev : Value} {l : Tw.T} {q : Tw.T} {v1 : Value} {v2 : Value} {sg : Int} (b23 : (sg == 23) = false) (b15 : (sg == 15) = false) {fr to r : Nat} (h : Sol w bs st)
    (hb : w.heap[b]? = some (.cells #[.int .i64 fr, .int .i64 to, .int .i64 sg, v1, v2] 322 (0, 0))) (r0 : Rep w 0 hi l v1) (r1 : Rep w 0 hi q v2) (he : EnvAt w hi e ev) (hf : Tw.inferS (n + 1) (.binary fr to sg l q) e st = some (r, st')) :
    Calls Tryz.prog 101 #[.pointer (some ⟨bs, 0, none⟩), .pointer (some ⟨b, 0, none⟩), ev] w (IPost bs w r st') := by
  rw [Tw.inferS] at hf
  obtain ⟨⟨x1, st1⟩, h1, hf1⟩ := Option.bind_eq_some_iff.1 hf
  obtain ⟨st2, h2, hf2⟩ := Option.bind_eq_some_iff.1 hf1
  obtain ⟨⟨x3, st3⟩, h3, hf3⟩ := Option.bind_eq_some_iff.1 hf2
  obtain ⟨st4, h4, hf4⟩ := Option.bind_eq_some_iff.1 hf3
  simp only at h2 h3 h4
  simp only [Option.some.injEq, Prod.mk.injEq] at hf4
  obtain ⟨hr, rfl⟩ := hf4
  have HR := hide hr
  clear hr
  have S0 : Hid (Sol w bs st) := h
  have E0 : Hid (EnvAt w hi e ev) := he
  have B0 : Hid (w.heap[b]? = some (.cells #[.int .i64 fr, .int .i64 to, .int .i64 sg, v1, v2] 322 (0, 0))) := hb
  have R0l : Hid (Rep w 0 hi l v1) := r0
  have R0q : Hid (Rep w 0 hi q v2) := r1
  have H1 := hide h1
  have H2 := hide h2
  have H3 := hide h3
  have H4 := hide h4
  obtain ⟨T0, n0, rfl⟩ := r0.iface
  obtain ⟨T1, n1, rfl⟩ := r1.iface
  obtain ⟨ea, rfl⟩ := he.ptr
  have K0 : Hid (SK bs w w) := SK.refl _ _
  have c0 : w.cell? ⟨b, 3, none⟩ = some (.iface T0 (.pointer (some ⟨n0, 0, none⟩))) := by rw [cell_of_row _ _ _ _ _ _ B0.out]; rfl
  have c1 : w.cell? ⟨b, 4, none⟩ = some (.iface T1 (.pointer (some ⟨n1, 0, none⟩))) := by rw [cell_of_row _ _ _ _ _ _ B0.out]; rfl
  have c9 : w.cell? ⟨b, 2, none⟩ = some (.int .i64 sg) := by rw [cell_of_row _ _ _ _ _ _ B0.out]; rfl
  clear h he hb r0 r1 hf h1 h2 h3 h4 hf1 hf2 hf3
  go_enter Tryz.func101, Tryz.ntmps101
  go_wp2_with fail
  refine (hI S0.out R0l.out E0.out (unhide H1)).mono ?_
  rintro e1 w1 ⟨rfl, hk, hs⟩
  have S1 : Hid (Sol w1 bs st1) := hs
  have K1 : Hid (SK bs w w1) := K0.out.trans hk
  have E1 : Hid (EnvAt w1 hi e (.pointer ea)) := EnvAt.sk S0.out hk E0.out
  have B1 := hide (blk_sk S0.out hk B0.out rfl (by decide))
  have R1l := hide (Rep.sk S0.out hk R0l.out)
  have R1q := hide (Rep.sk S0.out hk R0q.out)
  clear c0 c1 c9
  have c0 : w1.cell? ⟨b, 3, none⟩ = some (.iface T0 (.pointer (some ⟨n0, 0, none⟩))) := by rw [cell_of_row _ _ _ _ _ _ B1.out]; rfl
  have c1 : w1.cell? ⟨b, 4, none⟩ = some (.iface T1 (.pointer (some ⟨n1, 0, none⟩))) := by rw [cell_of_row _ _ _ _ _ _ B1.out]; rfl
  have c9 : w1.cell? ⟨b, 2, none⟩ = some (.int .i64 sg) := by rw [cell_of_row _ _ _ _ _ _ B1.out]; rfl
  clear hk hs
  go_wp2_with fail
  refine (unify_sol S1.out (unhide H2)).mono ?_
  rintro e1 w2 ⟨rfl, hk, hs⟩
  have S2 : Hid (Sol w2 bs st2) := hs
  have K2 : Hid (SK bs w w2) := K1.out.trans hk
  have E2 : Hid (EnvAt w2 hi e (.pointer ea)) := EnvAt.sk S1.out hk E1.out
  have B2 := hide (blk_sk S1.out hk B1.out rfl (by decide))
  have R2l := hide (Rep.sk S1.out hk R1l.out)
  have R2q := hide (Rep.sk S1.out hk R1q.out)
  clear c0 c1 c9
  have c0 : w2.cell? ⟨b, 3, none⟩ = some (.iface T0 (.pointer (some ⟨n0, 0, none⟩))) := by rw [cell_of_row _ _ _ _ _ _ B2.out]; rfl
  have c1 : w2.cell? ⟨b, 4, none⟩ = some (.iface T1 (.pointer (some ⟨n1, 0, none⟩))) := by rw [cell_of_row _ _ _ _ _ _ B2.out]; rfl
  have c9 : w2.cell? ⟨b, 2, none⟩ = some (.int .i64 sg) := by rw [cell_of_row _ _ _ _ _ _ B2.out]; rfl
  clear hk hs
  go_wp2_with fail
  refine (hI S2.out R2q.out E2.out (unhide H3)).mono ?_
  rintro e1 w3 ⟨rfl, hk, hs⟩
  have S3 : Hid (Sol w3 bs st3) := hs
  have K3 : Hid (SK bs w w3) := K2.out.trans hk
  have E3 : Hid (EnvAt w3 hi e (.pointer ea)) := EnvAt.sk S2.out hk E2.out
  have B3 := hide (blk_sk S2.out hk B2.out rfl (by decide))
  have R3l := hide (Rep.sk S2.out hk R2l.out)
  have R3q := hide (Rep.sk S2.out hk R2q.out)
  clear c0 c1 c9
  have c0 : w3.cell? ⟨b, 3, none⟩ = some (.iface T0 (.pointer (some ⟨n0, 0, none⟩))) := by rw [cell_of_row _ _ _ _ _ _ B3.out]; rfl
  have c1 : w3.cell? ⟨b, 4, none⟩ = some (.iface T1 (.pointer (some ⟨n1, 0, none⟩))) := by rw [cell_of_row _ _ _ _ _ _ B3.out]; rfl
  have c9 : w3.cell? ⟨b, 2, none⟩ = some (.int .i64 sg) := by rw [cell_of_row _ _ _ _ _ _ B3.out]; rfl
  clear hk hs
  go_wp2_with fail
  refine (unify_sol S3.out (unhide H4)).mono ?_
  rintro e1 w4 ⟨rfl, hk, hs⟩
  have S4 : Hid (Sol w4 bs st4) := hs
  have K4 : Hid (SK bs w w4) := K3.out.trans hk
  have E4 : Hid (EnvAt w4 hi e (.pointer ea)) := EnvAt.sk S3.out hk E3.out
  have B4 := hide (blk_sk S3.out hk B3.out rfl (by decide))
  have R4l := hide (Rep.sk S3.out hk R3l.out)
  have R4q := hide (Rep.sk S3.out hk R3q.out)
  clear c0 c1 c9
  have c0 : w4.cell? ⟨b, 3, none⟩ = some (.iface T0 (.pointer (some ⟨n0, 0, none⟩))) := by rw [cell_of_row _ _ _ _ _ _ B4.out]; rfl
  have c1 : w4.cell? ⟨b, 4, none⟩ = some (.iface T1 (.pointer (some ⟨n1, 0, none⟩))) := by rw [cell_of_row _ _ _ _ _ _ B4.out]; rfl
  have c9 : w4.cell? ⟨b, 2, none⟩ = some (.int .i64 sg) := by rw [cell_of_row _ _ _ _ _ _ B4.out]; rfl
  clear hk hs
  go_wp2_with fail
  go_ret
  exact ⟨ret_int (by have h1 := b23; have h2 := b15; simp at h1 h2; have hr := unhide HR; rw [if_neg (fun o => o.elim h1 h2)] at hr; rw [← hr]; rfl), K4.out, S4.out⟩

end Go.Proofs.YtckhafpejefbbaaGreatDoor

/- Package types: infer at brackets and pairs, at fun. -/
namespace Go.Proofs.YtckhafpejefbbaaGreatDoor
open Go.RowKit

set_option maxRecDepth 100000 in
set_option maxHeartbeats 4000000 in
theorem infer_Bracket {n : Nat} (hI : InferSaid n) {w : World} {bs hi b : Nat} {st st' : Tw.SS} {e : Tw.En} {ev : Value} {i : Tw.T} {v1 : Value} {fr to r : Nat} (h : Sol w bs st)
    (hb : w.heap[b]? = some (.cells #[.int .i64 fr, .int .i64 to, v1] 206 (0, 0))) (r0 : Rep w 0 hi i v1) (he : EnvAt w hi e ev) (hf : Tw.inferS (n + 1) (.bracket fr to i) e st = some (r, st')) :
    Calls Tryz.prog 53 #[.pointer (some ⟨bs, 0, none⟩), .iface 204 (.pointer (some ⟨b, 0, none⟩)), ev] w (IPost bs w r st') := by
  rw [Tw.inferS] at hf
  have S0 : Hid (Sol w bs st) := h
  have E0 : Hid (EnvAt w hi e ev) := he
  have R0 : Hid (Rep w 0 hi i v1) := r0
  have H1 := hide hf
  obtain ⟨T0, n0, rfl⟩ := r0.iface
  obtain ⟨ea, rfl⟩ := he.ptr
  obtain ⟨_, _, c2, _⟩ := three_cells hb
  have q0 := ta_Bracket_Name
  have q1 := ta_Bracket_Truth
  have q2 := ta_Bracket_Side
  have q3 := ta_Bracket_Bracket
  have q4 := ta_Bracket_Pair
  have q5 := ta_Bracket_Call
  have q6 := ta_Bracket_Binary
  have q7 := ta_Bracket_If
  have q8 := ta_Bracket_Fun
  have q9 := ta_Bracket_Let
  clear h he hb r0 hf
  go_enter Tryz.func53, Tryz.ntmps53
  go_wp2_with fail
  refine (hI S0.out R0.out E0.out (unhide H1)).mono ?_
  rintro e1 w1 ⟨rfl, hk, hs⟩
  have X : Hid (SK bs w w1 ∧ Sol w1 bs st') := ⟨hk, hs⟩
  clear hk hs
  go_wp2_with fail
  go_ret
  exact ⟨rfl, X.out⟩

set_option maxRecDepth 100000 in
set_option maxHeartbeats 4000000 in
theorem infer_Pair {n : Nat} (hI : InferSaid n) {w : World} {bs hi b : Nat} {st st' : Tw.SS} {e : Tw.En} {ev : Value} {l q : Tw.T} {v1 v2 : Value} {fr to r : Nat} (h : Sol w bs st)
    (hb : w.heap[b]? = some (.cells #[.int .i64 fr, .int .i64 to, v1, v2] 229 (0, 0))) (r0 : Rep w 0 hi l v1) (r1 : Rep w 0 hi q v2) (he : EnvAt w hi e ev) (hf : Tw.inferS (n + 1) (.pair fr to l q) e st = some (r, st')) :
    Calls Tryz.prog 53 #[.pointer (some ⟨bs, 0, none⟩), .iface 207 (.pointer (some ⟨b, 0, none⟩)), ev] w (IPost bs w r st') := by
  rw [Tw.inferS] at hf
  obtain ⟨⟨x1, st1⟩, h1, hf1⟩ := Option.bind_eq_some_iff.1 hf
  obtain ⟨⟨x2, st2⟩, h2, h3⟩ := Option.bind_eq_some_iff.1 hf1
  simp only at h2 h3
  have S0 : Hid (Sol w bs st) := h
  have E0 : Hid (EnvAt w hi e ev) := he
  have B0 : Hid (w.heap[b]? = some (.cells #[.int .i64 fr, .int .i64 to, v1, v2] 229 (0, 0))) := hb
  have R0 : Hid (Rep w 0 hi l v1) := r0
  have Q0 : Hid (Rep w 0 hi q v2) := r1
  have H1 := hide h1
  have H2 := hide h2
  have H3 := hide h3
  obtain ⟨T0, n0, rfl⟩ := r0.iface
  obtain ⟨T1, n1, rfl⟩ := r1.iface
  obtain ⟨ea, rfl⟩ := he.ptr
  obtain ⟨_, _, c2, c3⟩ := four_cells hb
  have q0 := ta_Pair_Name
  have q1 := ta_Pair_Truth
  have q2 := ta_Pair_Side
  have q3 := ta_Pair_Bracket
  have q4 := ta_Pair_Pair
  have q5 := ta_Pair_Call
  have q6 := ta_Pair_Binary
  have q7 := ta_Pair_If
  have q8 := ta_Pair_Fun
  have q9 := ta_Pair_Let
  clear h he hb r0 r1 hf hf1 h1 h2 h3
  go_enter Tryz.func53, Tryz.ntmps53
  go_wp2_with fail
  refine (hI S0.out R0.out E0.out (unhide H1)).mono ?_
  rintro e1 w1 ⟨rfl, hk, hs⟩
  have S1 : Hid (Sol w1 bs st1) := hs
  have K1 : Hid (SK bs w w1) := hk
  have E1 : Hid (EnvAt w1 hi e (.pointer ea)) := EnvAt.sk S0.out hk E0.out
  have B1 := hide (blk_sk S0.out hk B0.out rfl (by decide))
  have Q1 := hide (Rep.sk S0.out hk Q0.out)
  clear c2 c3
  obtain ⟨_, _, c2, c3⟩ := four_cells B1.out
  clear hk hs
  go_wp2_with fail
  refine (hI S1.out Q1.out E1.out (unhide H2)).mono ?_
  rintro e1 w2 ⟨rfl, hk, hs⟩
  have S2 : Hid (Sol w2 bs st2) := hs
  have K2 : Hid (SK bs w w2) := K1.out.trans hk
  clear hk hs
  go_wp2_with fail
  refine (add_sol S2.out 4 x1 x2 (unhide H3)).mono ?_
  rintro e1 w3 ⟨rfl, hk, hs⟩
  have X : Hid (SK bs w w3 ∧ Sol w3 bs st') := ⟨K2.out.trans hk, hs⟩
  clear hk hs
  go_wp2_with fail
  go_ret
  exact ⟨rfl, X.out⟩

set_option maxRecDepth 100000 in
set_option maxHeartbeats 4000000 in
theorem infer_Fun {n : Nat} (hI : InferSaid n) {w : World} {bs hi b : Nat} {st st' : Tw.SS} {e : Tw.En} {ev : Value} {body : Tw.T} {v1 : Value} {bn : List UInt8} {fr to bat r : Nat} (h : Sol w bs st)
    (hb : w.heap[b]? = some (.cells #[.int .i64 fr, .int .i64 to, bytesV bn, .int .i64 bat, v1] 235 (0, 0))) (r0 : Rep w 0 hi body v1) (he : EnvAt w hi e ev) (hf : Tw.inferS (n + 1) (.fn fr to bn bat body) e st = some (r, st')) :
    Calls Tryz.prog 53 #[.pointer (some ⟨bs, 0, none⟩), .iface 215 (.pointer (some ⟨b, 0, none⟩)), ev] w (IPost bs w r st') := by
  rw [Tw.inferS] at hf
  obtain ⟨⟨x1, st1⟩, h1, hf1⟩ := Option.bind_eq_some_iff.1 hf
  obtain ⟨⟨x2, st2⟩, h2, h3⟩ := Option.bind_eq_some_iff.1 hf1
  simp only at h2 h3
  have S0 : Hid (Sol w bs st) := h
  have E0 : Hid (EnvAt w hi e ev) := he
  have B0 : Hid (w.heap[b]? = some (.cells #[.int .i64 fr, .int .i64 to, bytesV bn, .int .i64 bat, v1] 235 (0, 0))) := hb
  have R0 : Hid (Rep w 0 hi body v1) := r0
  have H1 := hide h1
  have H2 := hide h2
  have H3 := hide h3
  obtain ⟨T0, n0, rfl⟩ := r0.iface
  obtain ⟨ea, rfl⟩ := he.ptr
  have q0 := ta_Fun_Name
  have q1 := ta_Fun_Truth
  have q2 := ta_Fun_Side
  have q3 := ta_Fun_Bracket
  have q4 := ta_Fun_Pair
  have q5 := ta_Fun_Call
  have q6 := ta_Fun_Binary
  have q7 := ta_Fun_If
  have q8 := ta_Fun_Fun
  have q9 := ta_Fun_Let
  clear h he hb r0 hf hf1 h1 h2 h3
  go_enter Tryz.func53, Tryz.ntmps53
  go_wp2_with fail
  refine (fresh_sol S0.out (unhide H1)).mono ?_
  rintro e1 w1 ⟨rfl, hk, hs⟩
  have S1 : Hid (Sol w1 bs st1) := hs
  have K1 : Hid (SK bs w w1) := hk
  have E1 : Hid (EnvAt w1 hi e (.pointer ea)) := EnvAt.sk S0.out hk E0.out
  have B1 := hide (blk_sk S0.out hk B0.out rfl (by decide))
  have R1 := hide (Rep.sk S0.out hk R0.out)
  obtain ⟨_, _, c2, _, c4⟩ := five_cells B1.out
  clear hk hs q0 q1 q2 q3 q4 q5 q6 q7 q8 q9
  have D1 : Hid (w1.grownBy w1.drew none) := grown_drew (grown_refl _)
  go_wp2_with fail
  go_region_held3 (fun W => W.cell? ⟨b, 2, none⟩ = some (bytesV bn) ∧ W.cell? ⟨b, 4, none⟩ = some (.iface T0 (.pointer (some ⟨n0, 0, none⟩)))) (go_keep)
    (first
      | (go_at_call 104; refine (with_any e (.pointer ea) (E1.out.grown D1.out) bn x1 none none).mono ?_; rintro e1 w2 ⟨sb, rfl, hg, hsb⟩
         have G2 : Hid (w1.grownBy w2 none) := grown_trans D1.out hg
         have N2 : Hid (EnvAt w2 hi (.fix bn x1 e) (.pointer (some ⟨sb, 0, none⟩))) := ⟨sb, _, rfl, hsb, E1.out.grown (grown_trans D1.out hg)⟩
         have B2 := five_cells ((grown_trans D1.out hg).block b (Array.getElem?_eq_some_iff.1 B1.out).1 (by simp) |>.trans B1.out)
         obtain ⟨_, _, d2, _, d4⟩ := B2
         clear hg hsb)
      | (go_at_call 53; refine (hI (S1.out.grown G2.out) (R1.out.grown G2.out (Nat.le_refl _) (Nat.le_refl _)) N2.out (unhide H2)).mono ?_; rintro e1 w3 ⟨rfl, hk, hs⟩
         have S3 : Hid (Sol w3 bs st2) := hs
         have K3 : Hid (SK bs w w3) := K1.out.trans ((SK.of_none G2.out).trans hk)
         have B3 := five_cells (blk_sk (S1.out.grown G2.out) hk ((G2.out.block b (Array.getElem?_eq_some_iff.1 B1.out).1 (by simp)).trans B1.out) rfl (by decide))
         obtain ⟨_, _, g2, _, g4⟩ := B3
         clear hk hs))
  go_wp2_with fail
  refine (add_sol S3.out 3 x1 x2 (unhide H3)).mono ?_
  rintro e1 w4 ⟨rfl, hk, hs⟩
  have X : Hid (SK bs w w4 ∧ Sol w4 bs st') := ⟨K3.out.trans hk, hs⟩
  clear hk hs
  go_wp2_with fail
  go_ret
  exact ⟨rfl, X.out⟩

end Go.Proofs.YtckhafpejefbbaaGreatDoor

/- Package types: definition, infer at let; infer whole. -/
namespace Go.Proofs.YtckhafpejefbbaaGreatDoor
open Go.RowKit

set_option maxRecDepth 100000 in
set_option maxHeartbeats 4000000 in
theorem def_plain {n : Nat} (hI : InferSaid n) {w : World} {bs hi b : Nat} {st st' : Tw.SS} {e : Tw.En} {ev : Value} {d x : Tw.T} {v1 v2 : Value} {bn : List UInt8} {fr to bat r : Nat} {rc : Bool} (h : Sol w bs st) (hrc : rc = false)
    (hb : w.heap[b]? = some (.cells #[.int .i64 fr, .int .i64 to, .bool rc, bytesV bn, .int .i64 bat, v1, v2] 140 (0, 0))) (r0 : Rep w 0 hi d v1) (he : EnvAt w hi e ev) (hf : Tw.defS (n + 1) (.lett fr to rc bn bat d x) e st = some (r, st')) :
    Calls Tryz.prog 105 #[.pointer (some ⟨bs, 0, none⟩), .pointer (some ⟨b, 0, none⟩), ev] w (IPost bs w r st') := by
  subst hrc
  rw [Tw.defS] at hf
  have S0 : Hid (Sol w bs st) := h
  have E0 : Hid (EnvAt w hi e ev) := he
  have R0 : Hid (Rep w 0 hi d v1) := r0
  have H1 := hide hf
  obtain ⟨T0, n0, rfl⟩ := r0.iface
  obtain ⟨ea, rfl⟩ := he.ptr
  obtain ⟨c2, _, c5, _⟩ := seven_cells hb
  clear h he hb r0 hf
  go_enter Tryz.func105, Tryz.ntmps105
  go_wp2_with fail
  refine (hI S0.out R0.out E0.out (unhide H1)).mono ?_
  rintro e1 w1 ⟨rfl, hk, hs⟩
  have X : Hid (SK bs w w1 ∧ Sol w1 bs st') := ⟨hk, hs⟩
  clear hk hs
  go_wp2_with fail
  go_ret
  exact ⟨rfl, X.out⟩

set_option maxRecDepth 100000 in
set_option maxHeartbeats 4000000 in
theorem def_rec {n : Nat} (hI : InferSaid n) {w : World} {bs hi b : Nat} {st st' : Tw.SS} {e : Tw.En} {ev : Value} {d x : Tw.T} {v1 v2 : Value} {bn : List UInt8} {fr to bat r : Nat} {rc : Bool} (h : Sol w bs st) (hrc : rc = true)
    (hb : w.heap[b]? = some (.cells #[.int .i64 fr, .int .i64 to, .bool rc, bytesV bn, .int .i64 bat, v1, v2] 140 (0, 0))) (r0 : Rep w 0 hi d v1) (he : EnvAt w hi e ev) (hf : Tw.defS (n + 1) (.lett fr to rc bn bat d x) e st = some (r, st')) :
    Calls Tryz.prog 105 #[.pointer (some ⟨bs, 0, none⟩), .pointer (some ⟨b, 0, none⟩), ev] w (IPost bs w r st') := by
  subst hrc
  rw [Tw.defS] at hf
  obtain ⟨⟨x1, st1⟩, h1, hf1⟩ := Option.bind_eq_some_iff.1 hf
  obtain ⟨⟨x2, st2⟩, h2, hf2⟩ := Option.bind_eq_some_iff.1 hf1
  obtain ⟨st3, h3, hf3⟩ := Option.bind_eq_some_iff.1 hf2
  simp only [Option.some.injEq, Prod.mk.injEq] at hf3
  obtain ⟨rfl, rfl⟩ := hf3
  simp only at h2 h3
  have S0 : Hid (Sol w bs st) := h
  have E0 : Hid (EnvAt w hi e ev) := he
  have B0 : Hid (w.heap[b]? = some (.cells #[.int .i64 fr, .int .i64 to, .bool true, bytesV bn, .int .i64 bat, v1, v2] 140 (0, 0))) := hb
  have R0 : Hid (Rep w 0 hi d v1) := r0
  have H1 := hide h1
  have H2 := hide h2
  have H3 := hide h3
  obtain ⟨T0, n0, rfl⟩ := r0.iface
  obtain ⟨ea, rfl⟩ := he.ptr
  obtain ⟨c2, _, _, _⟩ := seven_cells hb
  clear h he hb r0 hf hf1 hf2 h1 h2 h3
  go_enter Tryz.func105, Tryz.ntmps105
  go_wp2_with fail
  refine (fresh_sol S0.out (unhide H1)).mono ?_
  rintro e1 w1 ⟨rfl, hk, hs⟩
  have S1 : Hid (Sol w1 bs st1) := hs
  have K1 : Hid (SK bs w w1) := hk
  have E1 : Hid (EnvAt w1 hi e (.pointer ea)) := EnvAt.sk S0.out hk E0.out
  have B1 := hide (blk_sk S0.out hk B0.out rfl (by decide))
  have R1 := hide (Rep.sk S0.out hk R0.out)
  clear c2
  obtain ⟨_, c3, c5, _⟩ := seven_cells B1.out
  clear hk hs
  have D1 : Hid (w1.grownBy w1.drew none) := grown_drew (grown_refl _)
  go_wp2_with fail
  go_region_held3 (fun W => W.cell? ⟨b, 3, none⟩ = some (bytesV bn) ∧ W.cell? ⟨b, 5, none⟩ = some (.iface T0 (.pointer (some ⟨n0, 0, none⟩)))) (go_keep)
    (first
      | (go_at_call 104; refine (with_any e (.pointer ea) (E1.out.grown D1.out) bn x1 none none).mono ?_; rintro e1 w2 ⟨sb, rfl, hg, hsb⟩
         have G2 : Hid (w1.grownBy w2 none) := grown_trans D1.out hg
         have N2 : Hid (EnvAt w2 hi (.fix bn x1 e) (.pointer (some ⟨sb, 0, none⟩))) := ⟨sb, _, rfl, hsb, E1.out.grown (grown_trans D1.out hg)⟩
         have B2 := seven_cells ((grown_trans D1.out hg).block b (Array.getElem?_eq_some_iff.1 B1.out).1 (by simp) |>.trans B1.out)
         obtain ⟨_, d3, d5, _⟩ := B2
         clear hg hsb)
      | (go_at_call 53; refine (hI (S1.out.grown G2.out) (R1.out.grown G2.out (Nat.le_refl _) (Nat.le_refl _)) N2.out (unhide H2)).mono ?_; rintro e1 w3 ⟨rfl, hk, hs⟩
         have S3 : Hid (Sol w3 bs st2) := hs
         have K3 : Hid (SK bs w w3) := K1.out.trans ((SK.of_none G2.out).trans hk)
         have B3 := hide (blk_sk (S1.out.grown G2.out) hk ((G2.out.block b (Array.getElem?_eq_some_iff.1 B1.out).1 (by simp)).trans B1.out) rfl (by decide))
         obtain ⟨_, g3, g5, _⟩ := seven_cells B3.out
         clear hk hs)
      | (go_at_call 176; refine (unify_sol S3.out (unhide H3)).mono ?_; rintro e1 w4 ⟨rfl, hk, hs⟩
         have S4 : Hid (Sol w4 bs st3) := hs
         have K4 : Hid (SK bs w w4) := K3.out.trans hk
         have B4 := seven_cells (blk_sk S3.out hk B3.out rfl (by decide))
         obtain ⟨_, i3, i5, _⟩ := B4
         clear hk hs))
  go_wp2_with fail
  go_ret
  exact ⟨rfl, K4.out, S4.out⟩

set_option maxRecDepth 100000 in
set_option maxHeartbeats 4000000 in
theorem infer_Let {n : Nat} (hI : InferSaid n) (hD : DefSaid n) {w : World} {bs hi b : Nat} {st st' : Tw.SS} {e : Tw.En} {ev : Value} {d x : Tw.T} {v1 v2 : Value} {bn : List UInt8} {fr to bat r : Nat} {rc : Bool} (h : Sol w bs st)
    (hb : w.heap[b]? = some (.cells #[.int .i64 fr, .int .i64 to, .bool rc, bytesV bn, .int .i64 bat, v1, v2] 140 (0, 0))) (r0 : Rep w 0 hi x v2) (rw0 : Rep w 0 hi (.lett fr to rc bn bat d x) (.iface 136 (.pointer (some ⟨b, 0, none⟩)))) (he : EnvAt w hi e ev) (hf : Tw.inferS (n + 1) (.lett fr to rc bn bat d x) e st = some (r, st')) :
    Calls Tryz.prog 53 #[.pointer (some ⟨bs, 0, none⟩), .iface 136 (.pointer (some ⟨b, 0, none⟩)), ev] w (IPost bs w r st') := by
  rw [Tw.inferS] at hf
  obtain ⟨⟨x1, st1⟩, h1, h2⟩ := Option.bind_eq_some_iff.1 hf
  simp only at h2
  have S0 : Hid (Sol w bs st) := h
  have E0 : Hid (EnvAt w hi e ev) := he
  have B0 : Hid (w.heap[b]? = some (.cells #[.int .i64 fr, .int .i64 to, .bool rc, bytesV bn, .int .i64 bat, v1, v2] 140 (0, 0))) := hb
  have R0 : Hid (Rep w 0 hi x v2) := r0
  have W0 := hide rw0
  have H1 := hide h1
  have H2 := hide h2
  obtain ⟨T0, n0, rfl⟩ := r0.iface
  obtain ⟨ea, rfl⟩ := he.ptr
  have q0 := ta_Let_Name
  have q1 := ta_Let_Truth
  have q2 := ta_Let_Side
  have q3 := ta_Let_Bracket
  have q4 := ta_Let_Pair
  have q5 := ta_Let_Call
  have q6 := ta_Let_Binary
  have q7 := ta_Let_If
  have q8 := ta_Let_Fun
  have q9 := ta_Let_Let
  clear h he hb r0 rw0 hf h1 h2
  go_enter Tryz.func53, Tryz.ntmps53
  go_wp2_with fail
  refine (hD S0.out (unhide W0) E0.out (unhide H1)).mono ?_
  rintro e1 w1 ⟨rfl, hk, hs⟩
  have S1 : Hid (Sol w1 bs st1) := hs
  have K1 : Hid (SK bs w w1) := hk
  have E1 : Hid (EnvAt w1 hi e (.pointer ea)) := EnvAt.sk S0.out hk E0.out
  have B1 := hide (blk_sk S0.out hk B0.out rfl (by decide))
  have R1 := hide (Rep.sk S0.out hk R0.out)
  have W1 := hide (Rep.sk S0.out hk (unhide W0))
  obtain ⟨_, c3, _, c6⟩ := seven_cells B1.out
  clear hk hs q0 q1 q2 q3 q4 q5 q6 q7 q8 q9
  have D1 : Hid (w1.grownBy w1.drew none) := grown_drew (grown_refl _)
  go_wp2_with fail
  go_region_held3 (fun W => W.cell? ⟨b, 3, none⟩ = some (bytesV bn) ∧ W.cell? ⟨b, 6, none⟩ = some (.iface T0 (.pointer (some ⟨n0, 0, none⟩)))) (go_keep)
    (first
      | (go_at_call 104; refine (with_any e (.pointer ea) (E1.out.grown D1.out) bn 0 (some ⟨b, 0, none⟩) ea).mono ?_; rintro e1 w2 ⟨sb, rfl, hg, hsb⟩
         have G2 : Hid (w1.grownBy w2 none) := grown_trans D1.out hg
         have N2 : Hid (EnvAt w2 hi (.dfn bn (.lett fr to rc bn bat d x) e) (.pointer (some ⟨sb, 0, none⟩))) := ⟨sb, _, b, rfl, hsb, E1.out.grown (grown_trans D1.out hg), (unhide W1).grown (grown_trans D1.out hg) (Nat.le_refl _) (Nat.le_refl _)⟩
         have B2 := seven_cells ((grown_trans D1.out hg).block b (Array.getElem?_eq_some_iff.1 B1.out).1 (by simp) |>.trans B1.out)
         obtain ⟨_, d3, _, d6⟩ := B2
         clear hg hsb)
      | (go_at_call 53; refine (hI (S1.out.grown G2.out) (R1.out.grown G2.out (Nat.le_refl _) (Nat.le_refl _)) N2.out (unhide H2)).mono ?_; rintro e1 w3 ⟨rfl, hk, hs⟩
         have S3 : Hid (Sol w3 bs st') := hs
         have K3 : Hid (SK bs w w3) := K1.out.trans ((SK.of_none G2.out).trans hk)
         have B3 := hide (blk_sk (S1.out.grown G2.out) hk ((G2.out.block b (Array.getElem?_eq_some_iff.1 B1.out).1 (by simp)).trans B1.out) rfl (by decide))
         obtain ⟨_, g3, _, g6⟩ := seven_cells B3.out
         clear hk hs))
  go_wp2_with fail
  go_ret
  exact ⟨rfl, K3.out, S3.out⟩

end Go.Proofs.YtckhafpejefbbaaGreatDoor

/- Package types: infer whole. -/
namespace Go.Proofs.YtckhafpejefbbaaGreatDoor
open Go.RowKit

theorem def_step {n : Nat} (hI : InferSaid n) : DefSaid (n + 1) := by
  intro w bs hi bl st st' t e ev r h hr he hf
  cases t with
  | lett fr to rc bn bat d x =>
    obtain ⟨v1, v2, ⟨b, _, _, hv, hb⟩, r1, r2⟩ := hr
    cases hv
    cases hrc : rc
    · subst hrc; exact def_plain hI h rfl hb r1 he hf
    · subst hrc; exact def_rec hI h rfl hb r1 he hf
  | _ => simp [Tw.defS] at hf

theorem infer_step {n : Nat} (hI : InferSaid n) (hD : DefSaid n) : InferSaid (n + 1) := by
  intro w bs hi st st' t e tv ev r h hr he hf
  cases t with
  | name fr to x =>
    obtain ⟨b, _, _, rfl, hb⟩ := hr
    exact infer_Name he (name_any hD h hb he hf)
  | int fr to v =>
    obtain ⟨b, _, _, rfl, hb⟩ := hr
    simp only [Tw.inferS, Option.some.injEq, Prod.mk.injEq] at hf
    obtain ⟨rfl, rfl⟩ := hf
    exact infer_Int h he
  | truth fr to v =>
    obtain ⟨b, _, _, rfl, hb⟩ := hr
    simp only [Tw.inferS, Option.some.injEq, Prod.mk.injEq] at hf
    obtain ⟨rfl, rfl⟩ := hf
    exact infer_Truth h he
  | side fr to v =>
    obtain ⟨b, _, _, rfl, hb⟩ := hr
    exact infer_Side he (side_any h hb hf)
  | bracket fr to i =>
    obtain ⟨v1, ⟨b, _, _, rfl, hb⟩, r1⟩ := hr
    exact infer_Bracket hI h hb r1 he hf
  | pair fr to l q =>
    obtain ⟨v1, v2, ⟨b, _, _, rfl, hb⟩, r1, r2⟩ := hr
    exact infer_Pair hI h hb r1 r2 he hf
  | call fr to f a =>
    obtain ⟨v1, v2, ⟨b, _, _, rfl, hb⟩, r1, r2⟩ := hr
    exact infer_Call he (call_any hI h hb r1 r2 he hf)
  | binary fr to sg l q =>
    obtain ⟨v1, v2, ⟨b, _, _, rfl, hb⟩, r1, r2⟩ := hr
    refine infer_Binary he ?_
    by_cases h23 : sg = 23
    · exact binary_less hI (by simp [h23]) h hb r1 r2 he hf
    · by_cases h15 : sg = 15
      · exact binary_equal hI (by simp [h23]) (by simp [h15]) h hb r1 r2 he hf
      · exact binary_int hI (by simp [h23]) (by simp [h15]) h hb r1 r2 he hf
  | cond fr to c t f =>
    obtain ⟨v1, v2, v3, ⟨b, _, _, rfl, hb⟩, r1, r2, r3⟩ := hr
    exact infer_If he (choice_any hI h hb r1 r2 r3 he hf)
  | fn fr to bn bat body =>
    obtain ⟨v1, ⟨b, _, _, rfl, hb⟩, r1⟩ := hr
    exact infer_Fun hI h hb r1 he hf
  | lett fr to rc bn bat d x =>
    have hr0 := hr
    obtain ⟨v1, v2, ⟨b, _, _, rfl, hb⟩, r1, r2⟩ := hr
    exact infer_Let hI hD h hb r2 hr0 he hf

theorem infer_all : ∀ n, InferSaid n ∧ DefSaid n
  | 0 => ⟨fun _ _ _ hf => by simp [Tw.inferS] at hf, fun _ _ _ hf => by simp [Tw.defS] at hf⟩
  | n + 1 => ⟨infer_step (infer_all n).1 (infer_all n).2, def_step (infer_all n).1⟩

end Go.Proofs.YtckhafpejefbbaaGreatDoor

/- endless as plain functions. -/
namespace Go.Proofs.YtckhafpejefbbaaGreatDoor.Tw
open Go

def madeS (x : Sh) : Bool := x.sort == 3 || x.sort == 4

def holdsS : Nat → SS → List Int → Nat → Option (Bool × SS × List Int)
  | 0, _, _, _ => none
  | n + 1, st, mk, r => (findS n st r).bind fun p => match p.2.shs[p.1]?, mk[p.1]? with
    | some x, some m =>
      if m = 0 ∧ madeS x = true then
        (holdsS n p.2 (mk.set p.1 1) x.left).bind fun a =>
          if a.1 then some (true, a.2) else (holdsS n a.2.1 a.2.2 x.right).bind fun b => if b.1 then some (true, b.2) else some (false, b.2.1, b.2.2.set p.1 2)
      else some (m == 1, p.2, mk)
    | _, _ => none

def endlessFrom (fuel : Nat) : Nat → SS → List Int → Nat → Nat → Option (Bool × SS)
  | 0, _, _, _, _ => none
  | n + 1, st, mk, r, len => if r < len then (holdsS fuel st mk r).bind fun a => if a.1 then some (true, a.2.1) else endlessFrom fuel n a.2.1 a.2.2 (r + 1) len else some (false, st)

def endlessS (fuel : Nat) (st : SS) : Option (Bool × SS) := endlessFrom fuel (st.shs.length + 1) st (List.replicate st.shs.length 0) 0 st.shs.length

end Go.Proofs.YtckhafpejefbbaaGreatDoor.Tw

/- Package types: made, holdsItself. -/
namespace Go.Proofs.YtckhafpejefbbaaGreatDoor
open Go.RowKit

structure HK (bs g gm : Nat) (w w' : World) : Prop where
  os : w'.os = w.os
  tape : w'.tape = w.tape
  output : w'.output = w.output
  size : w.heap.size ≤ w'.heap.size
  block : ∀ k, k < w.heap.size → k ≠ bs → k ≠ g → k ≠ gm → w'.heap[k]? = w.heap[k]?

theorem HK.trans {bs g gm : Nat} {a b c : World} (h : HK bs g gm a b) (k : HK bs g gm b c) : HK bs g gm a c :=
  ⟨k.os.trans h.os, k.tape.trans h.tape, k.output.trans h.output, Nat.le_trans h.size k.size, fun i hi hb hn hm => (k.block i (Nat.lt_of_lt_of_le hi h.size) hb hn hm).trans (h.block i hi hb hn hm)⟩
theorem HK.of_uk {bs g gm : Nat} {w w' : World} (h : UK bs g w w') : HK bs g gm w w' := ⟨h.os, h.tape, h.output, h.size, fun i hi hb hn _ => h.block i hi hb hn⟩
theorem HK.of_none {bs g gm : Nat} {w w' : World} (h : w.grownBy w' none) : HK bs g gm w w' := HK.of_uk (UK.of_none h)
theorem HK.setMark {bs g gm : Nat} {a w : World} (h : HK bs g gm a w) (j : Nat) (v : Value) : HK bs g gm a (w.setCell ⟨gm, j, none⟩ v) :=
  h.trans ⟨rfl, rfl, rfl, by simp, fun k _ _ _ hb => heap_setCell_other w ⟨gm, j, none⟩ k v (by simpa using hb)⟩
theorem HK.at {bs g gm : Nat} {w w' : World} (h : HK bs g gm w w') {b : Nat} {o : Obj} (hb : w.heap[b]? = some o) (h1 : b ≠ bs) (h2 : b ≠ g) (h3 : b ≠ gm) : w'.heap[b]? = some o := by
  rw [h.block b (Array.getElem?_eq_some_iff.1 hb).1 h1 h2 h3]; exact hb

def markCells (mk : List Int) : Array Value := (mk.map fun n => Value.int .i64 n).toArray
def MarksAt (w : World) (gm : Nat) (mk : List Int) : Prop := w.heap[gm]? = some (.cells (markCells mk) 341 (0, 0))

theorem MarksAt.get {w : World} {gm : Nat} {mk : List Int} (h : MarksAt w gm mk) {j : Nat} {m : Int} (hj : mk[j]? = some m) : w.cell? ⟨gm, j, none⟩ = some (.int .i64 m) := by
  rw [cell_of_row w gm _ _ _ _ h]
  simp [markCells, hj]

theorem MarksAt.set {w : World} {gm : Nat} {mk : List Int} (h : MarksAt w gm mk) (j : Nat) (m : Int) : MarksAt (w.setCell ⟨gm, j, none⟩ (.int .i64 m)) gm (mk.set j m) := by
  unfold MarksAt
  rw [heap_setCell_same _ _ _ _ _ _ h]
  congr 2
  apply Array.ext'
  simp [markCells, List.map_set]

theorem RowAt.other {w : World} {bs g cap : Nat} {cur : Array Value} {st : Tw.SS} (h : RowAt w bs g cap cur st) {b : Nat} (h1 : b ≠ bs) (h2 : b ≠ g) (j : Nat) (v : Value) : RowAt (w.setCell ⟨b, j, none⟩ v) bs g cap cur st :=
  { h with solver := by rw [heap_setCell_other _ _ _ _ (by simpa using h1.symm)]; exact h.solver, row := by rw [heap_setCell_other _ _ _ _ (by simpa using h2.symm)]; exact h.row }

set_option maxRecDepth 100000 in
set_option maxHeartbeats 1000000 in
theorem made_any (x : Tw.Sh) (w : World) :
    Calls Tryz.prog 178 #[.agg #[.int .i64 x.sort, .int .i64 x.left, .int .i64 x.right, .int .i64 x.same]] w fun e w' => e = .returned (.bool (Tw.madeS x)) ∧ w.grownBy w' none := by
  unfold Tw.madeS
  cases h3 : (x.sort == 3)
  · go_enter Tryz.func178, Tryz.ntmps178
    go_wp2_with fail
    go_ret
    exact ⟨ret_bool (by simp), World.grownBy_alloc _ _ none⟩
  · go_enter Tryz.func178, Tryz.ntmps178
    go_wp2_with fail
    go_ret
    exact ⟨ret_bool (by simp), World.grownBy_alloc _ _ none⟩

def HPost (bs g cap gm : Nat) (w : World) (b : Bool) (st' : Tw.SS) (mk' : List Int) (e : Ending) (w' : World) : Prop := e = .returned (.bool b) ∧ HK bs g gm w w' ∧ (∃ cur', RowAt w' bs g cap cur' st') ∧ MarksAt w' gm mk'

def HSaid (n : Nat) : Prop := ∀ {w : World} {bs g cap gm : Nat} {cur : Array Value} {st st' : Tw.SS} {mk mk' : List Int} {r : Nat} {b : Bool}, RowAt w bs g cap cur st → MarksAt w gm mk → gm ≠ bs → gm ≠ g → mk.length ≤ 10000001 → Tw.holdsS n st mk r = some (b, st', mk') →
    Calls Tryz.prog 106 #[.pointer (some ⟨bs, 0, none⟩), .int .i64 r, .slice (some ⟨gm, 0, none⟩) mk.length mk.length] w (HPost bs g cap gm w b st' mk')

theorem holds_len : ∀ (n : Nat) {st st' : Tw.SS} {mk mk' : List Int} {r : Nat} {b : Bool}, Tw.holdsS n st mk r = some (b, st', mk') → mk'.length = mk.length
  | 0, _, _, _, _, _, _, h => by simp [Tw.holdsS] at h
  | n + 1, st, st', mk, mk', r, b, h => by
    rw [Tw.holdsS] at h
    obtain ⟨⟨p, st1⟩, hp, h1⟩ := Option.bind_eq_some_iff.1 h
    simp only at h1
    split at h1
    rotate_left
    · cases h1
    split at h1
    · obtain ⟨⟨b1, st2, mk2⟩, h2, h3⟩ := Option.bind_eq_some_iff.1 h1
      have e2 := holds_len n h2
      simp only at h3
      split at h3
      · simp only [Option.some.injEq, Prod.mk.injEq] at h3
        rw [← h3.2.2, e2]; simp
      · obtain ⟨⟨b2, st3, mk3⟩, h4, h5⟩ := Option.bind_eq_some_iff.1 h3
        have e4 := holds_len n h4
        simp only at h5
        split at h5
        · simp only [Option.some.injEq, Prod.mk.injEq] at h5
          rw [← h5.2.2, e4, e2]; simp
        · simp only [Option.some.injEq, Prod.mk.injEq] at h5
          rw [← h5.2.2]; simp [e4, e2]
    · simp only [Option.some.injEq, Prod.mk.injEq] at h1
      rw [h1.2.2]

end Go.Proofs.YtckhafpejefbbaaGreatDoor

/- Package types: holdsItself. -/
namespace Go.Proofs.YtckhafpejefbbaaGreatDoor
open Go.RowKit

set_option maxRecDepth 100000 in
set_option maxHeartbeats 4000000 in
theorem holds_step {n : Nat} (ih : HSaid n) : HSaid (n + 1) := by
  intro w bs g cap gm cur st st' mk mk' r b h hM hgb hgg hlm hf
  rw [Tw.holdsS] at hf
  obtain ⟨⟨p, st1⟩, hp, hf1⟩ := Option.bind_eq_some_iff.1 hf
  clear hf
  simp only at hf1
  cases hx : st1.shs[p]? with
  | none => rw [hx] at hf1; simp at hf1
  | some x =>
  cases hm : mk[p]? with
  | none => rw [hx, hm] at hf1; simp at hf1
  | some m =>
  rw [hx, hm] at hf1
  simp only at hf1
  have HH : Hid (RowAt w bs g cap cur st) := h
  have M0 : Hid (MarksAt w gm mk) := hM
  have H1 : Hid (Tw.findS n st r = some (p, st1)) := hp
  have HX : Hid (st1.shs[p]? = some x) := hx
  have HMK : Hid (mk[p]? = some m) := hm
  have hpm : p < mk.length := (List.getElem?_eq_some_iff.1 hm).1
  have hpmi : (p : Int) < (mk.length : Int) := by omega
  have c237 : Tryz.prog.cellsOf 334 = 4 := by kernel_rfl
  have c252 : Tryz.prog.cellsOf 341 = 1 := by kernel_rfl
  have zg := (Array.getElem?_eq_some_iff.1 h.row).1
  have zb := (Array.getElem?_eq_some_iff.1 h.solver).1
  have zm := (Array.getElem?_eq_some_iff.1 hM).1
  clear h hM hp hx hm
  by_cases hmx : m = 0 ∧ Tw.madeS x = true
  rotate_left
  · rw [if_neg hmx] at hf1
    simp only [Option.some.injEq, Prod.mk.injEq] at hf1
    obtain ⟨hb, rfl, rfl⟩ := hf1
    have HB := hide hb
    clear hb
    cases hm0 : (m != 0)
    · have hmd : Hid (Tw.madeS x = false) := by
        show _ = _
        cases e : Tw.madeS x
        · rfl
        · exact absurd ⟨by simpa using hm0, e⟩ hmx
      clear hmx
      go_enter Tryz.func106, Tryz.ntmps106
      go_wp2_with fail
      refine (find_any HH.out H1.out).mono ?_
      rintro e1 w1 ⟨rfl, hk, cur1, hR⟩
      have P1 : Hid (RowAt w1 bs g cap cur1 st1) := hR
      have K1 : Hid (UK bs g w w1) := hk
      have M1 : Hid (MarksAt w1 gm mk) := hk.at M0.out hgb hgg
      obtain ⟨hpl, x0, x1, x2, x3⟩ := hR.sh HX.out
      obtain ⟨s0, _, _, _⟩ := two_cells hR.solver
      have hpi : (p : Int) < (st1.shs.length : Int) := by omega
      have hml := hR.many
      have z1 := hk.size
      have zm1 : gm < w1.heap.size := by omega
      have zg1 : g < w1.heap.size := by omega
      have zb1 : bs < w1.heap.size := by omega
      have mc := M1.out.get HMK.out
      have mf := frozen_of_row _ _ p _ _ M1.out
      clear hk hR
      go_wp2_with fail
      refine (made_any x _).mono ?_
      rintro e1 w2 ⟨rfl, hg⟩
      rw [hmd.out]
      have G2 : Hid (w1.grownBy w2 none) := grown_trans (World.grownBy_alloc _ _ none) hg
      have M2 : Hid (MarksAt w2 gm mk) := (Keep.of_none (bp := bs) G2.out).at M1.out hgb
      have mc2 := M2.out.get HMK.out
      clear hg
      go_wp2_with fail
      go_ret
      exact ⟨ret_bool (unhide HB), HK.trans (HK.of_uk K1.out) (HK.of_none G2.out), ⟨cur1, P1.out.grown G2.out⟩, M2.out⟩
    · clear hmx
      go_enter Tryz.func106, Tryz.ntmps106
      go_wp2_with fail
      refine (find_any HH.out H1.out).mono ?_
      rintro e1 w1 ⟨rfl, hk, cur1, hR⟩
      have P1 : Hid (RowAt w1 bs g cap cur1 st1) := hR
      have K1 : Hid (UK bs g w w1) := hk
      have M1 : Hid (MarksAt w1 gm mk) := hk.at M0.out hgb hgg
      obtain ⟨hpl, x0, x1, x2, x3⟩ := hR.sh HX.out
      obtain ⟨s0, _, _, _⟩ := two_cells hR.solver
      have hpi : (p : Int) < (st1.shs.length : Int) := by omega
      have hml := hR.many
      have z1 := hk.size
      have zm1 : gm < w1.heap.size := by omega
      have zg1 : g < w1.heap.size := by omega
      have zb1 : bs < w1.heap.size := by omega
      have mc := M1.out.get HMK.out
      have mf := frozen_of_row _ _ p _ _ M1.out
      clear hk hR
      go_wp2_with fail
      go_ret
      exact ⟨ret_bool (unhide HB), HK.trans (HK.of_uk K1.out) (HK.of_none (World.grownBy_alloc _ _ none)), ⟨cur1, P1.out.grown (World.grownBy_alloc _ _ none)⟩, alloc_at M1.out _⟩
  · rw [if_pos hmx] at hf1
    obtain ⟨hm0, hmd0⟩ := hmx
    have hm1 : (m != 0) = false := by simp [hm0]
    have hmd : Hid (Tw.madeS x = true) := hmd0
    clear hm0 hmd0
    obtain ⟨⟨b1, st2, mk2⟩, h2, hf2⟩ := Option.bind_eq_some_iff.1 hf1
    clear hf1
    simp only at hf2
    have L2 := holds_len n h2
    simp only [List.length_set] at L2
    have H2 : Hid (Tw.holdsS n st1 (mk.set p 1) x.left = some (b1, st2, mk2)) := h2
    clear h2
    have HF := hide hf2
    clear hf2
    cases hb1 : b1
    · have HF2 := unhide HF
      rw [hb1] at HF2
      simp only [Bool.false_eq_true, if_false] at HF2
      obtain ⟨⟨b2, st3, mk3⟩, h4, hf5⟩ := Option.bind_eq_some_iff.1 HF2
      simp only at hf5
      have L3 := holds_len n h4
      have H4 : Hid (Tw.holdsS n st2 mk2 x.right = some (b2, st3, mk3)) := h4
      subst hb1
      clear HF HF2 h4
      have HF5 := hide hf5
      clear hf5
      go_enter Tryz.func106, Tryz.ntmps106
      go_wp2_with fail
      refine (find_any HH.out H1.out).mono ?_
      rintro e1 w1 ⟨rfl, hk, cur1, hR⟩
      have P1 : Hid (RowAt w1 bs g cap cur1 st1) := hR
      have K1 : Hid (UK bs g w w1) := hk
      have M1 : Hid (MarksAt w1 gm mk) := hk.at M0.out hgb hgg
      obtain ⟨hpl, x0, x1, x2, x3⟩ := hR.sh HX.out
      obtain ⟨s0, _, _, _⟩ := two_cells hR.solver
      have hpi : (p : Int) < (st1.shs.length : Int) := by omega
      have hml := hR.many
      have z1 := hk.size
      have zm1 : gm < w1.heap.size := by omega
      have zg1 : g < w1.heap.size := by omega
      have zb1 : bs < w1.heap.size := by omega
      have mc := M1.out.get HMK.out
      have mf := frozen_of_row _ _ p _ _ M1.out
      clear hk hR
      go_wp2_with fail
      refine (made_any x _).mono ?_
      rintro e1 w2 ⟨rfl, hg⟩
      rw [hmd.out]
      have G2 : Hid (w1.grownBy w2 none) := grown_trans (World.grownBy_alloc _ _ none) hg
      have N2 : Hid (w2.heap[w1.heap.size]? = some (.cells #[.int .i64 x.sort, .int .i64 x.left, .int .i64 x.right, .int .i64 x.same] 334 (0, 0))) := (hg.block _ (by simp) (by simp)).trans (new_block w1 _)
      have M2 : Hid (MarksAt w2 gm mk) := (Keep.of_none (bp := bs) G2.out).at M1.out hgb
      have P2 : Hid (RowAt w2 bs g cap cur1 st1) := P1.out.grown G2.out
      have z2 := G2.out.size
      have mc2 := M2.out.get HMK.out
      have mf2 := frozen_of_row _ _ p _ _ M2.out
      obtain ⟨y0, y1, y2, y3⟩ := four_cells N2.out
      clear hg x0 x1 x2 x3 s0 mc mf
      go_wp2_with fail
      have Q2 := ih (P2.out.other hgb hgg p (.int .i64 1)) (M2.out.set p 1) hgb hgg (by simpa using hlm) H2.out
      rw [List.length_set] at Q2
      refine Q2.mono ?_
      rintro e1 w3 ⟨rfl, hk, ⟨cur3, hR⟩, hM3⟩
      have P3 : Hid (RowAt w3 bs g cap cur3 st2) := hR
      have M3 : Hid (MarksAt w3 gm mk2) := hM3
      have K3 : Hid (HK bs g gm w w3) := (HK.trans (HK.of_uk K1.out) (HK.of_none G2.out)).setMark p _ |>.trans hk
      have N2b : Hid ((w2.setCell ⟨gm, p, none⟩ (.int .i64 1)).heap[w1.heap.size]? = some (.cells #[.int .i64 x.sort, .int .i64 x.left, .int .i64 x.right, .int .i64 x.same] 334 (0, 0))) := by
        show _ = _
        rw [heap_setCell_other _ _ _ _ (by simp; omega)]; exact N2.out
      have N3 : Hid (w3.heap[w1.heap.size]? = some (.cells #[.int .i64 x.sort, .int .i64 x.left, .int .i64 x.right, .int .i64 x.same] 334 (0, 0))) := hk.at N2b.out (by omega) (by omega) (by omega)
      have z3 : w2.heap.size ≤ w3.heap.size := by have := hk.size; simpa using this
      clear hk hR hM3 Q2 y0 y1 y2 y3 mc2 mf2
      obtain ⟨y0, y1, y2, y3⟩ := four_cells N3.out

      have Q3 := ih P3.out M3.out hgb hgg (by rw [L2]; exact hlm) H4.out
      rw [L2] at Q3
      cases hb2 : b2
      · have HF6 := unhide HF5
        rw [hb2] at HF6
        simp only [Bool.false_eq_true, if_false, Option.some.injEq, Prod.mk.injEq] at HF6
        obtain ⟨rfl, rfl, rfl⟩ := HF6
        subst hb2
        go_wp2_with fail
        refine Q3.mono ?_
        rintro e1 w4 ⟨rfl, hk, ⟨cur4, hR⟩, hM4⟩
        have P4 : Hid (RowAt w4 bs g cap cur4 st3) := hR
        have M4 : Hid (MarksAt w4 gm mk3) := hM4
        have K4 : Hid (HK bs g gm w w4) := K3.out.trans hk
        have hp3 : mk3[p]?.isSome := by simp; omega
        obtain ⟨m3, hm3⟩ := Option.isSome_iff_exists.1 hp3
        have mc4 := M4.out.get hm3
        have mf4 := frozen_of_row _ _ p _ _ M4.out
        clear hk hR hM4 Q3 hp3 hm3
        go_wp2_with fail
        go_ret
        exact ⟨rfl, K4.out.setMark p _, ⟨cur4, P4.out.other hgb hgg p _⟩, M4.out.set p 2⟩
      · have HF6 := unhide HF5
        rw [hb2] at HF6
        simp only [if_true, Option.some.injEq, Prod.mk.injEq] at HF6
        obtain ⟨rfl, rfl, rfl⟩ := HF6
        subst hb2
        go_wp2_with fail
        refine Q3.mono ?_
        rintro e1 w4 ⟨rfl, hk, ⟨cur4, hR⟩, hM4⟩
        have X : Hid (HK bs g gm w w4 ∧ (∃ cur', RowAt w4 bs g cap cur' st3) ∧ MarksAt w4 gm mk3) := ⟨K3.out.trans hk, ⟨cur4, hR⟩, hM4⟩
        clear hk hR hM4 Q3
        go_wp2_with fail
        go_ret
        exact ⟨rfl, X.out⟩
    · have HF2 := unhide HF
      rw [hb1] at HF2
      simp only [if_true, Option.some.injEq, Prod.mk.injEq] at HF2
      obtain ⟨rfl, rfl, rfl⟩ := HF2
      subst hb1
      clear HF
      go_enter Tryz.func106, Tryz.ntmps106
      go_wp2_with fail
      refine (find_any HH.out H1.out).mono ?_
      rintro e1 w1 ⟨rfl, hk, cur1, hR⟩
      have P1 : Hid (RowAt w1 bs g cap cur1 st1) := hR
      have K1 : Hid (UK bs g w w1) := hk
      have M1 : Hid (MarksAt w1 gm mk) := hk.at M0.out hgb hgg
      obtain ⟨hpl, x0, x1, x2, x3⟩ := hR.sh HX.out
      obtain ⟨s0, _, _, _⟩ := two_cells hR.solver
      have hpi : (p : Int) < (st1.shs.length : Int) := by omega
      have hml := hR.many
      have z1 := hk.size
      have zm1 : gm < w1.heap.size := by omega
      have zg1 : g < w1.heap.size := by omega
      have zb1 : bs < w1.heap.size := by omega
      have mc := M1.out.get HMK.out
      have mf := frozen_of_row _ _ p _ _ M1.out
      clear hk hR
      go_wp2_with fail
      refine (made_any x _).mono ?_
      rintro e1 w2 ⟨rfl, hg⟩
      rw [hmd.out]
      have G2 : Hid (w1.grownBy w2 none) := grown_trans (World.grownBy_alloc _ _ none) hg
      have N2 : Hid (w2.heap[w1.heap.size]? = some (.cells #[.int .i64 x.sort, .int .i64 x.left, .int .i64 x.right, .int .i64 x.same] 334 (0, 0))) := (hg.block _ (by simp) (by simp)).trans (new_block w1 _)
      have M2 : Hid (MarksAt w2 gm mk) := (Keep.of_none (bp := bs) G2.out).at M1.out hgb
      have P2 : Hid (RowAt w2 bs g cap cur1 st1) := P1.out.grown G2.out
      have z2 := G2.out.size
      have mc2 := M2.out.get HMK.out
      have mf2 := frozen_of_row _ _ p _ _ M2.out
      obtain ⟨y0, y1, y2, y3⟩ := four_cells N2.out
      clear hg x0 x1 x2 x3 s0 mc mf
      go_wp2_with fail
      have Q2 := ih (P2.out.other hgb hgg p (.int .i64 1)) (M2.out.set p 1) hgb hgg (by simpa using hlm) H2.out
      rw [List.length_set] at Q2
      refine Q2.mono ?_
      rintro e1 w3 ⟨rfl, hk, ⟨cur3, hR⟩, hM3⟩
      have P3 : Hid (RowAt w3 bs g cap cur3 st2) := hR
      have M3 : Hid (MarksAt w3 gm mk2) := hM3
      have K3 : Hid (HK bs g gm w w3) := (HK.trans (HK.of_uk K1.out) (HK.of_none G2.out)).setMark p _ |>.trans hk
      have N2b : Hid ((w2.setCell ⟨gm, p, none⟩ (.int .i64 1)).heap[w1.heap.size]? = some (.cells #[.int .i64 x.sort, .int .i64 x.left, .int .i64 x.right, .int .i64 x.same] 334 (0, 0))) := by
        show _ = _
        rw [heap_setCell_other _ _ _ _ (by simp; omega)]; exact N2.out
      have N3 : Hid (w3.heap[w1.heap.size]? = some (.cells #[.int .i64 x.sort, .int .i64 x.left, .int .i64 x.right, .int .i64 x.same] 334 (0, 0))) := hk.at N2b.out (by omega) (by omega) (by omega)
      have z3 : w2.heap.size ≤ w3.heap.size := by have := hk.size; simpa using this
      clear hk hR hM3 Q2 y0 y1 y2 y3 mc2 mf2
      obtain ⟨y0, y1, y2, y3⟩ := four_cells N3.out

      go_wp2_with fail
      go_ret
      exact ⟨rfl, K3.out, ⟨cur3, P3.out⟩, M3.out⟩

theorem holds_any : ∀ n, HSaid n
  | 0 => fun _ _ _ _ _ hf => by simp [Tw.holdsS] at hf
  | n + 1 => holds_step (holds_any n)

end Go.Proofs.YtckhafpejefbbaaGreatDoor

/- Package types: endless, newSolver. -/
namespace Go.Proofs.YtckhafpejefbbaaGreatDoor
open Go.RowKit

theorem Tryz.info341 : (Tryz.prog.info? 341).map (fun i => (i.zero, i.size, i.bytes)) = some (some (.int .i64 0), 1, 8) := by kernel_rfl

theorem made_marks (N : Nat) : madeCells (Value.int .i64 0).cells N = markCells (List.replicate N 0) := by
  apply Array.ext
  · simp [madeCells, markCells]
  · intro i h1 h2
    simp [madeCells, markCells, Value.cells, Nat.mod_one]

theorem make_marks (N : Nat) (hN : N ≤ 10000001) : ∃ MC, MC = markCells (List.replicate N 0) ∧ ∀ W : World, (Instr.makeSlice 240 (.int .i64 N) (.int .i64 N)).run Tryz.prog W = .ok (.slice (some ⟨W.heap.size, 0, none⟩) N N) (W.alloc (.cells MC 341)) := by
  obtain ⟨i0, hi, hz0, hz1, hz2⟩ := info_parts Tryz.info341
  refine ⟨_, rfl, fun W => ?_⟩
  have h := run_make (P := Tryz.prog) W 240 341 i0 (.int .i64 0) Tryz.underlying240 hi hz0 .i64 .i64 N N (by omega) (by omega) (by rw [hz2]; omega) (by omega)
  rw [hz1] at h
  simp only [Int.toNat_natCast, Nat.mul_one] at h
  rw [made_marks] at h
  exact h

set_option maxRecDepth 100000 in
set_option maxHeartbeats 2000000 in
theorem endless_any {w : World} {bs g cap : Nat} {cur : Array Value} {st st' : Tw.SS} (h : RowAt w bs g cap cur st) {fuel : Nat} {b : Bool} (hf : Tw.endlessS fuel st = some (b, st')) :
    Calls Tryz.prog 54 #[.pointer (some ⟨bs, 0, none⟩)] w fun e w' => e = .returned (.bool b) ∧ UK bs g w w' ∧ ∃ cur', RowAt w' bs g cap cur' st' := by
  obtain ⟨s0, _, _, _⟩ := two_cells h.solver
  have zb := (Array.getElem?_eq_some_iff.1 h.solver).1
  have zg := (Array.getElem?_eq_some_iff.1 h.row).1
  have hm := h.many
  obtain ⟨MC, hMC, hmk⟩ := make_marks st.shs.length hm
  have HMC := hide hMC
  have HH : Hid (RowAt w bs g cap cur st) := h
  have HF : Hid (Tw.endlessFrom fuel (st.shs.length + 1) st (List.replicate st.shs.length 0) 0 st.shs.length = some (b, st')) := hf
  generalize hN : st.shs.length = N at *
  have HN := hide hN
  clear h hf hMC hN
  go_enter Tryz.func54, Tryz.ntmps54
  go_wp2_with fail
  go_loopg [16] (N + 1) (fun k iv wr => ∃ (q : Nat) (stk : Tw.SS) (mkk : List Int) (curk : Array Value), iv = .int .i64 q ∧ q ≤ N ∧ mkk.length = N ∧ Hid (RowAt wr bs g cap curk stk) ∧ Hid (MarksAt wr w.heap.size mkk) ∧ Hid (HK bs g w.heap.size (w.alloc (.cells MC 341)) wr) ∧ Hid (Tw.endlessFrom fuel k stk mkk q N = some (b, st')))
  case atStart => exact ⟨0, st, List.replicate N 0, cur, rfl, by omega, by simp, HH.out.grown (World.grownBy_alloc _ _ none), by show _ = _; rw [new_block]; rw [unhide HMC], HK.of_none (grown_refl _), HF⟩
  case round =>
    obtain ⟨q, stk, mkk, curk, rfl, hq, hml, PR, MR, KR, HR⟩ := hrel
    cases gk with
    | zero => have := HR.out; simp [Tw.endlessFrom] at this
    | succ k =>
    have HR2 := HR.out
    rw [Tw.endlessFrom] at HR2
    clear HR HF
    by_cases hlt : q < N
    · rw [if_pos hlt] at HR2
      obtain ⟨⟨b1, st1, mk1⟩, h1, hf1⟩ := Option.bind_eq_some_iff.1 HR2
      simp only at hf1
      have Q := holds_any fuel PR.out MR.out (by omega) (by omega) (by omega) h1
      rw [hml] at Q
      have hl1 := holds_len fuel h1
      clear HR2 h1
      cases hb1 : b1
      · rw [hb1] at hf1
        simp only [Bool.false_eq_true, if_false] at hf1
        have HF := hide hf1
        subst hb1
        clear hf1
        go_wp2_with fail
        refine Q.mono ?_
        rintro e1 w1 ⟨rfl, hk, ⟨cur1, hR⟩, hM⟩
        have P1 : Hid (RowAt w1 bs g cap cur1 st1) := hR
        have M1 : Hid (MarksAt w1 w.heap.size mk1) := hM
        have K1 := hide (KR.out.trans hk)
        clear hk hR hM Q
        go_wp2_with fail
        go_roundg k
        case measure => omega
        case rel => exact ⟨q + 1, st1, mk1, cur1, by go_num, by omega, by omega, P1, M1, K1, HF⟩
      · rw [hb1] at hf1
        simp only [if_true, Option.some.injEq, Prod.mk.injEq] at hf1
        obtain ⟨rfl, rfl⟩ := hf1
        subst hb1
        go_wp2_with fail
        refine Q.mono ?_
        rintro e1 w1 ⟨rfl, hk, ⟨cur1, hR⟩, hM⟩
        have X : Hid (HK bs g w.heap.size (w.alloc (.cells MC 341)) w1 ∧ RowAt w1 bs g cap cur1 st1) := ⟨KR.out.trans hk, hR⟩
        clear hk hR hM Q
        go_wp2_with fail
        go_ret
        go_light
        refine ⟨rfl, ⟨X.out.1.os, X.out.1.tape, X.out.1.output, by have := X.out.1.size; simp at this; omega, fun i hi h1 h2 => ?_⟩, cur1, X.out.2⟩
        rw [X.out.1.block i (by simp; omega) h1 h2 (by omega)]
        exact Below.heap_alloc w _ i hi
    · rw [if_neg hlt] at HR2
      simp only [Option.some.injEq, Prod.mk.injEq] at HR2
      obtain ⟨rfl, rfl⟩ := HR2
      go_wp2_with fail
      go_ret
      go_light
      refine ⟨rfl, ⟨KR.out.os, KR.out.tape, KR.out.output, by have := KR.out.size; simp at this; omega, fun i hi h1 h2 => ?_⟩, curk, PR.out⟩
      rw [KR.out.block i (by simp; omega) h1 h2 (by omega)]
      exact Below.heap_alloc w _ i hi

set_option maxRecDepth 100000 in
set_option maxHeartbeats 1000000 in
theorem newSolver_any (w : World) :
    Calls Tryz.prog 52 #[] w fun e w' => e = .returned (.pointer (some ⟨w.heap.size, 0, none⟩)) ∧ w.grownBy w' none ∧ Sol w' w.heap.size ⟨[⟨1, 0, 0, 0⟩, ⟨2, 0, 0, 1⟩], false⟩ := by
  have S0 : Hid (SolAt (w.alloc (.cells #[.slice none 0 0, .bool false] 128)) w.heap.size (.slice none 0 0) ⟨[], false⟩) :=
    ⟨new_block w _, World.ownsRow_nil _ _ _ _, by simp [Value.ownBlock], by simp⟩
  go_enter Tryz.func52, Tryz.ntmps52
  go_wp2_with fail
  refine (add_any S0.out 1 0 0 (n := 0) (st' := ⟨[⟨1, 0, 0, 0⟩], false⟩) rfl).mono ?_
  rintro e1 w1 ⟨rfl, hk, v1, hS⟩
  have S1 : Hid (SolAt w1 w.heap.size v1 ⟨[⟨1, 0, 0, 0⟩], false⟩) := hS
  have K1 := hide hk
  clear hk hS
  go_wp2_with fail
  refine (add_any S1.out 2 0 0 (n := 1) (st' := ⟨[⟨1, 0, 0, 0⟩, ⟨2, 0, 0, 1⟩], false⟩) rfl).mono ?_
  rintro e1 w2 ⟨rfl, hk, v2, hS⟩
  have S2 : Hid (SolAt w2 w.heap.size v2 ⟨[⟨1, 0, 0, 0⟩, ⟨2, 0, 0, 1⟩], false⟩) := hS
  have K2 := hide ((unhide K1).trans hk)
  clear hk hS
  go_wp2_with fail
  go_ret
  go_light
  refine ⟨rfl, ?_, ?_⟩
  · have K := unhide K2
    exact ⟨K.os, K.tape, K.output, by have := K.size; simp at this; omega, fun i hi _ => by
      rw [K.block i (by simp; omega) (by omega) (.inl hi)]; exact Below.heap_alloc w _ i hi⟩
  · obtain ⟨g, cap, cur, _, hR⟩ := S2.out.row (by simp)
    exact ⟨g, cap, cur, hR⟩

end Go.Proofs.YtckhafpejefbbaaGreatDoor

/- Weights as plain functions. -/
namespace Go.Proofs.YtckhafpejefbbaaGreatDoor.Tw
open Go

inductive WEn where
  | nil
  | cons (name : List UInt8) (k : Nat) (o : WEn)

def WEn.look : WEn → List UInt8 → Option Nat
  | .nil, _ => none
  | .cons n k o, x => if n = x then some k else o.look x

def WEn.size : WEn → Nat
  | .nil => 0
  | .cons _ _ o => o.size + 1

def weightS : T → WEn → Option Nat
  | .name _ _ x, e => (e.look x).bind fun k => some (min k 2001)
  | .int _ _ _, _ => some 1
  | .truth _ _ _, _ => some 1
  | .side _ _ _, _ => some 1
  | .bracket _ _ i, e => (weightS i e).bind fun a => some (min (1 + a) 2001)
  | .pair _ _ l r, e => (weightS l e).bind fun a => (weightS r e).bind fun b => some (min (1 + a + b) 2001)
  | .call _ _ l r, e => (weightS l e).bind fun a => (weightS r e).bind fun b => some (min (1 + a + b) 2001)
  | .binary _ _ _ l r, e => (weightS l e).bind fun a => (weightS r e).bind fun b => some (min (1 + a + b) 2001)
  | .cond _ _ c t f, e => (weightS c e).bind fun a => (weightS t e).bind fun b => (weightS f e).bind fun d => some (min (1 + a + b + d) 2001)
  | .fn _ _ bn _ b, e => (weightS b (.cons bn 1 e)).bind fun a => some (min (1 + a) 2001)
  | .lett _ _ rc bn _ d b, e => (weightS d (if rc then .cons bn 1 e else e)).bind fun a => (weightS b (.cons bn a e)).bind fun c => some (min (1 + (a + c)) 2001)

end Go.Proofs.YtckhafpejefbbaaGreatDoor.Tw

/- The solver: what stands for a type; find; two types become one. -/
namespace Go.Proofs.YtckhafpejefbbaaGreatDoor.Tw
open Go

inductive Ty where
  | var (n : Nat)
  | int
  | bool
  | fn (a b : Ty)
  | pair (a b : Ty)
  deriving DecidableEq

inductive RootOf (st : SS) : Nat → Nat → Prop
  | here {r : Nat} {x : Sh} (h : st.shs[r]? = some x) (hs : x.same = r) : RootOf st r r
  | step {r p : Nat} {x : Sh} (h : st.shs[r]? = some x) (hs : x.same ≠ r) (hr : RootOf st x.same p) : RootOf st r p

def SS.eqv (st : SS) (a b : Nat) : Prop := ∃ p, RootOf st a p ∧ RootOf st b p

structure SS.Wf (st : SS) (f : Nat → Nat) : Prop where
  rank : ∀ (r : Nat) (x : Sh), st.shs[r]? = some x → x.same ≠ r → f x.same < f r
  range : ∀ (r : Nat) (x : Sh), st.shs[r]? = some x → x.same < st.shs.length ∧ x.left < st.shs.length ∧ x.right < st.shs.length
  sort : ∀ (r : Nat) (x : Sh), st.shs[r]? = some x → x.sort = 0 ∨ x.sort = 1 ∨ x.sort = 2 ∨ x.sort = 3 ∨ x.sort = 4
  leaf : ∀ (r : Nat) (x : Sh), st.shs[r]? = some x → x.sort ≠ 3 → x.sort ≠ 4 → x.left = 0 ∧ x.right = 0
  like : ∀ (r p : Nat) (x y : Sh), st.shs[r]? = some x → RootOf st r p → st.shs[p]? = some y → x.sort ≠ 0 → y.sort = x.sort

structure SS.Sim (st st' : SS) : Prop where
  len : st'.shs.length = st.shs.length
  clash : st'.clash = st.clash
  shape : ∀ (r : Nat) (x : Sh), st.shs[r]? = some x → ∃ y, st'.shs[r]? = some y ∧ y.sort = x.sort ∧ y.left = x.left ∧ y.right = x.right
  root : ∀ r p, RootOf st r p ↔ RootOf st' r p

end Go.Proofs.YtckhafpejefbbaaGreatDoor.Tw

/- The solver: unify. -/
namespace Go.Proofs.YtckhafpejefbbaaGreatDoor.Tw
open Go

def Sh.says (x : Sh) (v : Nat → Ty) (r : Nat) : Prop := (x.sort = 1 → v r = .int) ∧ (x.sort = 2 → v r = .bool) ∧ (x.sort = 3 → v r = .fn (v x.left) (v x.right)) ∧ (x.sort = 4 → v r = .pair (v x.left) (v x.right))

structure SS.sat (st : SS) (v : Nat → Ty) : Prop where
  clash : st.clash = false
  root : ∀ r p, RootOf st r p → v r = v p
  shape : ∀ (r : Nat) (x : Sh), st.shs[r]? = some x → x.says v r

structure Rel (R : Nat → Nat → Prop) : Prop where
  symm : ∀ {a b}, R a b → R b a
  trans : ∀ {a b c}, R a b → R b c → R a c

def SS.Closed (st : SS) (P : List (Nat × Nat)) : Prop := ∀ R : Nat → Nat → Prop, Rel R → (∀ a b, st.eqv a b → R a b) → (∀ q ∈ P, R q.1 q.2) →
  ∀ (r p : Nat) (x y : Sh), st.shs[r]? = some x → RootOf st r p → st.shs[p]? = some y → x.sort = 3 ∨ x.sort = 4 → R x.left y.left ∧ R x.right y.right

structure SS.Joins (st st' : SS) (a b : Nat) : Prop where
  len : st'.shs.length = st.shs.length
  clash : st'.clash = st.clash
  shape : ∀ (r : Nat) (x : Sh), st.shs[r]? = some x → ∃ y, st'.shs[r]? = some y ∧ y.sort = x.sort ∧ y.left = x.left ∧ y.right = x.right
  root : ∀ q p, RootOf st' q p ↔ (RootOf st q a ∧ p = b) ∨ (RootOf st q p ∧ p ≠ a)

structure UOk (st st' : SS) (a b : Nat) : Prop where
  wf : ∃ f, st'.Wf f
  len : st'.shs.length = st.shs.length
  clash : st'.clash = false → st.clash = false
  shape : ∀ (r : Nat) (x : Sh), st.shs[r]? = some x → ∃ y, st'.shs[r]? = some y ∧ y.sort = x.sort ∧ y.left = x.left ∧ y.right = x.right
  eqv : ∀ {x y}, st.eqv x y → st'.eqv x y
  one : st'.clash = false → st'.eqv a b
  sat : ∀ {v : Nat → Ty}, st.sat v → v a = v b → st'.sat v
  closed : ∀ {P}, st.Closed ((a, b) :: P) → st'.clash = false → st'.Closed P

end Go.Proofs.YtckhafpejefbbaaGreatDoor.Tw

/- Types of texts, by the document's rules; infer finds just these. -/
namespace Go.Proofs.YtckhafpejefbbaaGreatDoor.Tw
open Go

structure AOk (st st' : SS) (x : Sh) : Prop where
  wf : ∃ f, st'.Wf f
  len : st'.shs.length = st.shs.length + 1
  clash : st'.clash = st.clash
  old : ∀ (r : Nat) (y : Sh), st.shs[r]? = some y → st'.shs[r]? = some y
  sat : ∀ {v : Nat → Ty}, st'.sat v ↔ st.sat v ∧ x.says v st.shs.length
  closed : ∀ {P}, st.Closed P → st'.Closed P

inductive TEn where
  | nil
  | fix (name : List UInt8) (a : Ty) (o : TEn)
  | dfn (name : List UInt8) (t : T) (o : TEn)

def TEn.look : TEn → List UInt8 → Option (Ty ⊕ (T × TEn))
  | .nil, _ => none
  | .fix n a o, x => if n = x then some (.inl a) else o.look x
  | .dfn n t o, x => if n = x then some (.inr (t, o)) else o.look x

mutual
inductive Typ : T → TEn → Ty → Prop
  | name {fr to : Nat} {x : List UInt8} {e : TEn} {a : Ty} (h : e.look x = some (.inl a)) : Typ (.name fr to x) e a
  | use {fr to : Nat} {x : List UInt8} {e o : TEn} {t : T} {a : Ty} (h : e.look x = some (.inr (t, o))) (hd : DTyp t o a) : Typ (.name fr to x) e a
  | int {fr to : Nat} {v : Int} {e : TEn} : Typ (.int fr to v) e .int
  | truth {fr to : Nat} {b : Bool} {e : TEn} : Typ (.truth fr to b) e .bool
  | side {fr to : Nat} {b : Bool} {e : TEn} {a c : Ty} : Typ (.side fr to b) e (.fn (.pair a c) (if b then c else a))
  | bracket {fr to : Nat} {i : T} {e : TEn} {a : Ty} (h : Typ i e a) : Typ (.bracket fr to i) e a
  | pair {fr to : Nat} {l r : T} {e : TEn} {a b : Ty} (hl : Typ l e a) (hr : Typ r e b) : Typ (.pair fr to l r) e (.pair a b)
  | call {fr to : Nat} {f x : T} {e : TEn} {a b : Ty} (hf : Typ f e (.fn a b)) (hx : Typ x e a) : Typ (.call fr to f x) e b
  | binary {fr to : Nat} {s : Int} {l r : T} {e : TEn} (hl : Typ l e .int) (hr : Typ r e .int) : Typ (.binary fr to s l r) e (if s = 23 ∨ s = 15 then .bool else .int)
  | cond {fr to : Nat} {c t f : T} {e : TEn} {a : Ty} (hc : Typ c e .bool) (ht : Typ t e a) (hf : Typ f e a) : Typ (.cond fr to c t f) e a
  | fn {fr to bat : Nat} {bn : List UInt8} {b : T} {e : TEn} {a c : Ty} (h : Typ b (.fix bn a e) c) : Typ (.fn fr to bn bat b) e (.fn a c)
  | lett {fr to bat : Nat} {rc : Bool} {bn : List UInt8} {d b : T} {e : TEn} {a c : Ty} (hd : DTyp (.lett fr to rc bn bat d b) e a) (hb : Typ b (.dfn bn (.lett fr to rc bn bat d b) e) c) : Typ (.lett fr to rc bn bat d b) e c
inductive DTyp : T → TEn → Ty → Prop
  | plain {fr to bat : Nat} {bn : List UInt8} {d b : T} {e : TEn} {a : Ty} (h : Typ d e a) : DTyp (.lett fr to false bn bat d b) e a
  | recu {fr to bat : Nat} {bn : List UInt8} {d b : T} {e : TEn} {a : Ty} (h : Typ d (.fix bn a e) a) : DTyp (.lett fr to true bn bat d b) e a
end

def En.val (v : Nat → Ty) : En → TEn
  | .nil => .nil
  | .fix n r o => .fix n (v r) (o.val v)
  | .dfn n t o => .dfn n t (o.val v)

def Agree (n : Nat) (v v' : Nat → Ty) : Prop := ∀ r, r < n → v' r = v r

def SS.base (st : SS) : Prop := (∃ x, st.shs[0]? = some x ∧ x.sort = 1) ∧ ∃ x, st.shs[1]? = some x ∧ x.sort = 2

structure IOk (J : TEn → Ty → Prop) (e : En) (st st' : SS) (r k : Nat) : Prop where
  wf : ∃ f, st'.Wf f
  lt : r < st'.shs.length
  low : st.shs.length ≤ st'.shs.length
  high : st'.shs.length ≤ st.shs.length + k
  base : st'.base
  clash : st'.clash = false → st.clash = false
  closed : st.Closed [] → st'.clash = false → st'.Closed []
  sound : ∀ {v : Nat → Ty}, st'.sat v → st.sat v ∧ J (e.val v) (v r)
  complete : ∀ {v : Nat → Ty} {a : Ty}, st.sat v → J (e.val v) a → ∃ v', Agree st.shs.length v v' ∧ st'.sat v' ∧ v' r = a

end Go.Proofs.YtckhafpejefbbaaGreatDoor.Tw

/- infer finds the types that there are: its steps. -/
namespace Go.Proofs.YtckhafpejefbbaaGreatDoor.Tw
open Go

end Go.Proofs.YtckhafpejefbbaaGreatDoor.Tw

/- infer finds the types that there are, of every tree that is not too heavy. -/
namespace Go.Proofs.YtckhafpejefbbaaGreatDoor.Tw
open Go

end Go.Proofs.YtckhafpejefbbaaGreatDoor.Tw

/- endless: types that end; what a type is. -/
namespace Go.Proofs.YtckhafpejefbbaaGreatDoor.Tw
open Go

inductive FinT (st : SS) : Nat → Ty → Prop
  | var {r p : Nat} {x : Sh} (hr : RootOf st r p) (hx : st.shs[p]? = some x) (hs : x.sort = 0) : FinT st r (.var p)
  | int {r p : Nat} {x : Sh} (hr : RootOf st r p) (hx : st.shs[p]? = some x) (hs : x.sort = 1) : FinT st r .int
  | bool {r p : Nat} {x : Sh} (hr : RootOf st r p) (hx : st.shs[p]? = some x) (hs : x.sort = 2) : FinT st r .bool
  | fn {r p : Nat} {x : Sh} {a b : Ty} (hr : RootOf st r p) (hx : st.shs[p]? = some x) (hs : x.sort = 3) (ha : FinT st x.left a) (hb : FinT st x.right b) : FinT st r (.fn a b)
  | pair {r p : Nat} {x : Sh} {a b : Ty} (hr : RootOf st r p) (hx : st.shs[p]? = some x) (hs : x.sort = 4) (ha : FinT st x.left a) (hb : FinT st x.right b) : FinT st r (.pair a b)

structure Marks (st : SS) (mk : List Int) : Prop where
  len : mk.length = st.shs.length
  val : ∀ (p : Nat) (m : Int), mk[p]? = some m → m = 0 ∨ m = 1 ∨ m = 2
  done : ∀ p : Nat, mk[p]? = some 2 → ∃ a, FinT st p a

def zeros (mk : List Int) : Nat := mk.countP (· == 0)

structure HOk (st : SS) (mk : List Int) (r : Nat) (b : Bool) (st' : SS) (mk' : List Int) : Prop where
  sim : st.Sim st'
  yes : b = true → ∀ v : Nat → Ty, ¬ st.sat v
  no : b = false → (∃ a, FinT st r a) ∧ Marks st mk' ∧ (∀ p : Nat, mk'[p]? = some 1 ↔ mk[p]? = some 1) ∧ zeros mk' ≤ zeros mk

end Go.Proofs.YtckhafpejefbbaaGreatDoor.Tw

/- Package scope at int; tree.parts. -/
namespace Go.Proofs.YtckhafpejefbbaaGreatDoor
open Go.RowKit

def WAt (w : World) : Tw.WEn → Value → Prop
  | .nil, v => v = .pointer none
  | .cons n k o, v => ∃ b vo, v = .pointer (some ⟨b, 0, none⟩) ∧ w.heap[b]? = some (.cells #[bytesV n, .int .i64 k, vo] 360 (0, 0)) ∧ WAt w o vo

theorem WAt.grown {w w' : World} (hk : w.grownBy w' none) : ∀ {e : Tw.WEn} {v : Value}, WAt w e v → WAt w' e v
  | .nil, _, h => h
  | .cons .., _, ⟨b, vo, hv, hb, ho⟩ => ⟨b, vo, hv, (hk.block b (Array.getElem?_eq_some_iff.1 hb).1 (by simp)).trans hb, WAt.grown hk ho⟩

theorem WAt.ptr {w : World} {e : Tw.WEn} {v : Value} (h : WAt w e v) : ∃ a, v = .pointer a := by
  cases e with
  | nil => exact ⟨none, h⟩
  | cons => obtain ⟨b, _, hv, _⟩ := h; exact ⟨_, hv⟩

set_option maxRecDepth 100000 in
set_option maxHeartbeats 1000000 in
theorem withW_any {w : World} {e : Tw.WEn} {v : Value} (he : WAt w e v) (n : List UInt8) (k : Nat) :
    Calls Tryz.prog 164 #[v, bytesV n, .int .i64 k] w fun r w' => ∃ a, r = .returned (.pointer a) ∧ w.grownBy w' none ∧ WAt w' (.cons n k e) (.pointer a) := by
  have HE : Hid (WAt w e v) := he
  obtain ⟨a, rfl⟩ := he.ptr
  clear he
  go_enter Tryz.func164, Tryz.ntmps164
  go_wp2_with fail
  go_ret
  exact ⟨_, rfl, World.grownBy_alloc _ _ none, _, _, rfl, new_block w _, HE.out.grown (World.grownBy_alloc _ _ none)⟩

set_option maxRecDepth 100000 in
set_option maxHeartbeats 2000000 in
theorem findW_any {w : World} {e : Tw.WEn} {v : Value} (he : WAt w e v) (x : List UInt8) {k : Nat} (hm : e.look x = some k) :
    Calls Tryz.prog 163 #[v, bytesV x] w fun r w' => r = .returned (.tuple #[.int .i64 k, .bool true]) ∧ w = w' := by
  have HE : Hid (WAt w e v) := he
  have HM : Hid (e.look x = some k) := hm
  clear he hm
  go_enter Tryz.func163, Tryz.ntmps163
  go_wp2_with fail
  go_loopg [0] e.size (fun j pv wr => wr = w ∧ ∃ ek : Tw.WEn, j = ek.size ∧ Hid (WAt w ek pv) ∧ Hid (ek.look x = some k))
  case atStart => exact ⟨rfl, e, rfl, HE, HM⟩
  case round =>
    obtain ⟨hw, ek, hks, HK, HL⟩ := hrel
    subst hw
    cases ek with
    | nil => have := HL.out; simp [Tw.WEn.look] at this
    | cons n r o =>
      obtain ⟨b, vo, hv, hb, ho⟩ := HK.out
      obtain ⟨a, rfl⟩ := ho.ptr
      subst hv
      obtain ⟨c0, c1, c2, _⟩ := three_cells hb
      have HO : Hid (WAt wr o (.pointer a)) := ho
      have hl := HL.out
      simp only [Tw.WEn.look] at hl
      clear HK HL hb ho HE HM
      by_cases hn : n = x
      · rw [if_pos hn] at hl
        simp only [Option.some.injEq] at hl
        subst hl
        have be : (n == x) = true := by simp [hn]
        clear hn
        go_wp2_with fail
        go_ret2
        exact ⟨rfl, rfl⟩
      · rw [if_neg hn] at hl
        have be : (n == x) = false := by simp [hn]
        have HL : Hid (o.look x = some k) := hl
        clear hn hl
        go_wp2_with fail
        go_roundg o.size
        case measure => simp [Tw.WEn.size] at hks; omega
        case rel => exact ⟨rfl, o, rfl, HO, HL⟩

end Go.Proofs.YtckhafpejefbbaaGreatDoor

/- tree.parts. -/
namespace Go.Proofs.YtckhafpejefbbaaGreatDoor
open Go.RowKit

def kidCells (l : List Value) : Array Value := l.toArray

def PartsPost (w : World) (l : List Value) (e : Ending) (w' : World) : Prop := w.grownBy w' none ∧
  ((l = [] ∧ e = .returned (.slice none 0 0)) ∨ ∃ k, e = .returned (.slice (some ⟨k, 0, none⟩) l.length l.length) ∧ w'.heap[k]? = some (.cells (kidCells l) 68 (0, 0)))

set_option maxRecDepth 100000 in
set_option maxHeartbeats 2000000 in
theorem parts_Int (w : World) (b : Nat) :
    Calls Tryz.prog 162 #[.iface 191 (.pointer (some ⟨b, 0, none⟩))] w (PartsPost w []) := by
  have q0 := ta_Int_Bracket
  have q1 := ta_Int_Pair
  have q2 := ta_Int_Call
  have q3 := ta_Int_Binary
  have q4 := ta_Int_If
  have q5 := ta_Int_Fun
  have q6 := ta_Int_Let
  go_enter Tryz.func162, Tryz.ntmps162
  go_wp2_with fail
  go_ret
  exact ⟨grown_refl _, .inl ⟨rfl, rfl⟩⟩

set_option maxRecDepth 100000 in
set_option maxHeartbeats 2000000 in
theorem parts_Truth (w : World) (b : Nat) :
    Calls Tryz.prog 162 #[.iface 195 (.pointer (some ⟨b, 0, none⟩))] w (PartsPost w []) := by
  have q0 := ta_Truth_Bracket
  have q1 := ta_Truth_Pair
  have q2 := ta_Truth_Call
  have q3 := ta_Truth_Binary
  have q4 := ta_Truth_If
  have q5 := ta_Truth_Fun
  have q6 := ta_Truth_Let
  go_enter Tryz.func162, Tryz.ntmps162
  go_wp2_with fail
  go_ret
  exact ⟨grown_refl _, .inl ⟨rfl, rfl⟩⟩

set_option maxRecDepth 100000 in
set_option maxHeartbeats 2000000 in
theorem parts_Side (w : World) (b : Nat) :
    Calls Tryz.prog 162 #[.iface 199 (.pointer (some ⟨b, 0, none⟩))] w (PartsPost w []) := by
  have q0 := ta_Side_Bracket
  have q1 := ta_Side_Pair
  have q2 := ta_Side_Call
  have q3 := ta_Side_Binary
  have q4 := ta_Side_If
  have q5 := ta_Side_Fun
  have q6 := ta_Side_Let
  go_enter Tryz.func162, Tryz.ntmps162
  go_wp2_with fail
  go_ret
  exact ⟨grown_refl _, .inl ⟨rfl, rfl⟩⟩

set_option maxRecDepth 100000 in
set_option maxHeartbeats 2000000 in
theorem parts_Bracket {w : World} {b : Nat} {fr to : Nat} {v1 : Value} (h0 : ∃ T n, v1 = .iface T (.pointer (some ⟨n, 0, none⟩))) (hb : w.heap[b]? = some (.cells #[.int .i64 fr, .int .i64 to, v1] 206 (0, 0))) :
    Calls Tryz.prog 162 #[.iface 204 (.pointer (some ⟨b, 0, none⟩))] w (PartsPost w [v1]) := by
  obtain ⟨T0, n0, rfl⟩ := h0
  have c0 : w.cell? ⟨b, 2, none⟩ = some (.iface T0 (.pointer (some ⟨n0, 0, none⟩))) := by rw [cell_of_row _ _ _ _ _ _ hb]; rfl
  have q0 := ta_Bracket_Bracket
  have q1 := ta_Bracket_Pair
  have q2 := ta_Bracket_Call
  have q3 := ta_Bracket_Binary
  have q4 := ta_Bracket_If
  have q5 := ta_Bracket_Fun
  have q6 := ta_Bracket_Let
  clear hb
  go_enter Tryz.func162, Tryz.ntmps162
  go_wp2_with fail
  go_ret
  exact ⟨World.grownBy_alloc _ _ none, .inr ⟨_, rfl, new_block w _⟩⟩

set_option maxRecDepth 100000 in
set_option maxHeartbeats 2000000 in
theorem parts_Pair {w : World} {b : Nat} {fr to : Nat} {v1 : Value} {v2 : Value} (h0 : ∃ T n, v1 = .iface T (.pointer (some ⟨n, 0, none⟩))) (h1 : ∃ T n, v2 = .iface T (.pointer (some ⟨n, 0, none⟩))) (hb : w.heap[b]? = some (.cells #[.int .i64 fr, .int .i64 to, v1, v2] 229 (0, 0))) :
    Calls Tryz.prog 162 #[.iface 207 (.pointer (some ⟨b, 0, none⟩))] w (PartsPost w [v1, v2]) := by
  obtain ⟨T0, n0, rfl⟩ := h0
  obtain ⟨T1, n1, rfl⟩ := h1
  have c0 : w.cell? ⟨b, 2, none⟩ = some (.iface T0 (.pointer (some ⟨n0, 0, none⟩))) := by rw [cell_of_row _ _ _ _ _ _ hb]; rfl
  have c1 : w.cell? ⟨b, 3, none⟩ = some (.iface T1 (.pointer (some ⟨n1, 0, none⟩))) := by rw [cell_of_row _ _ _ _ _ _ hb]; rfl
  have q0 := ta_Pair_Bracket
  have q1 := ta_Pair_Pair
  have q2 := ta_Pair_Call
  have q3 := ta_Pair_Binary
  have q4 := ta_Pair_If
  have q5 := ta_Pair_Fun
  have q6 := ta_Pair_Let
  clear hb
  go_enter Tryz.func162, Tryz.ntmps162
  go_wp2_with fail
  go_region
  go_wp2_with fail
  go_ret
  exact ⟨grown_drew (World.grownBy_alloc _ _ none), .inr ⟨_, rfl, new_block w _⟩⟩

set_option maxRecDepth 100000 in
set_option maxHeartbeats 2000000 in
theorem parts_Call {w : World} {b : Nat} {fr to : Nat} {v1 : Value} {v2 : Value} (h0 : ∃ T n, v1 = .iface T (.pointer (some ⟨n, 0, none⟩))) (h1 : ∃ T n, v2 = .iface T (.pointer (some ⟨n, 0, none⟩))) (hb : w.heap[b]? = some (.cells #[.int .i64 fr, .int .i64 to, v1, v2] 319 (0, 0))) :
    Calls Tryz.prog 162 #[.iface 209 (.pointer (some ⟨b, 0, none⟩))] w (PartsPost w [v1, v2]) := by
  obtain ⟨T0, n0, rfl⟩ := h0
  obtain ⟨T1, n1, rfl⟩ := h1
  have c0 : w.cell? ⟨b, 2, none⟩ = some (.iface T0 (.pointer (some ⟨n0, 0, none⟩))) := by rw [cell_of_row _ _ _ _ _ _ hb]; rfl
  have c1 : w.cell? ⟨b, 3, none⟩ = some (.iface T1 (.pointer (some ⟨n1, 0, none⟩))) := by rw [cell_of_row _ _ _ _ _ _ hb]; rfl
  have q0 := ta_Call_Bracket
  have q1 := ta_Call_Pair
  have q2 := ta_Call_Call
  have q3 := ta_Call_Binary
  have q4 := ta_Call_If
  have q5 := ta_Call_Fun
  have q6 := ta_Call_Let
  clear hb
  go_enter Tryz.func162, Tryz.ntmps162
  go_wp2_with fail
  go_region
  go_wp2_with fail
  go_ret
  exact ⟨grown_drew (World.grownBy_alloc _ _ none), .inr ⟨_, rfl, new_block w _⟩⟩

set_option maxRecDepth 100000 in
set_option maxHeartbeats 2000000 in
theorem parts_Binary {w : World} {b : Nat} {fr to : Nat} {sg : Int} {v1 : Value} {v2 : Value} (h0 : ∃ T n, v1 = .iface T (.pointer (some ⟨n, 0, none⟩))) (h1 : ∃ T n, v2 = .iface T (.pointer (some ⟨n, 0, none⟩))) (hb : w.heap[b]? = some (.cells #[.int .i64 fr, .int .i64 to, .int .i64 sg, v1, v2] 322 (0, 0))) :
    Calls Tryz.prog 162 #[.iface 211 (.pointer (some ⟨b, 0, none⟩))] w (PartsPost w [v1, v2]) := by
  obtain ⟨T0, n0, rfl⟩ := h0
  obtain ⟨T1, n1, rfl⟩ := h1
  have c0 : w.cell? ⟨b, 3, none⟩ = some (.iface T0 (.pointer (some ⟨n0, 0, none⟩))) := by rw [cell_of_row _ _ _ _ _ _ hb]; rfl
  have c1 : w.cell? ⟨b, 4, none⟩ = some (.iface T1 (.pointer (some ⟨n1, 0, none⟩))) := by rw [cell_of_row _ _ _ _ _ _ hb]; rfl
  have q0 := ta_Binary_Bracket
  have q1 := ta_Binary_Pair
  have q2 := ta_Binary_Call
  have q3 := ta_Binary_Binary
  have q4 := ta_Binary_If
  have q5 := ta_Binary_Fun
  have q6 := ta_Binary_Let
  clear hb
  go_enter Tryz.func162, Tryz.ntmps162
  go_wp2_with fail
  go_region
  go_wp2_with fail
  go_ret
  exact ⟨grown_drew (World.grownBy_alloc _ _ none), .inr ⟨_, rfl, new_block w _⟩⟩

set_option maxRecDepth 100000 in
set_option maxHeartbeats 2000000 in
theorem parts_If {w : World} {b : Nat} {fr to : Nat} {v1 : Value} {v2 : Value} {v3 : Value} (h0 : ∃ T n, v1 = .iface T (.pointer (some ⟨n, 0, none⟩))) (h1 : ∃ T n, v2 = .iface T (.pointer (some ⟨n, 0, none⟩))) (h2 : ∃ T n, v3 = .iface T (.pointer (some ⟨n, 0, none⟩))) (hb : w.heap[b]? = some (.cells #[.int .i64 fr, .int .i64 to, v1, v2, v3] 326 (0, 0))) :
    Calls Tryz.prog 162 #[.iface 213 (.pointer (some ⟨b, 0, none⟩))] w (PartsPost w [v1, v2, v3]) := by
  obtain ⟨T0, n0, rfl⟩ := h0
  obtain ⟨T1, n1, rfl⟩ := h1
  obtain ⟨T2, n2, rfl⟩ := h2
  have c0 : w.cell? ⟨b, 2, none⟩ = some (.iface T0 (.pointer (some ⟨n0, 0, none⟩))) := by rw [cell_of_row _ _ _ _ _ _ hb]; rfl
  have c1 : w.cell? ⟨b, 3, none⟩ = some (.iface T1 (.pointer (some ⟨n1, 0, none⟩))) := by rw [cell_of_row _ _ _ _ _ _ hb]; rfl
  have c2 : w.cell? ⟨b, 4, none⟩ = some (.iface T2 (.pointer (some ⟨n2, 0, none⟩))) := by rw [cell_of_row _ _ _ _ _ _ hb]; rfl
  have q0 := ta_If_Bracket
  have q1 := ta_If_Pair
  have q2 := ta_If_Call
  have q3 := ta_If_Binary
  have q4 := ta_If_If
  have q5 := ta_If_Fun
  have q6 := ta_If_Let
  clear hb
  go_enter Tryz.func162, Tryz.ntmps162
  go_wp2_with fail
  go_region
  go_wp2_with fail
  go_ret
  exact ⟨grown_drew (World.grownBy_alloc _ _ none), .inr ⟨_, rfl, new_block w _⟩⟩

end Go.Proofs.YtckhafpejefbbaaGreatDoor

/- tree.weight. -/
namespace Go.Proofs.YtckhafpejefbbaaGreatDoor
open Go.RowKit

def WPost (w : World) (k : Nat) (r : Ending) (w' : World) : Prop := r = .returned (.int .i64 k) ∧ w.grownBy w' none

def KidSaid (w : World) (ev v : Value) (k : Nat) : Prop := ∀ W : World, w.grownBy W none → Calls Tryz.prog 87 #[v, ev] W (WPost W k)

def sumTo (ks : List Nat) (j : Nat) : Nat := (ks.take j).sum

theorem sumTo_succ (ks : List Nat) (j : Nat) (h : j < ks.length) : sumTo ks (j + 1) = sumTo ks j + ks[j] := by
  unfold sumTo
  rw [List.take_succ_eq_append_getElem h, List.sum_append]
  simp

theorem sumTo_le (ks : List Nat) (hk : ∀ k ∈ ks, k ≤ 2001) : ∀ j, sumTo ks j ≤ j * 2001 := by
  intro j
  induction j with
  | zero => simp [sumTo]
  | succ j ih =>
    by_cases h : j < ks.length
    · rw [sumTo_succ ks j h]
      have := hk ks[j] (List.getElem_mem h)
      omega
    · have : sumTo ks (j + 1) = sumTo ks j := by
        unfold sumTo
        rw [List.take_of_length_le (by omega), List.take_of_length_le (by omega)]
      omega

set_option maxRecDepth 100000 in
set_option maxHeartbeats 4000000 in
theorem weight_Int {w : World} {b : Nat} {ev : Value} {vs : List Value} {ks : List Nat} (hP : Calls Tryz.prog 162 #[.iface 191 (.pointer (some ⟨b, 0, none⟩))] w (PartsPost w vs)) (hea : ∃ a, ev = .pointer a)
    (hlen : vs.length = ks.length) (hl3 : ks.length ≤ 3) (hK : ∀ j (h1 : j < vs.length) (h2 : j < ks.length), (∃ T n, vs[j] = .iface T (.pointer (some ⟨n, 0, none⟩))) ∧ KidSaid w ev vs[j] ks[j]) (hks : ∀ k ∈ ks, k ≤ 2001) :
    Calls Tryz.prog 87 #[.iface 191 (.pointer (some ⟨b, 0, none⟩)), ev] w (WPost w (min (1 + ks.sum) 2001)) := by
  obtain ⟨a, rfl⟩ := hea
  have HP := hide hP
  have HK := hide hK
  have HB := hide (sumTo_le ks hks)
  have HSUM : Hid (sumTo ks ks.length = ks.sum) := by show _ = _; unfold sumTo; rw [List.take_length]
  generalize hR : min (1 + ks.sum) 2001 = R
  have HR := hide hR
  clear hR
  have q0 := ta_Int_Name
  have q1 := ta_Int_Fun
  have q2 := ta_Int_Let
  clear hP hK hks
  go_enter Tryz.func87, Tryz.ntmps87
  go_wp2_with fail
  refine (unhide HP).mono ?_
  rintro e1 w1 ⟨hg, hcase⟩
  have G1 : Hid (w.grownBy w1 none) := hg
  clear hg
  rcases hcase with ⟨rfl, rfl⟩ | ⟨k, rfl, hk⟩
  · have hk0 : ks = [] := by simpa using hlen.symm
    subst hk0
    go_wp2_with fail
    go_loopg [5, 18] 0 (fun j tot iv wr => tot = .int .i64 1 ∧ iv = .int .i64 0 ∧ wr = w1)
    case atStart => exact ⟨rfl, rfl, rfl⟩
    case round =>
      obtain ⟨rfl, rfl, rfl⟩ := hrel
      go_wp2_with fail
      all_goals
        go_ret
        go_light
        exact ⟨ret_int (by have := unhide HR; simp at this; omega), G1.out⟩
  · have C1 : Hid (w1.heap[k]? = some (.cells (kidCells vs) 68 (0, 0))) := hk
    clear hk
    have c65 : Tryz.prog.cellsOf 68 = 1 := by kernel_rfl
    obtain ⟨N, hV⟩ : ∃ N, vs.length = N := ⟨_, rfl⟩
    rw [hV]
    have HV := hide hV
    have hLN : N = ks.length := by omega
    have HLN := hide hLN
    have hN3 : N ≤ 3 := by omega
    clear hV hlen hLN
    go_wp2_with fail
    go_loopg [5, 18] N (fun j tot iv wr => ∃ q : Nat, j + q = N ∧ q ≤ N ∧ tot = .int .i64 ((1 + sumTo ks q : Nat) : Int) ∧ iv = .int .i64 q ∧ Hid (w1.grownBy wr none))
    case atStart => exact ⟨0, by omega, by omega, by simp [sumTo], rfl, grown_refl _⟩
    case round =>
      obtain ⟨q, hjq, hq, rfl, rfl, GR⟩ := hrel
      have hb := unhide HB q
      by_cases hlt : q < N
      · have h1 : q < vs.length := by rw [unhide HV]; exact hlt
        have h2 : q < ks.length := by rw [← unhide HLN]; exact hlt
        obtain ⟨⟨T, nn, hv⟩, hks⟩ := unhide HK q h1 h2
        rw [hv] at hks
        have hc : wr.cell? ⟨k, q, none⟩ = some (.iface T (.pointer (some ⟨nn, 0, none⟩))) := by
          rw [cell_of_row wr k _ _ _ _ ((GR.out.block k (Array.getElem?_eq_some_iff.1 C1.out).1 (by simp)).trans C1.out)]
          simp [kidCells, h1, hv]
        have hqi : (q : Int) < (N : Int) := by omega
        have KS := hide (hks wr (grown_trans G1.out GR.out))
        have hss := hide (sumTo_succ ks q h2)
        have hb2 := unhide HB (q + 1)
        rw [unhide hss] at hb2
        generalize ks[q] = kq at *
        generalize hsq : sumTo ks q = sq at *
        clear hks hv h1 h2 hsq
        go_wp2_with fail
        refine (unhide KS).mono ?_
        rintro e2 w2 ⟨rfl, hg⟩
        have G2 : Hid (w1.grownBy w2 none) := grown_trans GR.out hg
        clear hg
        go_wp2_with fail
        go_roundg (gk - 1)
        case measure => omega
        case rel => exact ⟨q + 1, by omega, by omega, val_int (by rw [unhide hss]; omega), by go_num, G2⟩
      · have hqN : q = N := by omega
        generalize hsq : sumTo ks q = sq at *
        have HSQ := hide hsq
        clear hsq
        have e1 := unhide HSQ
        rw [hqN, unhide HLN, HSUM.out] at e1
        have hr := unhide HR
        rw [e1] at hr
        have HR2 := hide hr
        clear e1 hr HR HSQ hqN
        go_wp2_with fail
        all_goals
          go_ret
          go_light
          refine ⟨ret_int ?_, grown_trans G1.out GR.out⟩
          have hr := unhide HR2
          omega

set_option maxRecDepth 100000 in
set_option maxHeartbeats 4000000 in
theorem weight_Truth {w : World} {b : Nat} {ev : Value} {vs : List Value} {ks : List Nat} (hP : Calls Tryz.prog 162 #[.iface 195 (.pointer (some ⟨b, 0, none⟩))] w (PartsPost w vs)) (hea : ∃ a, ev = .pointer a)
    (hlen : vs.length = ks.length) (hl3 : ks.length ≤ 3) (hK : ∀ j (h1 : j < vs.length) (h2 : j < ks.length), (∃ T n, vs[j] = .iface T (.pointer (some ⟨n, 0, none⟩))) ∧ KidSaid w ev vs[j] ks[j]) (hks : ∀ k ∈ ks, k ≤ 2001) :
    Calls Tryz.prog 87 #[.iface 195 (.pointer (some ⟨b, 0, none⟩)), ev] w (WPost w (min (1 + ks.sum) 2001)) := by
  obtain ⟨a, rfl⟩ := hea
  have HP := hide hP
  have HK := hide hK
  have HB := hide (sumTo_le ks hks)
  have HSUM : Hid (sumTo ks ks.length = ks.sum) := by show _ = _; unfold sumTo; rw [List.take_length]
  generalize hR : min (1 + ks.sum) 2001 = R
  have HR := hide hR
  clear hR
  have q0 := ta_Truth_Name
  have q1 := ta_Truth_Fun
  have q2 := ta_Truth_Let
  clear hP hK hks
  go_enter Tryz.func87, Tryz.ntmps87
  go_wp2_with fail
  refine (unhide HP).mono ?_
  rintro e1 w1 ⟨hg, hcase⟩
  have G1 : Hid (w.grownBy w1 none) := hg
  clear hg
  rcases hcase with ⟨rfl, rfl⟩ | ⟨k, rfl, hk⟩
  · have hk0 : ks = [] := by simpa using hlen.symm
    subst hk0
    go_wp2_with fail
    go_loopg [5, 18] 0 (fun j tot iv wr => tot = .int .i64 1 ∧ iv = .int .i64 0 ∧ wr = w1)
    case atStart => exact ⟨rfl, rfl, rfl⟩
    case round =>
      obtain ⟨rfl, rfl, rfl⟩ := hrel
      go_wp2_with fail
      all_goals
        go_ret
        go_light
        exact ⟨ret_int (by have := unhide HR; simp at this; omega), G1.out⟩
  · have C1 : Hid (w1.heap[k]? = some (.cells (kidCells vs) 68 (0, 0))) := hk
    clear hk
    have c65 : Tryz.prog.cellsOf 68 = 1 := by kernel_rfl
    obtain ⟨N, hV⟩ : ∃ N, vs.length = N := ⟨_, rfl⟩
    rw [hV]
    have HV := hide hV
    have hLN : N = ks.length := by omega
    have HLN := hide hLN
    have hN3 : N ≤ 3 := by omega
    clear hV hlen hLN
    go_wp2_with fail
    go_loopg [5, 18] N (fun j tot iv wr => ∃ q : Nat, j + q = N ∧ q ≤ N ∧ tot = .int .i64 ((1 + sumTo ks q : Nat) : Int) ∧ iv = .int .i64 q ∧ Hid (w1.grownBy wr none))
    case atStart => exact ⟨0, by omega, by omega, by simp [sumTo], rfl, grown_refl _⟩
    case round =>
      obtain ⟨q, hjq, hq, rfl, rfl, GR⟩ := hrel
      have hb := unhide HB q
      by_cases hlt : q < N
      · have h1 : q < vs.length := by rw [unhide HV]; exact hlt
        have h2 : q < ks.length := by rw [← unhide HLN]; exact hlt
        obtain ⟨⟨T, nn, hv⟩, hks⟩ := unhide HK q h1 h2
        rw [hv] at hks
        have hc : wr.cell? ⟨k, q, none⟩ = some (.iface T (.pointer (some ⟨nn, 0, none⟩))) := by
          rw [cell_of_row wr k _ _ _ _ ((GR.out.block k (Array.getElem?_eq_some_iff.1 C1.out).1 (by simp)).trans C1.out)]
          simp [kidCells, h1, hv]
        have hqi : (q : Int) < (N : Int) := by omega
        have KS := hide (hks wr (grown_trans G1.out GR.out))
        have hss := hide (sumTo_succ ks q h2)
        have hb2 := unhide HB (q + 1)
        rw [unhide hss] at hb2
        generalize ks[q] = kq at *
        generalize hsq : sumTo ks q = sq at *
        clear hks hv h1 h2 hsq
        go_wp2_with fail
        refine (unhide KS).mono ?_
        rintro e2 w2 ⟨rfl, hg⟩
        have G2 : Hid (w1.grownBy w2 none) := grown_trans GR.out hg
        clear hg
        go_wp2_with fail
        go_roundg (gk - 1)
        case measure => omega
        case rel => exact ⟨q + 1, by omega, by omega, val_int (by rw [unhide hss]; omega), by go_num, G2⟩
      · have hqN : q = N := by omega
        generalize hsq : sumTo ks q = sq at *
        have HSQ := hide hsq
        clear hsq
        have e1 := unhide HSQ
        rw [hqN, unhide HLN, HSUM.out] at e1
        have hr := unhide HR
        rw [e1] at hr
        have HR2 := hide hr
        clear e1 hr HR HSQ hqN
        go_wp2_with fail
        all_goals
          go_ret
          go_light
          refine ⟨ret_int ?_, grown_trans G1.out GR.out⟩
          have hr := unhide HR2
          omega

set_option maxRecDepth 100000 in
set_option maxHeartbeats 4000000 in
theorem weight_Side {w : World} {b : Nat} {ev : Value} {vs : List Value} {ks : List Nat} (hP : Calls Tryz.prog 162 #[.iface 199 (.pointer (some ⟨b, 0, none⟩))] w (PartsPost w vs)) (hea : ∃ a, ev = .pointer a)
    (hlen : vs.length = ks.length) (hl3 : ks.length ≤ 3) (hK : ∀ j (h1 : j < vs.length) (h2 : j < ks.length), (∃ T n, vs[j] = .iface T (.pointer (some ⟨n, 0, none⟩))) ∧ KidSaid w ev vs[j] ks[j]) (hks : ∀ k ∈ ks, k ≤ 2001) :
    Calls Tryz.prog 87 #[.iface 199 (.pointer (some ⟨b, 0, none⟩)), ev] w (WPost w (min (1 + ks.sum) 2001)) := by
  obtain ⟨a, rfl⟩ := hea
  have HP := hide hP
  have HK := hide hK
  have HB := hide (sumTo_le ks hks)
  have HSUM : Hid (sumTo ks ks.length = ks.sum) := by show _ = _; unfold sumTo; rw [List.take_length]
  generalize hR : min (1 + ks.sum) 2001 = R
  have HR := hide hR
  clear hR
  have q0 := ta_Side_Name
  have q1 := ta_Side_Fun
  have q2 := ta_Side_Let
  clear hP hK hks
  go_enter Tryz.func87, Tryz.ntmps87
  go_wp2_with fail
  refine (unhide HP).mono ?_
  rintro e1 w1 ⟨hg, hcase⟩
  have G1 : Hid (w.grownBy w1 none) := hg
  clear hg
  rcases hcase with ⟨rfl, rfl⟩ | ⟨k, rfl, hk⟩
  · have hk0 : ks = [] := by simpa using hlen.symm
    subst hk0
    go_wp2_with fail
    go_loopg [5, 18] 0 (fun j tot iv wr => tot = .int .i64 1 ∧ iv = .int .i64 0 ∧ wr = w1)
    case atStart => exact ⟨rfl, rfl, rfl⟩
    case round =>
      obtain ⟨rfl, rfl, rfl⟩ := hrel
      go_wp2_with fail
      all_goals
        go_ret
        go_light
        exact ⟨ret_int (by have := unhide HR; simp at this; omega), G1.out⟩
  · have C1 : Hid (w1.heap[k]? = some (.cells (kidCells vs) 68 (0, 0))) := hk
    clear hk
    have c65 : Tryz.prog.cellsOf 68 = 1 := by kernel_rfl
    obtain ⟨N, hV⟩ : ∃ N, vs.length = N := ⟨_, rfl⟩
    rw [hV]
    have HV := hide hV
    have hLN : N = ks.length := by omega
    have HLN := hide hLN
    have hN3 : N ≤ 3 := by omega
    clear hV hlen hLN
    go_wp2_with fail
    go_loopg [5, 18] N (fun j tot iv wr => ∃ q : Nat, j + q = N ∧ q ≤ N ∧ tot = .int .i64 ((1 + sumTo ks q : Nat) : Int) ∧ iv = .int .i64 q ∧ Hid (w1.grownBy wr none))
    case atStart => exact ⟨0, by omega, by omega, by simp [sumTo], rfl, grown_refl _⟩
    case round =>
      obtain ⟨q, hjq, hq, rfl, rfl, GR⟩ := hrel
      have hb := unhide HB q
      by_cases hlt : q < N
      · have h1 : q < vs.length := by rw [unhide HV]; exact hlt
        have h2 : q < ks.length := by rw [← unhide HLN]; exact hlt
        obtain ⟨⟨T, nn, hv⟩, hks⟩ := unhide HK q h1 h2
        rw [hv] at hks
        have hc : wr.cell? ⟨k, q, none⟩ = some (.iface T (.pointer (some ⟨nn, 0, none⟩))) := by
          rw [cell_of_row wr k _ _ _ _ ((GR.out.block k (Array.getElem?_eq_some_iff.1 C1.out).1 (by simp)).trans C1.out)]
          simp [kidCells, h1, hv]
        have hqi : (q : Int) < (N : Int) := by omega
        have KS := hide (hks wr (grown_trans G1.out GR.out))
        have hss := hide (sumTo_succ ks q h2)
        have hb2 := unhide HB (q + 1)
        rw [unhide hss] at hb2
        generalize ks[q] = kq at *
        generalize hsq : sumTo ks q = sq at *
        clear hks hv h1 h2 hsq
        go_wp2_with fail
        refine (unhide KS).mono ?_
        rintro e2 w2 ⟨rfl, hg⟩
        have G2 : Hid (w1.grownBy w2 none) := grown_trans GR.out hg
        clear hg
        go_wp2_with fail
        go_roundg (gk - 1)
        case measure => omega
        case rel => exact ⟨q + 1, by omega, by omega, val_int (by rw [unhide hss]; omega), by go_num, G2⟩
      · have hqN : q = N := by omega
        generalize hsq : sumTo ks q = sq at *
        have HSQ := hide hsq
        clear hsq
        have e1 := unhide HSQ
        rw [hqN, unhide HLN, HSUM.out] at e1
        have hr := unhide HR
        rw [e1] at hr
        have HR2 := hide hr
        clear e1 hr HR HSQ hqN
        go_wp2_with fail
        all_goals
          go_ret
          go_light
          refine ⟨ret_int ?_, grown_trans G1.out GR.out⟩
          have hr := unhide HR2
          omega

set_option maxRecDepth 100000 in
set_option maxHeartbeats 4000000 in
theorem weight_Bracket {w : World} {b : Nat} {ev : Value} {vs : List Value} {ks : List Nat} (hP : Calls Tryz.prog 162 #[.iface 204 (.pointer (some ⟨b, 0, none⟩))] w (PartsPost w vs)) (hea : ∃ a, ev = .pointer a)
    (hlen : vs.length = ks.length) (hl3 : ks.length ≤ 3) (hK : ∀ j (h1 : j < vs.length) (h2 : j < ks.length), (∃ T n, vs[j] = .iface T (.pointer (some ⟨n, 0, none⟩))) ∧ KidSaid w ev vs[j] ks[j]) (hks : ∀ k ∈ ks, k ≤ 2001) :
    Calls Tryz.prog 87 #[.iface 204 (.pointer (some ⟨b, 0, none⟩)), ev] w (WPost w (min (1 + ks.sum) 2001)) := by
  obtain ⟨a, rfl⟩ := hea
  have HP := hide hP
  have HK := hide hK
  have HB := hide (sumTo_le ks hks)
  have HSUM : Hid (sumTo ks ks.length = ks.sum) := by show _ = _; unfold sumTo; rw [List.take_length]
  generalize hR : min (1 + ks.sum) 2001 = R
  have HR := hide hR
  clear hR
  have q0 := ta_Bracket_Name
  have q1 := ta_Bracket_Fun
  have q2 := ta_Bracket_Let
  clear hP hK hks
  go_enter Tryz.func87, Tryz.ntmps87
  go_wp2_with fail
  refine (unhide HP).mono ?_
  rintro e1 w1 ⟨hg, hcase⟩
  have G1 : Hid (w.grownBy w1 none) := hg
  clear hg
  rcases hcase with ⟨rfl, rfl⟩ | ⟨k, rfl, hk⟩
  · have hk0 : ks = [] := by simpa using hlen.symm
    subst hk0
    go_wp2_with fail
    go_loopg [5, 18] 0 (fun j tot iv wr => tot = .int .i64 1 ∧ iv = .int .i64 0 ∧ wr = w1)
    case atStart => exact ⟨rfl, rfl, rfl⟩
    case round =>
      obtain ⟨rfl, rfl, rfl⟩ := hrel
      go_wp2_with fail
      all_goals
        go_ret
        go_light
        exact ⟨ret_int (by have := unhide HR; simp at this; omega), G1.out⟩
  · have C1 : Hid (w1.heap[k]? = some (.cells (kidCells vs) 68 (0, 0))) := hk
    clear hk
    have c65 : Tryz.prog.cellsOf 68 = 1 := by kernel_rfl
    obtain ⟨N, hV⟩ : ∃ N, vs.length = N := ⟨_, rfl⟩
    rw [hV]
    have HV := hide hV
    have hLN : N = ks.length := by omega
    have HLN := hide hLN
    have hN3 : N ≤ 3 := by omega
    clear hV hlen hLN
    go_wp2_with fail
    go_loopg [5, 18] N (fun j tot iv wr => ∃ q : Nat, j + q = N ∧ q ≤ N ∧ tot = .int .i64 ((1 + sumTo ks q : Nat) : Int) ∧ iv = .int .i64 q ∧ Hid (w1.grownBy wr none))
    case atStart => exact ⟨0, by omega, by omega, by simp [sumTo], rfl, grown_refl _⟩
    case round =>
      obtain ⟨q, hjq, hq, rfl, rfl, GR⟩ := hrel
      have hb := unhide HB q
      by_cases hlt : q < N
      · have h1 : q < vs.length := by rw [unhide HV]; exact hlt
        have h2 : q < ks.length := by rw [← unhide HLN]; exact hlt
        obtain ⟨⟨T, nn, hv⟩, hks⟩ := unhide HK q h1 h2
        rw [hv] at hks
        have hc : wr.cell? ⟨k, q, none⟩ = some (.iface T (.pointer (some ⟨nn, 0, none⟩))) := by
          rw [cell_of_row wr k _ _ _ _ ((GR.out.block k (Array.getElem?_eq_some_iff.1 C1.out).1 (by simp)).trans C1.out)]
          simp [kidCells, h1, hv]
        have hqi : (q : Int) < (N : Int) := by omega
        have KS := hide (hks wr (grown_trans G1.out GR.out))
        have hss := hide (sumTo_succ ks q h2)
        have hb2 := unhide HB (q + 1)
        rw [unhide hss] at hb2
        generalize ks[q] = kq at *
        generalize hsq : sumTo ks q = sq at *
        clear hks hv h1 h2 hsq
        go_wp2_with fail
        refine (unhide KS).mono ?_
        rintro e2 w2 ⟨rfl, hg⟩
        have G2 : Hid (w1.grownBy w2 none) := grown_trans GR.out hg
        clear hg
        go_wp2_with fail
        go_roundg (gk - 1)
        case measure => omega
        case rel => exact ⟨q + 1, by omega, by omega, val_int (by rw [unhide hss]; omega), by go_num, G2⟩
      · have hqN : q = N := by omega
        generalize hsq : sumTo ks q = sq at *
        have HSQ := hide hsq
        clear hsq
        have e1 := unhide HSQ
        rw [hqN, unhide HLN, HSUM.out] at e1
        have hr := unhide HR
        rw [e1] at hr
        have HR2 := hide hr
        clear e1 hr HR HSQ hqN
        go_wp2_with fail
        all_goals
          go_ret
          go_light
          refine ⟨ret_int ?_, grown_trans G1.out GR.out⟩
          have hr := unhide HR2
          omega

set_option maxRecDepth 100000 in
set_option maxHeartbeats 4000000 in
theorem weight_Pair {w : World} {b : Nat} {ev : Value} {vs : List Value} {ks : List Nat} (hP : Calls Tryz.prog 162 #[.iface 207 (.pointer (some ⟨b, 0, none⟩))] w (PartsPost w vs)) (hea : ∃ a, ev = .pointer a)
    (hlen : vs.length = ks.length) (hl3 : ks.length ≤ 3) (hK : ∀ j (h1 : j < vs.length) (h2 : j < ks.length), (∃ T n, vs[j] = .iface T (.pointer (some ⟨n, 0, none⟩))) ∧ KidSaid w ev vs[j] ks[j]) (hks : ∀ k ∈ ks, k ≤ 2001) :
    Calls Tryz.prog 87 #[.iface 207 (.pointer (some ⟨b, 0, none⟩)), ev] w (WPost w (min (1 + ks.sum) 2001)) := by
  obtain ⟨a, rfl⟩ := hea
  have HP := hide hP
  have HK := hide hK
  have HB := hide (sumTo_le ks hks)
  have HSUM : Hid (sumTo ks ks.length = ks.sum) := by show _ = _; unfold sumTo; rw [List.take_length]
  generalize hR : min (1 + ks.sum) 2001 = R
  have HR := hide hR
  clear hR
  have q0 := ta_Pair_Name
  have q1 := ta_Pair_Fun
  have q2 := ta_Pair_Let
  clear hP hK hks
  go_enter Tryz.func87, Tryz.ntmps87
  go_wp2_with fail
  refine (unhide HP).mono ?_
  rintro e1 w1 ⟨hg, hcase⟩
  have G1 : Hid (w.grownBy w1 none) := hg
  clear hg
  rcases hcase with ⟨rfl, rfl⟩ | ⟨k, rfl, hk⟩
  · have hk0 : ks = [] := by simpa using hlen.symm
    subst hk0
    go_wp2_with fail
    go_loopg [5, 18] 0 (fun j tot iv wr => tot = .int .i64 1 ∧ iv = .int .i64 0 ∧ wr = w1)
    case atStart => exact ⟨rfl, rfl, rfl⟩
    case round =>
      obtain ⟨rfl, rfl, rfl⟩ := hrel
      go_wp2_with fail
      all_goals
        go_ret
        go_light
        exact ⟨ret_int (by have := unhide HR; simp at this; omega), G1.out⟩
  · have C1 : Hid (w1.heap[k]? = some (.cells (kidCells vs) 68 (0, 0))) := hk
    clear hk
    have c65 : Tryz.prog.cellsOf 68 = 1 := by kernel_rfl
    obtain ⟨N, hV⟩ : ∃ N, vs.length = N := ⟨_, rfl⟩
    rw [hV]
    have HV := hide hV
    have hLN : N = ks.length := by omega
    have HLN := hide hLN
    have hN3 : N ≤ 3 := by omega
    clear hV hlen hLN
    go_wp2_with fail
    go_loopg [5, 18] N (fun j tot iv wr => ∃ q : Nat, j + q = N ∧ q ≤ N ∧ tot = .int .i64 ((1 + sumTo ks q : Nat) : Int) ∧ iv = .int .i64 q ∧ Hid (w1.grownBy wr none))
    case atStart => exact ⟨0, by omega, by omega, by simp [sumTo], rfl, grown_refl _⟩
    case round =>
      obtain ⟨q, hjq, hq, rfl, rfl, GR⟩ := hrel
      have hb := unhide HB q
      by_cases hlt : q < N
      · have h1 : q < vs.length := by rw [unhide HV]; exact hlt
        have h2 : q < ks.length := by rw [← unhide HLN]; exact hlt
        obtain ⟨⟨T, nn, hv⟩, hks⟩ := unhide HK q h1 h2
        rw [hv] at hks
        have hc : wr.cell? ⟨k, q, none⟩ = some (.iface T (.pointer (some ⟨nn, 0, none⟩))) := by
          rw [cell_of_row wr k _ _ _ _ ((GR.out.block k (Array.getElem?_eq_some_iff.1 C1.out).1 (by simp)).trans C1.out)]
          simp [kidCells, h1, hv]
        have hqi : (q : Int) < (N : Int) := by omega
        have KS := hide (hks wr (grown_trans G1.out GR.out))
        have hss := hide (sumTo_succ ks q h2)
        have hb2 := unhide HB (q + 1)
        rw [unhide hss] at hb2
        generalize ks[q] = kq at *
        generalize hsq : sumTo ks q = sq at *
        clear hks hv h1 h2 hsq
        go_wp2_with fail
        refine (unhide KS).mono ?_
        rintro e2 w2 ⟨rfl, hg⟩
        have G2 : Hid (w1.grownBy w2 none) := grown_trans GR.out hg
        clear hg
        go_wp2_with fail
        go_roundg (gk - 1)
        case measure => omega
        case rel => exact ⟨q + 1, by omega, by omega, val_int (by rw [unhide hss]; omega), by go_num, G2⟩
      · have hqN : q = N := by omega
        generalize hsq : sumTo ks q = sq at *
        have HSQ := hide hsq
        clear hsq
        have e1 := unhide HSQ
        rw [hqN, unhide HLN, HSUM.out] at e1
        have hr := unhide HR
        rw [e1] at hr
        have HR2 := hide hr
        clear e1 hr HR HSQ hqN
        go_wp2_with fail
        all_goals
          go_ret
          go_light
          refine ⟨ret_int ?_, grown_trans G1.out GR.out⟩
          have hr := unhide HR2
          omega

set_option maxRecDepth 100000 in
set_option maxHeartbeats 4000000 in
theorem weight_Call {w : World} {b : Nat} {ev : Value} {vs : List Value} {ks : List Nat} (hP : Calls Tryz.prog 162 #[.iface 209 (.pointer (some ⟨b, 0, none⟩))] w (PartsPost w vs)) (hea : ∃ a, ev = .pointer a)
    (hlen : vs.length = ks.length) (hl3 : ks.length ≤ 3) (hK : ∀ j (h1 : j < vs.length) (h2 : j < ks.length), (∃ T n, vs[j] = .iface T (.pointer (some ⟨n, 0, none⟩))) ∧ KidSaid w ev vs[j] ks[j]) (hks : ∀ k ∈ ks, k ≤ 2001) :
    Calls Tryz.prog 87 #[.iface 209 (.pointer (some ⟨b, 0, none⟩)), ev] w (WPost w (min (1 + ks.sum) 2001)) := by
  obtain ⟨a, rfl⟩ := hea
  have HP := hide hP
  have HK := hide hK
  have HB := hide (sumTo_le ks hks)
  have HSUM : Hid (sumTo ks ks.length = ks.sum) := by show _ = _; unfold sumTo; rw [List.take_length]
  generalize hR : min (1 + ks.sum) 2001 = R
  have HR := hide hR
  clear hR
  have q0 := ta_Call_Name
  have q1 := ta_Call_Fun
  have q2 := ta_Call_Let
  clear hP hK hks
  go_enter Tryz.func87, Tryz.ntmps87
  go_wp2_with fail
  refine (unhide HP).mono ?_
  rintro e1 w1 ⟨hg, hcase⟩
  have G1 : Hid (w.grownBy w1 none) := hg
  clear hg
  rcases hcase with ⟨rfl, rfl⟩ | ⟨k, rfl, hk⟩
  · have hk0 : ks = [] := by simpa using hlen.symm
    subst hk0
    go_wp2_with fail
    go_loopg [5, 18] 0 (fun j tot iv wr => tot = .int .i64 1 ∧ iv = .int .i64 0 ∧ wr = w1)
    case atStart => exact ⟨rfl, rfl, rfl⟩
    case round =>
      obtain ⟨rfl, rfl, rfl⟩ := hrel
      go_wp2_with fail
      all_goals
        go_ret
        go_light
        exact ⟨ret_int (by have := unhide HR; simp at this; omega), G1.out⟩
  · have C1 : Hid (w1.heap[k]? = some (.cells (kidCells vs) 68 (0, 0))) := hk
    clear hk
    have c65 : Tryz.prog.cellsOf 68 = 1 := by kernel_rfl
    obtain ⟨N, hV⟩ : ∃ N, vs.length = N := ⟨_, rfl⟩
    rw [hV]
    have HV := hide hV
    have hLN : N = ks.length := by omega
    have HLN := hide hLN
    have hN3 : N ≤ 3 := by omega
    clear hV hlen hLN
    go_wp2_with fail
    go_loopg [5, 18] N (fun j tot iv wr => ∃ q : Nat, j + q = N ∧ q ≤ N ∧ tot = .int .i64 ((1 + sumTo ks q : Nat) : Int) ∧ iv = .int .i64 q ∧ Hid (w1.grownBy wr none))
    case atStart => exact ⟨0, by omega, by omega, by simp [sumTo], rfl, grown_refl _⟩
    case round =>
      obtain ⟨q, hjq, hq, rfl, rfl, GR⟩ := hrel
      have hb := unhide HB q
      by_cases hlt : q < N
      · have h1 : q < vs.length := by rw [unhide HV]; exact hlt
        have h2 : q < ks.length := by rw [← unhide HLN]; exact hlt
        obtain ⟨⟨T, nn, hv⟩, hks⟩ := unhide HK q h1 h2
        rw [hv] at hks
        have hc : wr.cell? ⟨k, q, none⟩ = some (.iface T (.pointer (some ⟨nn, 0, none⟩))) := by
          rw [cell_of_row wr k _ _ _ _ ((GR.out.block k (Array.getElem?_eq_some_iff.1 C1.out).1 (by simp)).trans C1.out)]
          simp [kidCells, h1, hv]
        have hqi : (q : Int) < (N : Int) := by omega
        have KS := hide (hks wr (grown_trans G1.out GR.out))
        have hss := hide (sumTo_succ ks q h2)
        have hb2 := unhide HB (q + 1)
        rw [unhide hss] at hb2
        generalize ks[q] = kq at *
        generalize hsq : sumTo ks q = sq at *
        clear hks hv h1 h2 hsq
        go_wp2_with fail
        refine (unhide KS).mono ?_
        rintro e2 w2 ⟨rfl, hg⟩
        have G2 : Hid (w1.grownBy w2 none) := grown_trans GR.out hg
        clear hg
        go_wp2_with fail
        go_roundg (gk - 1)
        case measure => omega
        case rel => exact ⟨q + 1, by omega, by omega, val_int (by rw [unhide hss]; omega), by go_num, G2⟩
      · have hqN : q = N := by omega
        generalize hsq : sumTo ks q = sq at *
        have HSQ := hide hsq
        clear hsq
        have e1 := unhide HSQ
        rw [hqN, unhide HLN, HSUM.out] at e1
        have hr := unhide HR
        rw [e1] at hr
        have HR2 := hide hr
        clear e1 hr HR HSQ hqN
        go_wp2_with fail
        all_goals
          go_ret
          go_light
          refine ⟨ret_int ?_, grown_trans G1.out GR.out⟩
          have hr := unhide HR2
          omega

set_option maxRecDepth 100000 in
set_option maxHeartbeats 4000000 in
theorem weight_Binary {w : World} {b : Nat} {ev : Value} {vs : List Value} {ks : List Nat} (hP : Calls Tryz.prog 162 #[.iface 211 (.pointer (some ⟨b, 0, none⟩))] w (PartsPost w vs)) (hea : ∃ a, ev = .pointer a)
    (hlen : vs.length = ks.length) (hl3 : ks.length ≤ 3) (hK : ∀ j (h1 : j < vs.length) (h2 : j < ks.length), (∃ T n, vs[j] = .iface T (.pointer (some ⟨n, 0, none⟩))) ∧ KidSaid w ev vs[j] ks[j]) (hks : ∀ k ∈ ks, k ≤ 2001) :
    Calls Tryz.prog 87 #[.iface 211 (.pointer (some ⟨b, 0, none⟩)), ev] w (WPost w (min (1 + ks.sum) 2001)) := by
  obtain ⟨a, rfl⟩ := hea
  have HP := hide hP
  have HK := hide hK
  have HB := hide (sumTo_le ks hks)
  have HSUM : Hid (sumTo ks ks.length = ks.sum) := by show _ = _; unfold sumTo; rw [List.take_length]
  generalize hR : min (1 + ks.sum) 2001 = R
  have HR := hide hR
  clear hR
  have q0 := ta_Binary_Name
  have q1 := ta_Binary_Fun
  have q2 := ta_Binary_Let
  clear hP hK hks
  go_enter Tryz.func87, Tryz.ntmps87
  go_wp2_with fail
  refine (unhide HP).mono ?_
  rintro e1 w1 ⟨hg, hcase⟩
  have G1 : Hid (w.grownBy w1 none) := hg
  clear hg
  rcases hcase with ⟨rfl, rfl⟩ | ⟨k, rfl, hk⟩
  · have hk0 : ks = [] := by simpa using hlen.symm
    subst hk0
    go_wp2_with fail
    go_loopg [5, 18] 0 (fun j tot iv wr => tot = .int .i64 1 ∧ iv = .int .i64 0 ∧ wr = w1)
    case atStart => exact ⟨rfl, rfl, rfl⟩
    case round =>
      obtain ⟨rfl, rfl, rfl⟩ := hrel
      go_wp2_with fail
      all_goals
        go_ret
        go_light
        exact ⟨ret_int (by have := unhide HR; simp at this; omega), G1.out⟩
  · have C1 : Hid (w1.heap[k]? = some (.cells (kidCells vs) 68 (0, 0))) := hk
    clear hk
    have c65 : Tryz.prog.cellsOf 68 = 1 := by kernel_rfl
    obtain ⟨N, hV⟩ : ∃ N, vs.length = N := ⟨_, rfl⟩
    rw [hV]
    have HV := hide hV
    have hLN : N = ks.length := by omega
    have HLN := hide hLN
    have hN3 : N ≤ 3 := by omega
    clear hV hlen hLN
    go_wp2_with fail
    go_loopg [5, 18] N (fun j tot iv wr => ∃ q : Nat, j + q = N ∧ q ≤ N ∧ tot = .int .i64 ((1 + sumTo ks q : Nat) : Int) ∧ iv = .int .i64 q ∧ Hid (w1.grownBy wr none))
    case atStart => exact ⟨0, by omega, by omega, by simp [sumTo], rfl, grown_refl _⟩
    case round =>
      obtain ⟨q, hjq, hq, rfl, rfl, GR⟩ := hrel
      have hb := unhide HB q
      by_cases hlt : q < N
      · have h1 : q < vs.length := by rw [unhide HV]; exact hlt
        have h2 : q < ks.length := by rw [← unhide HLN]; exact hlt
        obtain ⟨⟨T, nn, hv⟩, hks⟩ := unhide HK q h1 h2
        rw [hv] at hks
        have hc : wr.cell? ⟨k, q, none⟩ = some (.iface T (.pointer (some ⟨nn, 0, none⟩))) := by
          rw [cell_of_row wr k _ _ _ _ ((GR.out.block k (Array.getElem?_eq_some_iff.1 C1.out).1 (by simp)).trans C1.out)]
          simp [kidCells, h1, hv]
        have hqi : (q : Int) < (N : Int) := by omega
        have KS := hide (hks wr (grown_trans G1.out GR.out))
        have hss := hide (sumTo_succ ks q h2)
        have hb2 := unhide HB (q + 1)
        rw [unhide hss] at hb2
        generalize ks[q] = kq at *
        generalize hsq : sumTo ks q = sq at *
        clear hks hv h1 h2 hsq
        go_wp2_with fail
        refine (unhide KS).mono ?_
        rintro e2 w2 ⟨rfl, hg⟩
        have G2 : Hid (w1.grownBy w2 none) := grown_trans GR.out hg
        clear hg
        go_wp2_with fail
        go_roundg (gk - 1)
        case measure => omega
        case rel => exact ⟨q + 1, by omega, by omega, val_int (by rw [unhide hss]; omega), by go_num, G2⟩
      · have hqN : q = N := by omega
        generalize hsq : sumTo ks q = sq at *
        have HSQ := hide hsq
        clear hsq
        have e1 := unhide HSQ
        rw [hqN, unhide HLN, HSUM.out] at e1
        have hr := unhide HR
        rw [e1] at hr
        have HR2 := hide hr
        clear e1 hr HR HSQ hqN
        go_wp2_with fail
        all_goals
          go_ret
          go_light
          refine ⟨ret_int ?_, grown_trans G1.out GR.out⟩
          have hr := unhide HR2
          omega

set_option maxRecDepth 100000 in
set_option maxHeartbeats 4000000 in
theorem weight_If {w : World} {b : Nat} {ev : Value} {vs : List Value} {ks : List Nat} (hP : Calls Tryz.prog 162 #[.iface 213 (.pointer (some ⟨b, 0, none⟩))] w (PartsPost w vs)) (hea : ∃ a, ev = .pointer a)
    (hlen : vs.length = ks.length) (hl3 : ks.length ≤ 3) (hK : ∀ j (h1 : j < vs.length) (h2 : j < ks.length), (∃ T n, vs[j] = .iface T (.pointer (some ⟨n, 0, none⟩))) ∧ KidSaid w ev vs[j] ks[j]) (hks : ∀ k ∈ ks, k ≤ 2001) :
    Calls Tryz.prog 87 #[.iface 213 (.pointer (some ⟨b, 0, none⟩)), ev] w (WPost w (min (1 + ks.sum) 2001)) := by
  obtain ⟨a, rfl⟩ := hea
  have HP := hide hP
  have HK := hide hK
  have HB := hide (sumTo_le ks hks)
  have HSUM : Hid (sumTo ks ks.length = ks.sum) := by show _ = _; unfold sumTo; rw [List.take_length]
  generalize hR : min (1 + ks.sum) 2001 = R
  have HR := hide hR
  clear hR
  have q0 := ta_If_Name
  have q1 := ta_If_Fun
  have q2 := ta_If_Let
  clear hP hK hks
  go_enter Tryz.func87, Tryz.ntmps87
  go_wp2_with fail
  refine (unhide HP).mono ?_
  rintro e1 w1 ⟨hg, hcase⟩
  have G1 : Hid (w.grownBy w1 none) := hg
  clear hg
  rcases hcase with ⟨rfl, rfl⟩ | ⟨k, rfl, hk⟩
  · have hk0 : ks = [] := by simpa using hlen.symm
    subst hk0
    go_wp2_with fail
    go_loopg [5, 18] 0 (fun j tot iv wr => tot = .int .i64 1 ∧ iv = .int .i64 0 ∧ wr = w1)
    case atStart => exact ⟨rfl, rfl, rfl⟩
    case round =>
      obtain ⟨rfl, rfl, rfl⟩ := hrel
      go_wp2_with fail
      all_goals
        go_ret
        go_light
        exact ⟨ret_int (by have := unhide HR; simp at this; omega), G1.out⟩
  · have C1 : Hid (w1.heap[k]? = some (.cells (kidCells vs) 68 (0, 0))) := hk
    clear hk
    have c65 : Tryz.prog.cellsOf 68 = 1 := by kernel_rfl
    obtain ⟨N, hV⟩ : ∃ N, vs.length = N := ⟨_, rfl⟩
    rw [hV]
    have HV := hide hV
    have hLN : N = ks.length := by omega
    have HLN := hide hLN
    have hN3 : N ≤ 3 := by omega
    clear hV hlen hLN
    go_wp2_with fail
    go_loopg [5, 18] N (fun j tot iv wr => ∃ q : Nat, j + q = N ∧ q ≤ N ∧ tot = .int .i64 ((1 + sumTo ks q : Nat) : Int) ∧ iv = .int .i64 q ∧ Hid (w1.grownBy wr none))
    case atStart => exact ⟨0, by omega, by omega, by simp [sumTo], rfl, grown_refl _⟩
    case round =>
      obtain ⟨q, hjq, hq, rfl, rfl, GR⟩ := hrel
      have hb := unhide HB q
      by_cases hlt : q < N
      · have h1 : q < vs.length := by rw [unhide HV]; exact hlt
        have h2 : q < ks.length := by rw [← unhide HLN]; exact hlt
        obtain ⟨⟨T, nn, hv⟩, hks⟩ := unhide HK q h1 h2
        rw [hv] at hks
        have hc : wr.cell? ⟨k, q, none⟩ = some (.iface T (.pointer (some ⟨nn, 0, none⟩))) := by
          rw [cell_of_row wr k _ _ _ _ ((GR.out.block k (Array.getElem?_eq_some_iff.1 C1.out).1 (by simp)).trans C1.out)]
          simp [kidCells, h1, hv]
        have hqi : (q : Int) < (N : Int) := by omega
        have KS := hide (hks wr (grown_trans G1.out GR.out))
        have hss := hide (sumTo_succ ks q h2)
        have hb2 := unhide HB (q + 1)
        rw [unhide hss] at hb2
        generalize ks[q] = kq at *
        generalize hsq : sumTo ks q = sq at *
        clear hks hv h1 h2 hsq
        go_wp2_with fail
        refine (unhide KS).mono ?_
        rintro e2 w2 ⟨rfl, hg⟩
        have G2 : Hid (w1.grownBy w2 none) := grown_trans GR.out hg
        clear hg
        go_wp2_with fail
        go_roundg (gk - 1)
        case measure => omega
        case rel => exact ⟨q + 1, by omega, by omega, val_int (by rw [unhide hss]; omega), by go_num, G2⟩
      · have hqN : q = N := by omega
        generalize hsq : sumTo ks q = sq at *
        have HSQ := hide hsq
        clear hsq
        have e1 := unhide HSQ
        rw [hqN, unhide HLN, HSUM.out] at e1
        have hr := unhide HR
        rw [e1] at hr
        have HR2 := hide hr
        clear e1 hr HR HSQ hqN
        go_wp2_with fail
        all_goals
          go_ret
          go_light
          refine ⟨ret_int ?_, grown_trans G1.out GR.out⟩
          have hr := unhide HR2
          omega

end Go.Proofs.YtckhafpejefbbaaGreatDoor
