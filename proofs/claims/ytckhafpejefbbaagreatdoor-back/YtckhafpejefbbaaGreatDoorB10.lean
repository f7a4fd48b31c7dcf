/- Texts of the proof, put together: Infer4, Infer5, Infer6, Infer7, EndlessTw, Endless, Endless2, Endless3, WeightTw, TyThy, TyThy2, TyThy3. -/
import Derived.Test.YtckhafpejefbbaaGreatDoorB09
import Derived.Test.YtckhafpejefbbaaGreatDoorB04

/- Package types: binary. -/
namespace Go.Proofs.YtckhafpejefbbaaGreatDoor
open Go.RowKit

set_option maxRecDepth 100000 in
set_option maxHeartbeats 2000000 in
theorem binary_less {n : Nat} (hI : InferSaid n) {w : World} {bs hi b : Nat} {st st' : Tw.SS} {e : Tw.En} {ev : Value} {l : Tw.T} {q : Tw.T} {v1 : Value} {v2 : Value} {sg : Int} (b23 : (sg == 23) = true) {fr to r : Nat} (h : Sol w bs st)
    (hb : w.heap[b]? = some (.cells #[.int .i64 fr, .int .i64 to, .int .i64 sg, v1, v2] 322 (0, 0))) (r0 : Rep w 0 hi l v1) (r1 : Rep w 0 hi q v2) (he : EnvAt w hi e ev) (hf : Tw.inferS (n + 1) (.binary fr to sg l q) e st = some (r, st')) :
    Calls Tryz.prog 101 #[.pointer (some ⟨bs, 0, none⟩), .pointer (some ⟨b, 0, none⟩), ev] w (IPost bs w r st') := by
  rw [Tw.inferS] at hf
  obtain ⟨⟨x1, st1⟩, h1, hf1⟩ := Option.bind_eq_some_iff.1 hf
  obtain ⟨st2, h2, hf2⟩ := Option.bind_eq_some_iff.1 hf1
  obtain ⟨⟨x3, st3⟩, h3, hf3⟩ := Option.bind_eq_some_iff.1 hf2
  obtain ⟨st4, h4, hf4⟩ := Option.bind_eq_some_iff.1 hf3
  simp only at h2 h3 h4
  simp only [Option.some.injEq, Prod.mk.injEq] at hf4
  obtain ⟨hr, rfl⟩ := hf4
  have HR := hide hr
  clear hr
  have S0 : Hid (Sol w bs st) := h
  have E0 : Hid (EnvAt w hi e ev) := he
  have B0 : Hid (w.heap[b]? = some (.cells #[.int .i64 fr, .int .i64 to, .int .i64 sg, v1, v2] 322 (0, 0))) := hb
  have R0l : Hid (Rep w 0 hi l v1) := r0
  have R0q : Hid (Rep w 0 hi q v2) := r1
  have H1 := hide h1
  have H2 := hide h2
  have H3 := hide h3
  have H4 := hide h4
  obtain ⟨T0, n0, rfl⟩ := r0.iface
  obtain ⟨T1, n1, rfl⟩ := r1.iface
  obtain ⟨ea, rfl⟩ := he.ptr
  have K0 : Hid (SK bs w w) := SK.refl _ _
  have c0 : w.cell? ⟨b, 3, none⟩ = some (.iface T0 (.pointer (some ⟨n0, 0, none⟩))) := by rw [cell_of_row _ _ _ _ _ _ B0.out]; rfl
  have c1 : w.cell? ⟨b, 4, none⟩ = some (.iface T1 (.pointer (some ⟨n1, 0, none⟩))) := by rw [cell_of_row _ _ _ _ _ _ B0.out]; rfl
  have c9 : w.cell? ⟨b, 2, none⟩ = some (.int .i64 sg) := by rw [cell_of_row _ _ _ _ _ _ B0.out]; rfl
  clear h he hb r0 r1 hf h1 h2 h3 h4 hf1 hf2 hf3
  go_enter Tryz.func101, Tryz.ntmps101
  go_wp2_with fail
  refine (hI S0.out R0l.out E0.out (unhide H1)).mono ?_
  rintro e1 w1 ⟨rfl, hk, hs⟩
  have S1 : Hid (Sol w1 bs st1) := hs
  have K1 : Hid (SK bs w w1) := K0.out.trans hk
  have E1 : Hid (EnvAt w1 hi e (.pointer ea)) := EnvAt.sk S0.out hk E0.out
  have B1 := hide (blk_sk S0.out hk B0.out rfl (by decide))
  have R1l := hide (Rep.sk S0.out hk R0l.out)
  have R1q := hide (Rep.sk S0.out hk R0q.out)
  clear c0 c1 c9
  have c0 : w1.cell? ⟨b, 3, none⟩ = some (.iface T0 (.pointer (some ⟨n0, 0, none⟩))) := by rw [cell_of_row _ _ _ _ _ _ B1.out]; rfl
  have c1 : w1.cell? ⟨b, 4, none⟩ = some (.iface T1 (.pointer (some ⟨n1, 0, none⟩))) := by rw [cell_of_row _ _ _ _ _ _ B1.out]; rfl
  have c9 : w1.cell? ⟨b, 2, none⟩ = some (.int .i64 sg) := by rw [cell_of_row _ _ _ _ _ _ B1.out]; rfl
  clear hk hs
  go_wp2_with fail
  refine (unify_sol S1.out (unhide H2)).mono ?_
  rintro e1 w2 ⟨rfl, hk, hs⟩
  have S2 : Hid (Sol w2 bs st2) := hs
  have K2 : Hid (SK bs w w2) := K1.out.trans hk
  have E2 : Hid (EnvAt w2 hi e (.pointer ea)) := EnvAt.sk S1.out hk E1.out
  have B2 := hide (blk_sk S1.out hk B1.out rfl (by decide))
  have R2l := hide (Rep.sk S1.out hk R1l.out)
  have R2q := hide (Rep.sk S1.out hk R1q.out)
  clear c0 c1 c9
  have c0 : w2.cell? ⟨b, 3, none⟩ = some (.iface T0 (.pointer (some ⟨n0, 0, none⟩))) := by rw [cell_of_row _ _ _ _ _ _ B2.out]; rfl
  have c1 : w2.cell? ⟨b, 4, none⟩ = some (.iface T1 (.pointer (some ⟨n1, 0, none⟩))) := by rw [cell_of_row _ _ _ _ _ _ B2.out]; rfl
  have c9 : w2.cell? ⟨b, 2, none⟩ = some (.int .i64 sg) := by rw [cell_of_row _ _ _ _ _ _ B2.out]; rfl
  clear hk hs
  go_wp2_with fail
  refine (hI S2.out R2q.out E2.out (unhide H3)).mono ?_
  rintro e1 w3 ⟨rfl, hk, hs⟩
  have S3 : Hid (Sol w3 bs st3) := hs
  have K3 : Hid (SK bs w w3) := K2.out.trans hk
  have E3 : Hid (EnvAt w3 hi e (.pointer ea)) := EnvAt.sk S2.out hk E2.out
  have B3 := hide (blk_sk S2.out hk B2.out rfl (by decide))
  have R3l := hide (Rep.sk S2.out hk R2l.out)
  have R3q := hide (Rep.sk S2.out hk R2q.out)
  clear c0 c1 c9
  have c0 : w3.cell? ⟨b, 3, none⟩ = some (.iface T0 (.pointer (some ⟨n0, 0, none⟩))) := by rw [cell_of_row _ _ _ _ _ _ B3.out]; rfl
  have c1 : w3.cell? ⟨b, 4, none⟩ = some (.iface T1 (.pointer (some ⟨n1, 0, none⟩))) := by rw [cell_of_row _ _ _ _ _ _ B3.out]; rfl
  have c9 : w3.cell? ⟨b, 2, none⟩ = some (.int .i64 sg) := by rw [cell_of_row _ _ _ _ _ _ B3.out]; rfl
  clear hk hs
  go_wp2_with fail
  refine (unify_sol S3.out (unhide H4)).mono ?_
  rintro e1 w4 ⟨rfl, hk, hs⟩
  have S4 : Hid (Sol w4 bs st4) := hs
  have K4 : Hid (SK bs w w4) := K3.out.trans hk
  have E4 : Hid (EnvAt w4 hi e (.pointer ea)) := EnvAt.sk S3.out hk E3.out
  have B4 := hide (blk_sk S3.out hk B3.out rfl (by decide))
  have R4l := hide (Rep.sk S3.out hk R3l.out)
  have R4q := hide (Rep.sk S3.out hk R3q.out)
  clear c0 c1 c9
  have c0 : w4.cell? ⟨b, 3, none⟩ = some (.iface T0 (.pointer (some ⟨n0, 0, none⟩))) := by rw [cell_of_row _ _ _ _ _ _ B4.out]; rfl
  have c1 : w4.cell? ⟨b, 4, none⟩ = some (.iface T1 (.pointer (some ⟨n1, 0, none⟩))) := by rw [cell_of_row _ _ _ _ _ _ B4.out]; rfl
  have c9 : w4.cell? ⟨b, 2, none⟩ = some (.int .i64 sg) := by rw [cell_of_row _ _ _ _ _ _ B4.out]; rfl
  clear hk hs
  go_wp2_with fail
  go_ret
  exact ⟨ret_int (by have := b23; simp at this; have hr := unhide HR; rw [if_pos (.inl this)] at hr; rw [← hr]; rfl), K4.out, S4.out⟩

set_option maxRecDepth 100000 in
set_option maxHeartbeats 2000000 in
theorem binary_equal {n : Nat} (hI : InferSaid n) {w : World} {bs hi b : Nat} {st st' : Tw.SS} {e : Tw.En} {ev : Value} {l : Tw.T} {q : Tw.T} {v1 : Value} {v2 : Value} {sg : Int} (b23 : (sg == 23) = false) (b15 : (sg == 15) = true) {fr to r : Nat} (h : Sol w bs st)
    (hb : w.heap[b]? = some (.cells #[.int .i64 fr, .int .i64 to, .int .i64 sg, v1, v2] 322 (0, 0))) (r0 : Rep w 0 hi l v1) (r1 : Rep w 0 hi q v2) (he : EnvAt w hi e ev) (hf : Tw.inferS (n + 1) (.binary fr to sg l q) e st = some (r, st')) :
    Calls Tryz.prog 101 #[.pointer (some ⟨bs, 0, none⟩), .pointer (some ⟨b, 0, none⟩), ev] w (IPost bs w r st') := by
  rw [Tw.inferS] at hf
  obtain ⟨⟨x1, st1⟩, h1, hf1⟩ := Option.bind_eq_some_iff.1 hf
  obtain ⟨st2, h2, hf2⟩ := Option.bind_eq_some_iff.1 hf1
  obtain ⟨⟨x3, st3⟩, h3, hf3⟩ := Option.bind_eq_some_iff.1 hf2
  obtain ⟨st4, h4, hf4⟩ := Option.bind_eq_some_iff.1 hf3
  simp only at h2 h3 h4
  simp only [Option.some.injEq, Prod.mk.injEq] at hf4
  obtain ⟨hr, rfl⟩ := hf4
  have HR := hide hr
  clear hr
  have S0 : Hid (Sol w bs st) := h
  have E0 : Hid (EnvAt w hi e ev) := he
  have B0 : Hid (w.heap[b]? = some (.cells #[.int .i64 fr, .int .i64 to, .int .i64 sg, v1, v2] 322 (0, 0))) := hb
  have R0l : Hid (Rep w 0 hi l v1) := r0
  have R0q : Hid (Rep w 0 hi q v2) := r1
  have H1 := hide h1
  have H2 := hide h2
  have H3 := hide h3
  have H4 := hide h4
  obtain ⟨T0, n0, rfl⟩ := r0.iface
  obtain ⟨T1, n1, rfl⟩ := r1.iface
  obtain ⟨ea, rfl⟩ := he.ptr
  have K0 : Hid (SK bs w w) := SK.refl _ _
  have c0 : w.cell? ⟨b, 3, none⟩ = some (.iface T0 (.pointer (some ⟨n0, 0, none⟩))) := by rw [cell_of_row _ _ _ _ _ _ B0.out]; rfl
  have c1 : w.cell? ⟨b, 4, none⟩ = some (.iface T1 (.pointer (some ⟨n1, 0, none⟩))) := by rw [cell_of_row _ _ _ _ _ _ B0.out]; rfl
  have c9 : w.cell? ⟨b, 2, none⟩ = some (.int .i64 sg) := by rw [cell_of_row _ _ _ _ _ _ B0.out]; rfl
  clear h he hb r0 r1 hf h1 h2 h3 h4 hf1 hf2 hf3
  go_enter Tryz.func101, Tryz.ntmps101
  go_wp2_with fail
  refine (hI S0.out R0l.out E0.out (unhide H1)).mono ?_
  rintro e1 w1 ⟨rfl, hk, hs⟩
  have S1 : Hid (Sol w1 bs st1) := hs
  have K1 : Hid (SK bs w w1) := K0.out.trans hk
  have E1 : Hid (EnvAt w1 hi e (.pointer ea)) := EnvAt.sk S0.out hk E0.out
  have B1 := hide (blk_sk S0.out hk B0.out rfl (by decide))
  have R1l := hide (Rep.sk S0.out hk R0l.out)
  have R1q := hide (Rep.sk S0.out hk R0q.out)
  clear c0 c1 c9
  have c0 : w1.cell? ⟨b, 3, none⟩ = some (.iface T0 (.pointer (some ⟨n0, 0, none⟩))) := by rw [cell_of_row _ _ _ _ _ _ B1.out]; rfl
  have c1 : w1.cell? ⟨b, 4, none⟩ = some (.iface T1 (.pointer (some ⟨n1, 0, none⟩))) := by rw [cell_of_row _ _ _ _ _ _ B1.out]; rfl
  have c9 : w1.cell? ⟨b, 2, none⟩ = some (.int .i64 sg) := by rw [cell_of_row _ _ _ _ _ _ B1.out]; rfl
  clear hk hs
  go_wp2_with fail
  refine (unify_sol S1.out (unhide H2)).mono ?_
  rintro e1 w2 ⟨rfl, hk, hs⟩
  have S2 : Hid (Sol w2 bs st2) := hs
  have K2 : Hid (SK bs w w2) := K1.out.trans hk
  have E2 : Hid (EnvAt w2 hi e (.pointer ea)) := EnvAt.sk S1.out hk E1.out
  have B2 := hide (blk_sk S1.out hk B1.out rfl (by decide))
  have R2l := hide (Rep.sk S1.out hk R1l.out)
  have R2q := hide (Rep.sk S1.out hk R1q.out)
  clear c0 c1 c9
  have c0 : w2.cell? ⟨b, 3, none⟩ = some (.iface T0 (.pointer (some ⟨n0, 0, none⟩))) := by rw [cell_of_row _ _ _ _ _ _ B2.out]; rfl
  have c1 : w2.cell? ⟨b, 4, none⟩ = some (.iface T1 (.pointer (some ⟨n1, 0, none⟩))) := by rw [cell_of_row _ _ _ _ _ _ B2.out]; rfl
  have c9 : w2.cell? ⟨b, 2, none⟩ = some (.int .i64 sg) := by rw [cell_of_row _ _ _ _ _ _ B2.out]; rfl
  clear hk hs
  go_wp2_with fail
  refine (hI S2.out R2q.out E2.out (unhide H3)).mono ?_
  rintro e1 w3 ⟨rfl, hk, hs⟩
  have S3 : Hid (Sol w3 bs st3) := hs
  have K3 : Hid (SK bs w w3) := K2.out.trans hk
  have E3 : Hid (EnvAt w3 hi e (.pointer ea)) := EnvAt.sk S2.out hk E2.out
  have B3 := hide (blk_sk S2.out hk B2.out rfl (by decide))
  have R3l := hide (Rep.sk S2.out hk R2l.out)
  have R3q := hide (Rep.sk S2.out hk R2q.out)
  clear c0 c1 c9
  have c0 : w3.cell? ⟨b, 3, none⟩ = some (.iface T0 (.pointer (some ⟨n0, 0, none⟩))) := by rw [cell_of_row _ _ _ _ _ _ B3.out]; rfl
  have c1 : w3.cell? ⟨b, 4, none⟩ = some (.iface T1 (.pointer (some ⟨n1, 0, none⟩))) := by rw [cell_of_row _ _ _ _ _ _ B3.out]; rfl
  have c9 : w3.cell? ⟨b, 2, none⟩ = some (.int .i64 sg) := by rw [cell_of_row _ _ _ _ _ _ B3.out]; rfl
  clear hk hs
  go_wp2_with fail
  refine (unify_sol S3.out (unhide H4)).mono ?_
  rintro e1 w4 ⟨rfl, hk, hs⟩
  have S4 : Hid (Sol w4 bs st4) := hs
  have K4 : Hid (SK bs w w4) := K3.out.trans hk
  have E4 : Hid (EnvAt w4 hi e (.pointer ea)) := EnvAt.sk S3.out hk E3.out
  have B4 := hide (blk_sk S3.out hk B3.out rfl (by decide))
  have R4l := hide (Rep.sk S3.out hk R3l.out)
  have R4q := hide (Rep.sk S3.out hk R3q.out)
  clear c0 c1 c9
  have c0 : w4.cell? ⟨b, 3, none⟩ = some (.iface T0 (.pointer (some ⟨n0, 0, none⟩))) := by rw [cell_of_row _ _ _ _ _ _ B4.out]; rfl
  have c1 : w4.cell? ⟨b, 4, none⟩ = some (.iface T1 (.pointer (some ⟨n1, 0, none⟩))) := by rw [cell_of_row _ _ _ _ _ _ B4.out]; rfl
  have c9 : w4.cell? ⟨b, 2, none⟩ = some (.int .i64 sg) := by rw [cell_of_row _ _ _ _ _ _ B4.out]; rfl
  clear hk hs
  go_wp2_with fail
  go_ret
  exact ⟨ret_int (by have := b15; simp at this; have hr := unhide HR; rw [if_pos (.inr this)] at hr; rw [← hr]; rfl), K4.out, S4.out⟩

set_option maxRecDepth 100000 in
set_option maxHeartbeats 2000000 in
theorem binary_int {n : Nat} (hI : InferSaid n) {w : World} {bs hi b : Nat} {st st' : Tw.SS} {e : Tw.En} {ev : Value} {l : Tw.T} {q : Tw.T} {v1 : Value} {v2 : Value} {sg : Int} (b23 : (sg == 23) = false) (b15 : (sg == 15) = false) {fr to r : Nat} (h : Sol w bs st)
    (hb : w.heap[b]? = some (.cells #[.int .i64 fr, .int .i64 to, .int .i64 sg, v1, v2] 322 (0, 0))) (r0 : Rep w 0 hi l v1) (r1 : Rep w 0 hi q v2) (he : EnvAt w hi e ev) (hf : Tw.inferS (n + 1) (.binary fr to sg l q) e st = some (r, st')) :
    Calls Tryz.prog 101 #[.pointer (some ⟨bs, 0, none⟩), .pointer (some ⟨b, 0, none⟩), ev] w (IPost bs w r st') := by
  rw [Tw.inferS] at hf
  obtain ⟨⟨x1, st1⟩, h1, hf1⟩ := Option.bind_eq_some_iff.1 hf
  obtain ⟨st2, h2, hf2⟩ := Option.bind_eq_some_iff.1 hf1
  obtain ⟨⟨x3, st3⟩, h3, hf3⟩ := Option.bind_eq_some_iff.1 hf2
  obtain ⟨st4, h4, hf4⟩ := Option.bind_eq_some_iff.1 hf3
  simp only at h2 h3 h4
  simp only [Option.some.injEq, Prod.mk.injEq] at hf4
  obtain ⟨hr, rfl⟩ := hf4
  have HR := hide hr
  clear hr
  have S0 : Hid (Sol w bs st) := h
  have E0 : Hid (EnvAt w hi e ev) := he
  have B0 : Hid (w.heap[b]? = some (.cells #[.int .i64 fr, .int .i64 to, .int .i64 sg, v1, v2] 322 (0, 0))) := hb
  have R0l : Hid (Rep w 0 hi l v1) := r0
  have R0q : Hid (Rep w 0 hi q v2) := r1
  have H1 := hide h1
  have H2 := hide h2
  have H3 := hide h3
  have H4 := hide h4
  obtain ⟨T0, n0, rfl⟩ := r0.iface
  obtain ⟨T1, n1, rfl⟩ := r1.iface
  obtain ⟨ea, rfl⟩ := he.ptr
  have K0 : Hid (SK bs w w) := SK.refl _ _
  have c0 : w.cell? ⟨b, 3, none⟩ = some (.iface T0 (.pointer (some ⟨n0, 0, none⟩))) := by rw [cell_of_row _ _ _ _ _ _ B0.out]; rfl
  have c1 : w.cell? ⟨b, 4, none⟩ = some (.iface T1 (.pointer (some ⟨n1, 0, none⟩))) := by rw [cell_of_row _ _ _ _ _ _ B0.out]; rfl
  have c9 : w.cell? ⟨b, 2, none⟩ = some (.int .i64 sg) := by rw [cell_of_row _ _ _ _ _ _ B0.out]; rfl
  clear h he hb r0 r1 hf h1 h2 h3 h4 hf1 hf2 hf3
  go_enter Tryz.func101, Tryz.ntmps101
  go_wp2_with fail
  refine (hI S0.out R0l.out E0.out (unhide H1)).mono ?_
  rintro e1 w1 ⟨rfl, hk, hs⟩
  have S1 : Hid (Sol w1 bs st1) := hs
  have K1 : Hid (SK bs w w1) := K0.out.trans hk
  have E1 : Hid (EnvAt w1 hi e (.pointer ea)) := EnvAt.sk S0.out hk E0.out
  have B1 := hide (blk_sk S0.out hk B0.out rfl (by decide))
  have R1l := hide (Rep.sk S0.out hk R0l.out)
  have R1q := hide (Rep.sk S0.out hk R0q.out)
  clear c0 c1 c9
  have c0 : w1.cell? ⟨b, 3, none⟩ = some (.iface T0 (.pointer (some ⟨n0, 0, none⟩))) := by rw [cell_of_row _ _ _ _ _ _ B1.out]; rfl
  have c1 : w1.cell? ⟨b, 4, none⟩ = some (.iface T1 (.pointer (some ⟨n1, 0, none⟩))) := by rw [cell_of_row _ _ _ _ _ _ B1.out]; rfl
  have c9 : w1.cell? ⟨b, 2, none⟩ = some (.int .i64 sg) := by rw [cell_of_row _ _ _ _ _ _ B1.out]; rfl
  clear hk hs
  go_wp2_with fail
  refine (unify_sol S1.out (unhide H2)).mono ?_
  rintro e1 w2 ⟨rfl, hk, hs⟩
  have S2 : Hid (Sol w2 bs st2) := hs
  have K2 : Hid (SK bs w w2) := K1.out.trans hk
  have E2 : Hid (EnvAt w2 hi e (.pointer ea)) := EnvAt.sk S1.out hk E1.out
  have B2 := hide (blk_sk S1.out hk B1.out rfl (by decide))
  have R2l := hide (Rep.sk S1.out hk R1l.out)
  have R2q := hide (Rep.sk S1.out hk R1q.out)
  clear c0 c1 c9
  have c0 : w2.cell? ⟨b, 3, none⟩ = some (.iface T0 (.pointer (some ⟨n0, 0, none⟩))) := by rw [cell_of_row _ _ _ _ _ _ B2.out]; rfl
  have c1 : w2.cell? ⟨b, 4, none⟩ = some (.iface T1 (.pointer (some ⟨n1, 0, none⟩))) := by rw [cell_of_row _ _ _ _ _ _ B2.out]; rfl
  have c9 : w2.cell? ⟨b, 2, none⟩ = some (.int .i64 sg) := by rw [cell_of_row _ _ _ _ _ _ B2.out]; rfl
  clear hk hs
  go_wp2_with fail
  refine (hI S2.out R2q.out E2.out (unhide H3)).mono ?_
  rintro e1 w3 ⟨rfl, hk, hs⟩
  have S3 : Hid (Sol w3 bs st3) := hs
  have K3 : Hid (SK bs w w3) := K2.out.trans hk
  have E3 : Hid (EnvAt w3 hi e (.pointer ea)) := EnvAt.sk S2.out hk E2.out
  have B3 := hide (blk_sk S2.out hk B2.out rfl (by decide))
  have R3l := hide (Rep.sk S2.out hk R2l.out)
  have R3q := hide (Rep.sk S2.out hk R2q.out)
  clear c0 c1 c9
  have c0 : w3.cell? ⟨b, 3, none⟩ = some (.iface T0 (.pointer (some ⟨n0, 0, none⟩))) := by rw [cell_of_row _ _ _ _ _ _ B3.out]; rfl
  have c1 : w3.cell? ⟨b, 4, none⟩ = some (.iface T1 (.pointer (some ⟨n1, 0, none⟩))) := by rw [cell_of_row _ _ _ _ _ _ B3.out]; rfl
  have c9 : w3.cell? ⟨b, 2, none⟩ = some (.int .i64 sg) := by rw [cell_of_row _ _ _ _ _ _ B3.out]; rfl
  clear hk hs
  go_wp2_with fail
  refine (unify_sol S3.out (unhide H4)).mono ?_
  rintro e1 w4 ⟨rfl, hk, hs⟩
  have S4 : Hid (Sol w4 bs st4) := hs
  have K4 : Hid (SK bs w w4) := K3.out.trans hk
  have E4 : Hid (EnvAt w4 hi e (.pointer ea)) := EnvAt.sk S3.out hk E3.out
  have B4 := hide (blk_sk S3.out hk B3.out rfl (by decide))
  have R4l := hide (Rep.sk S3.out hk R3l.out)
  have R4q := hide (Rep.sk S3.out hk R3q.out)
  clear c0 c1 c9
  have c0 : w4.cell? ⟨b, 3, none⟩ = some (.iface T0 (.pointer (some ⟨n0, 0, none⟩))) := by rw [cell_of_row _ _ _ _ _ _ B4.out]; rfl
  have c1 : w4.cell? ⟨b, 4, none⟩ = some (.iface T1 (.pointer (some ⟨n1, 0, none⟩))) := by rw [cell_of_row _ _ _ _ _ _ B4.out]; rfl
  have c9 : w4.cell? ⟨b, 2, none⟩ = some (.int .i64 sg) := by rw [cell_of_row _ _ _ _ _ _ B4.out]; rfl
  clear hk hs
  go_wp2_with fail
  go_ret
  exact ⟨ret_int (by have h1 := b23; have h2 := b15; simp at h1 h2; have hr := unhide HR; rw [if_neg (fun o => o.elim h1 h2)] at hr; rw [← hr]; rfl), K4.out, S4.out⟩

end Go.Proofs.YtckhafpejefbbaaGreatDoor

/- Package types: infer at brackets and pairs, at fun. -/
namespace Go.Proofs.YtckhafpejefbbaaGreatDoor
open Go.RowKit

set_option maxRecDepth 100000 in
set_option maxHeartbeats 4000000 in
theorem infer_Bracket {n : Nat} (hI : InferSaid n) {w : World} {bs hi b : Nat} {st st' : Tw.SS} {e : Tw.En} {ev : Value} {i : Tw.T} {v1 : Value} {fr to r : Nat} (h : Sol w bs st)
    (hb : w.heap[b]? = some (.cells #[.int .i64 fr, .int .i64 to, v1] 206 (0, 0))) (r0 : Rep w 0 hi i v1) (he : EnvAt w hi e ev) (hf : Tw.inferS (n + 1) (.bracket fr to i) e st = some (r, st')) :
    Calls Tryz.prog 53 #[.pointer (some ⟨bs, 0, none⟩), .iface 204 (.pointer (some ⟨b, 0, none⟩)), ev] w (IPost bs w r st') := by
  rw [Tw.inferS] at hf
  have S0 : Hid (Sol w bs st) := h
  have E0 : Hid (EnvAt w hi e ev) := he
  have R0 : Hid (Rep w 0 hi i v1) := r0
  have H1 := hide hf
  obtain ⟨T0, n0, rfl⟩ := r0.iface
  obtain ⟨ea, rfl⟩ := he.ptr
  obtain ⟨_, _, c2, _⟩ := three_cells hb
  have q0 := ta_Bracket_Name
  have q1 := ta_Bracket_Truth
  have q2 := ta_Bracket_Side
  have q3 := ta_Bracket_Bracket
  have q4 := ta_Bracket_Pair
  have q5 := ta_Bracket_Call
  have q6 := ta_Bracket_Binary
  have q7 := ta_Bracket_If
  have q8 := ta_Bracket_Fun
  have q9 := ta_Bracket_Let
  clear h he hb r0 hf
  go_enter Tryz.func53, Tryz.ntmps53
  go_wp2_with fail
  refine (hI S0.out R0.out E0.out (unhide H1)).mono ?_
  rintro e1 w1 ⟨rfl, hk, hs⟩
  have X : Hid (SK bs w w1 ∧ Sol w1 bs st') := ⟨hk, hs⟩
  clear hk hs
  go_wp2_with fail
  go_ret
  exact ⟨rfl, X.out⟩

set_option maxRecDepth 100000 in
set_option maxHeartbeats 4000000 in
theorem infer_Pair {n : Nat} (hI : InferSaid n) {w : World} {bs hi b : Nat} {st st' : Tw.SS} {e : Tw.En} {ev : Value} {l q : Tw.T} {v1 v2 : Value} {fr to r : Nat} (h : Sol w bs st)
    (hb : w.heap[b]? = some (.cells #[.int .i64 fr, .int .i64 to, v1, v2] 229 (0, 0))) (r0 : Rep w 0 hi l v1) (r1 : Rep w 0 hi q v2) (he : EnvAt w hi e ev) (hf : Tw.inferS (n + 1) (.pair fr to l q) e st = some (r, st')) :
    Calls Tryz.prog 53 #[.pointer (some ⟨bs, 0, none⟩), .iface 207 (.pointer (some ⟨b, 0, none⟩)), ev] w (IPost bs w r st') := by
  rw [Tw.inferS] at hf
  obtain ⟨⟨x1, st1⟩, h1, hf1⟩ := Option.bind_eq_some_iff.1 hf
  obtain ⟨⟨x2, st2⟩, h2, h3⟩ := Option.bind_eq_some_iff.1 hf1
  simp only at h2 h3
  have S0 : Hid (Sol w bs st) := h
  have E0 : Hid (EnvAt w hi e ev) := he
  have B0 : Hid (w.heap[b]? = some (.cells #[.int .i64 fr, .int .i64 to, v1, v2] 229 (0, 0))) := hb
  have R0 : Hid (Rep w 0 hi l v1) := r0
  have Q0 : Hid (Rep w 0 hi q v2) := r1
  have H1 := hide h1
  have H2 := hide h2
  have H3 := hide h3
  obtain ⟨T0, n0, rfl⟩ := r0.iface
  obtain ⟨T1, n1, rfl⟩ := r1.iface
  obtain ⟨ea, rfl⟩ := he.ptr
  obtain ⟨_, _, c2, c3⟩ := four_cells hb
  have q0 := ta_Pair_Name
  have q1 := ta_Pair_Truth
  have q2 := ta_Pair_Side
  have q3 := ta_Pair_Bracket
  have q4 := ta_Pair_Pair
  have q5 := ta_Pair_Call
  have q6 := ta_Pair_Binary
  have q7 := ta_Pair_If
  have q8 := ta_Pair_Fun
  have q9 := ta_Pair_Let
  clear h he hb r0 r1 hf hf1 h1 h2 h3
  go_enter Tryz.func53, Tryz.ntmps53
  go_wp2_with fail
  refine (hI S0.out R0.out E0.out (unhide H1)).mono ?_
  rintro e1 w1 ⟨rfl, hk, hs⟩
  have S1 : Hid (Sol w1 bs st1) := hs
  have K1 : Hid (SK bs w w1) := hk
  have E1 : Hid (EnvAt w1 hi e (.pointer ea)) := EnvAt.sk S0.out hk E0.out
  have B1 := hide (blk_sk S0.out hk B0.out rfl (by decide))
  have Q1 := hide (Rep.sk S0.out hk Q0.out)
  clear c2 c3
  obtain ⟨_, _, c2, c3⟩ := four_cells B1.out
  clear hk hs
  go_wp2_with fail
  refine (hI S1.out Q1.out E1.out (unhide H2)).mono ?_
  rintro e1 w2 ⟨rfl, hk, hs⟩
  have S2 : Hid (Sol w2 bs st2) := hs
  have K2 : Hid (SK bs w w2) := K1.out.trans hk
  clear hk hs
  go_wp2_with fail
  refine (add_sol S2.out 4 x1 x2 (unhide H3)).mono ?_
  rintro e1 w3 ⟨rfl, hk, hs⟩
  have X : Hid (SK bs w w3 ∧ Sol w3 bs st') := ⟨K2.out.trans hk, hs⟩
  clear hk hs
  go_wp2_with fail
  go_ret
  exact ⟨rfl, X.out⟩

set_option maxRecDepth 100000 in
set_option maxHeartbeats 4000000 in
theorem infer_Fun {n : Nat} (hI : InferSaid n) {w : World} {bs hi b : Nat} {st st' : Tw.SS} {e : Tw.En} {ev : Value} {body : Tw.T} {v1 : Value} {bn : List UInt8} {fr to bat r : Nat} (h : Sol w bs st)
    (hb : w.heap[b]? = some (.cells #[.int .i64 fr, .int .i64 to, bytesV bn, .int .i64 bat, v1] 235 (0, 0))) (r0 : Rep w 0 hi body v1) (he : EnvAt w hi e ev) (hf : Tw.inferS (n + 1) (.fn fr to bn bat body) e st = some (r, st')) :
    Calls Tryz.prog 53 #[.pointer (some ⟨bs, 0, none⟩), .iface 215 (.pointer (some ⟨b, 0, none⟩)), ev] w (IPost bs w r st') := by
  rw [Tw.inferS] at hf
  obtain ⟨⟨x1, st1⟩, h1, hf1⟩ := Option.bind_eq_some_iff.1 hf
  obtain ⟨⟨x2, st2⟩, h2, h3⟩ := Option.bind_eq_some_iff.1 hf1
  simp only at h2 h3
  have S0 : Hid (Sol w bs st) := h
  have E0 : Hid (EnvAt w hi e ev) := he
  have B0 : Hid (w.heap[b]? = some (.cells #[.int .i64 fr, .int .i64 to, bytesV bn, .int .i64 bat, v1] 235 (0, 0))) := hb
  have R0 : Hid (Rep w 0 hi body v1) := r0
  have H1 := hide h1
  have H2 := hide h2
  have H3 := hide h3
  obtain ⟨T0, n0, rfl⟩ := r0.iface
  obtain ⟨ea, rfl⟩ := he.ptr
  have q0 := ta_Fun_Name
  have q1 := ta_Fun_Truth
  have q2 := ta_Fun_Side
  have q3 := ta_Fun_Bracket
  have q4 := ta_Fun_Pair
  have q5 := ta_Fun_Call
  have q6 := ta_Fun_Binary
  have q7 := ta_Fun_If
  have q8 := ta_Fun_Fun
  have q9 := ta_Fun_Let
  clear h he hb r0 hf hf1 h1 h2 h3
  go_enter Tryz.func53, Tryz.ntmps53
  go_wp2_with fail
  refine (fresh_sol S0.out (unhide H1)).mono ?_
  rintro e1 w1 ⟨rfl, hk, hs⟩
  have S1 : Hid (Sol w1 bs st1) := hs
  have K1 : Hid (SK bs w w1) := hk
  have E1 : Hid (EnvAt w1 hi e (.pointer ea)) := EnvAt.sk S0.out hk E0.out
  have B1 := hide (blk_sk S0.out hk B0.out rfl (by decide))
  have R1 := hide (Rep.sk S0.out hk R0.out)
  obtain ⟨_, _, c2, _, c4⟩ := five_cells B1.out
  clear hk hs q0 q1 q2 q3 q4 q5 q6 q7 q8 q9
  have D1 : Hid (w1.grownBy w1.drew none) := grown_drew (grown_refl _)
  go_wp2_with fail
  go_region_held3 (fun W => W.cell? ⟨b, 2, none⟩ = some (bytesV bn) ∧ W.cell? ⟨b, 4, none⟩ = some (.iface T0 (.pointer (some ⟨n0, 0, none⟩)))) (go_keep)
    (first
      | (go_at_call 104; refine (with_any e (.pointer ea) (E1.out.grown D1.out) bn x1 none none).mono ?_; rintro e1 w2 ⟨sb, rfl, hg, hsb⟩
         have G2 : Hid (w1.grownBy w2 none) := grown_trans D1.out hg
         have N2 : Hid (EnvAt w2 hi (.fix bn x1 e) (.pointer (some ⟨sb, 0, none⟩))) := ⟨sb, _, rfl, hsb, E1.out.grown (grown_trans D1.out hg)⟩
         have B2 := five_cells ((grown_trans D1.out hg).block b (Array.getElem?_eq_some_iff.1 B1.out).1 (by simp) |>.trans B1.out)
         obtain ⟨_, _, d2, _, d4⟩ := B2
         clear hg hsb)
      | (go_at_call 53; refine (hI (S1.out.grown G2.out) (R1.out.grown G2.out (Nat.le_refl _) (Nat.le_refl _)) N2.out (unhide H2)).mono ?_; rintro e1 w3 ⟨rfl, hk, hs⟩
         have S3 : Hid (Sol w3 bs st2) := hs
         have K3 : Hid (SK bs w w3) := K1.out.trans ((SK.of_none G2.out).trans hk)
         have B3 := five_cells (blk_sk (S1.out.grown G2.out) hk ((G2.out.block b (Array.getElem?_eq_some_iff.1 B1.out).1 (by simp)).trans B1.out) rfl (by decide))
         obtain ⟨_, _, g2, _, g4⟩ := B3
         clear hk hs))
  go_wp2_with fail
  refine (add_sol S3.out 3 x1 x2 (unhide H3)).mono ?_
  rintro e1 w4 ⟨rfl, hk, hs⟩
  have X : Hid (SK bs w w4 ∧ Sol w4 bs st') := ⟨K3.out.trans hk, hs⟩
  clear hk hs
  go_wp2_with fail
  go_ret
  exact ⟨rfl, X.out⟩

end Go.Proofs.YtckhafpejefbbaaGreatDoor

/- Package types: definition, infer at let; infer whole. -/
namespace Go.Proofs.YtckhafpejefbbaaGreatDoor
open Go.RowKit

set_option maxRecDepth 100000 in
set_option maxHeartbeats 4000000 in
theorem def_plain {n : Nat} (hI : InferSaid n) {w : World} {bs hi b : Nat} {st st' : Tw.SS} {e : Tw.En} {ev : Value} {d x : Tw.T} {v1 v2 : Value} {bn : List UInt8} {fr to bat r : Nat} {rc : Bool} (h : Sol w bs st) (hrc : rc = false)
    (hb : w.heap[b]? = some (.cells #[.int .i64 fr, .int .i64 to, .bool rc, bytesV bn, .int .i64 bat, v1, v2] 140 (0, 0))) (r0 : Rep w 0 hi d v1) (he : EnvAt w hi e ev) (hf : Tw.defS (n + 1) (.lett fr to rc bn bat d x) e st = some (r, st')) :
    Calls Tryz.prog 105 #[.pointer (some ⟨bs, 0, none⟩), .pointer (some ⟨b, 0, none⟩), ev] w (IPost bs w r st') := by
  subst hrc
  rw [Tw.defS] at hf
  have S0 : Hid (Sol w bs st) := h
  have E0 : Hid (EnvAt w hi e ev) := he
  have R0 : Hid (Rep w 0 hi d v1) := r0
  have H1 := hide hf
  obtain ⟨T0, n0, rfl⟩ := r0.iface
  obtain ⟨ea, rfl⟩ := he.ptr
  obtain ⟨c2, _, c5, _⟩ := seven_cells hb
  clear h he hb r0 hf
  go_enter Tryz.func105, Tryz.ntmps105
  go_wp2_with fail
  refine (hI S0.out R0.out E0.out (unhide H1)).mono ?_
  rintro e1 w1 ⟨rfl, hk, hs⟩
  have X : Hid (SK bs w w1 ∧ Sol w1 bs st') := ⟨hk, hs⟩
  clear hk hs
  go_wp2_with fail
  go_ret
  exact ⟨rfl, X.out⟩

set_option maxRecDepth 100000 in
set_option maxHeartbeats 4000000 in
theorem def_rec {n : Nat} (hI : InferSaid n) {w : World} {bs hi b : Nat} {st st' : Tw.SS} {e : Tw.En} {ev : Value} {d x : Tw.T} {v1 v2 : Value} {bn : List UInt8} {fr to bat r : Nat} {rc : Bool} (h : Sol w bs st) (hrc : rc = true)
    (hb : w.heap[b]? = some (.cells #[.int .i64 fr, .int .i64 to, .bool rc, bytesV bn, .int .i64 bat, v1, v2] 140 (0, 0))) (r0 : Rep w 0 hi d v1) (he : EnvAt w hi e ev) (hf : Tw.defS (n + 1) (.lett fr to rc bn bat d x) e st = some (r, st')) :
    Calls Tryz.prog 105 #[.pointer (some ⟨bs, 0, none⟩), .pointer (some ⟨b, 0, none⟩), ev] w (IPost bs w r st') := by
  subst hrc
  rw [Tw.defS] at hf
  obtain ⟨⟨x1, st1⟩, h1, hf1⟩ := Option.bind_eq_some_iff.1 hf
  obtain ⟨⟨x2, st2⟩, h2, hf2⟩ := Option.bind_eq_some_iff.1 hf1
  obtain ⟨st3, h3, hf3⟩ := Option.bind_eq_some_iff.1 hf2
  simp only [Option.some.injEq, Prod.mk.injEq] at hf3
  obtain ⟨rfl, rfl⟩ := hf3
  simp only at h2 h3
  have S0 : Hid (Sol w bs st) := h
  have E0 : Hid (EnvAt w hi e ev) := he
  have B0 : Hid (w.heap[b]? = some (.cells #[.int .i64 fr, .int .i64 to, .bool true, bytesV bn, .int .i64 bat, v1, v2] 140 (0, 0))) := hb
  have R0 : Hid (Rep w 0 hi d v1) := r0
  have H1 := hide h1
  have H2 := hide h2
  have H3 := hide h3
  obtain ⟨T0, n0, rfl⟩ := r0.iface
  obtain ⟨ea, rfl⟩ := he.ptr
  obtain ⟨c2, _, _, _⟩ := seven_cells hb
  clear h he hb r0 hf hf1 hf2 h1 h2 h3
  go_enter Tryz.func105, Tryz.ntmps105
  go_wp2_with fail
  refine (fresh_sol S0.out (unhide H1)).mono ?_
  rintro e1 w1 ⟨rfl, hk, hs⟩
  have S1 : Hid (Sol w1 bs st1) := hs
  have K1 : Hid (SK bs w w1) := hk
  have E1 : Hid (EnvAt w1 hi e (.pointer ea)) := EnvAt.sk S0.out hk E0.out
  have B1 := hide (blk_sk S0.out hk B0.out rfl (by decide))
  have R1 := hide (Rep.sk S0.out hk R0.out)
  clear c2
  obtain ⟨_, c3, c5, _⟩ := seven_cells B1.out
  clear hk hs
  have D1 : Hid (w1.grownBy w1.drew none) := grown_drew (grown_refl _)
  go_wp2_with fail
  go_region_held3 (fun W => W.cell? ⟨b, 3, none⟩ = some (bytesV bn) ∧ W.cell? ⟨b, 5, none⟩ = some (.iface T0 (.pointer (some ⟨n0, 0, none⟩)))) (go_keep)
    (first
      | (go_at_call 104; refine (with_any e (.pointer ea) (E1.out.grown D1.out) bn x1 none none).mono ?_; rintro e1 w2 ⟨sb, rfl, hg, hsb⟩
         have G2 : Hid (w1.grownBy w2 none) := grown_trans D1.out hg
         have N2 : Hid (EnvAt w2 hi (.fix bn x1 e) (.pointer (some ⟨sb, 0, none⟩))) := ⟨sb, _, rfl, hsb, E1.out.grown (grown_trans D1.out hg)⟩
         have B2 := seven_cells ((grown_trans D1.out hg).block b (Array.getElem?_eq_some_iff.1 B1.out).1 (by simp) |>.trans B1.out)
         obtain ⟨_, d3, d5, _⟩ := B2
         clear hg hsb)
      | (go_at_call 53; refine (hI (S1.out.grown G2.out) (R1.out.grown G2.out (Nat.le_refl _) (Nat.le_refl _)) N2.out (unhide H2)).mono ?_; rintro e1 w3 ⟨rfl, hk, hs⟩
         have S3 : Hid (Sol w3 bs st2) := hs
         have K3 : Hid (SK bs w w3) := K1.out.trans ((SK.of_none G2.out).trans hk)
         have B3 := hide (blk_sk (S1.out.grown G2.out) hk ((G2.out.block b (Array.getElem?_eq_some_iff.1 B1.out).1 (by simp)).trans B1.out) rfl (by decide))
         obtain ⟨_, g3, g5, _⟩ := seven_cells B3.out
         clear hk hs)
      | (go_at_call 176; refine (unify_sol S3.out (unhide H3)).mono ?_; rintro e1 w4 ⟨rfl, hk, hs⟩
         have S4 : Hid (Sol w4 bs st3) := hs
         have K4 : Hid (SK bs w w4) := K3.out.trans hk
         have B4 := seven_cells (blk_sk S3.out hk B3.out rfl (by decide))
         obtain ⟨_, i3, i5, _⟩ := B4
         clear hk hs))
  go_wp2_with fail
  go_ret
  exact ⟨rfl, K4.out, S4.out⟩

set_option maxRecDepth 100000 in
set_option maxHeartbeats 4000000 in
theorem infer_Let {n : Nat} (hI : InferSaid n) (hD : DefSaid n) {w : World} {bs hi b : Nat} {st st' : Tw.SS} {e : Tw.En} {ev : Value} {d x : Tw.T} {v1 v2 : Value} {bn : List UInt8} {fr to bat r : Nat} {rc : Bool} (h : Sol w bs st)
    (hb : w.heap[b]? = some (.cells #[.int .i64 fr, .int .i64 to, .bool rc, bytesV bn, .int .i64 bat, v1, v2] 140 (0, 0))) (r0 : Rep w 0 hi x v2) (rw0 : Rep w 0 hi (.lett fr to rc bn bat d x) (.iface 136 (.pointer (some ⟨b, 0, none⟩)))) (he : EnvAt w hi e ev) (hf : Tw.inferS (n + 1) (.lett fr to rc bn bat d x) e st = some (r, st')) :
    Calls Tryz.prog 53 #[.pointer (some ⟨bs, 0, none⟩), .iface 136 (.pointer (some ⟨b, 0, none⟩)), ev] w (IPost bs w r st') := by
  rw [Tw.inferS] at hf
  obtain ⟨⟨x1, st1⟩, h1, h2⟩ := Option.bind_eq_some_iff.1 hf
  simp only at h2
  have S0 : Hid (Sol w bs st) := h
  have E0 : Hid (EnvAt w hi e ev) := he
  have B0 : Hid (w.heap[b]? = some (.cells #[.int .i64 fr, .int .i64 to, .bool rc, bytesV bn, .int .i64 bat, v1, v2] 140 (0, 0))) := hb
  have R0 : Hid (Rep w 0 hi x v2) := r0
  have W0 := hide rw0
  have H1 := hide h1
  have H2 := hide h2
  obtain ⟨T0, n0, rfl⟩ := r0.iface
  obtain ⟨ea, rfl⟩ := he.ptr
  have q0 := ta_Let_Name
  have q1 := ta_Let_Truth
  have q2 := ta_Let_Side
  have q3 := ta_Let_Bracket
  have q4 := ta_Let_Pair
  have q5 := ta_Let_Call
  have q6 := ta_Let_Binary
  have q7 := ta_Let_If
  have q8 := ta_Let_Fun
  have q9 := ta_Let_Let
  clear h he hb r0 rw0 hf h1 h2
  go_enter Tryz.func53, Tryz.ntmps53
  go_wp2_with fail
  refine (hD S0.out (unhide W0) E0.out (unhide H1)).mono ?_
  rintro e1 w1 ⟨rfl, hk, hs⟩
  have S1 : Hid (Sol w1 bs st1) := hs
  have K1 : Hid (SK bs w w1) := hk
  have E1 : Hid (EnvAt w1 hi e (.pointer ea)) := EnvAt.sk S0.out hk E0.out
  have B1 := hide (blk_sk S0.out hk B0.out rfl (by decide))
  have R1 := hide (Rep.sk S0.out hk R0.out)
  have W1 := hide (Rep.sk S0.out hk (unhide W0))
  obtain ⟨_, c3, _, c6⟩ := seven_cells B1.out
  clear hk hs q0 q1 q2 q3 q4 q5 q6 q7 q8 q9
  have D1 : Hid (w1.grownBy w1.drew none) := grown_drew (grown_refl _)
  go_wp2_with fail
  go_region_held3 (fun W => W.cell? ⟨b, 3, none⟩ = some (bytesV bn) ∧ W.cell? ⟨b, 6, none⟩ = some (.iface T0 (.pointer (some ⟨n0, 0, none⟩)))) (go_keep)
    (first
      | (go_at_call 104; refine (with_any e (.pointer ea) (E1.out.grown D1.out) bn 0 (some ⟨b, 0, none⟩) ea).mono ?_; rintro e1 w2 ⟨sb, rfl, hg, hsb⟩
         have G2 : Hid (w1.grownBy w2 none) := grown_trans D1.out hg
         have N2 : Hid (EnvAt w2 hi (.dfn bn (.lett fr to rc bn bat d x) e) (.pointer (some ⟨sb, 0, none⟩))) := ⟨sb, _, b, rfl, hsb, E1.out.grown (grown_trans D1.out hg), (unhide W1).grown (grown_trans D1.out hg) (Nat.le_refl _) (Nat.le_refl _)⟩
         have B2 := seven_cells ((grown_trans D1.out hg).block b (Array.getElem?_eq_some_iff.1 B1.out).1 (by simp) |>.trans B1.out)
         obtain ⟨_, d3, _, d6⟩ := B2
         clear hg hsb)
      | (go_at_call 53; refine (hI (S1.out.grown G2.out) (R1.out.grown G2.out (Nat.le_refl _) (Nat.le_refl _)) N2.out (unhide H2)).mono ?_; rintro e1 w3 ⟨rfl, hk, hs⟩
         have S3 : Hid (Sol w3 bs st') := hs
         have K3 : Hid (SK bs w w3) := K1.out.trans ((SK.of_none G2.out).trans hk)
         have B3 := hide (blk_sk (S1.out.grown G2.out) hk ((G2.out.block b (Array.getElem?_eq_some_iff.1 B1.out).1 (by simp)).trans B1.out) rfl (by decide))
         obtain ⟨_, g3, _, g6⟩ := seven_cells B3.out
         clear hk hs))
  go_wp2_with fail
  go_ret
  exact ⟨rfl, K3.out, S3.out⟩

end Go.Proofs.YtckhafpejefbbaaGreatDoor

/- Package types: infer whole. -/
namespace Go.Proofs.YtckhafpejefbbaaGreatDoor
open Go.RowKit

theorem def_step {n : Nat} (hI : InferSaid n) : DefSaid (n + 1) := by
  intro w bs hi bl st st' t e ev r h hr he hf
  cases t with
  | lett fr to rc bn bat d x =>
    obtain ⟨v1, v2, ⟨b, _, _, hv, hb⟩, r1, r2⟩ := hr
    cases hv
    cases hrc : rc
    · subst hrc; exact def_plain hI h rfl hb r1 he hf
    · subst hrc; exact def_rec hI h rfl hb r1 he hf
  | _ => simp [Tw.defS] at hf

theorem infer_step {n : Nat} (hI : InferSaid n) (hD : DefSaid n) : InferSaid (n + 1) := by
  intro w bs hi st st' t e tv ev r h hr he hf
  cases t with
  | name fr to x =>
    obtain ⟨b, _, _, rfl, hb⟩ := hr
    exact infer_Name he (name_any hD h hb he hf)
  | int fr to v =>
    obtain ⟨b, _, _, rfl, hb⟩ := hr
    simp only [Tw.inferS, Option.some.injEq, Prod.mk.injEq] at hf
    obtain ⟨rfl, rfl⟩ := hf
    exact infer_Int h he
  | truth fr to v =>
    obtain ⟨b, _, _, rfl, hb⟩ := hr
    simp only [Tw.inferS, Option.some.injEq, Prod.mk.injEq] at hf
    obtain ⟨rfl, rfl⟩ := hf
    exact infer_Truth h he
  | side fr to v =>
    obtain ⟨b, _, _, rfl, hb⟩ := hr
    exact infer_Side he (side_any h hb hf)
  | bracket fr to i =>
    obtain ⟨v1, ⟨b, _, _, rfl, hb⟩, r1⟩ := hr
    exact infer_Bracket hI h hb r1 he hf
  | pair fr to l q =>
    obtain ⟨v1, v2, ⟨b, _, _, rfl, hb⟩, r1, r2⟩ := hr
    exact infer_Pair hI h hb r1 r2 he hf
  | call fr to f a =>
    obtain ⟨v1, v2, ⟨b, _, _, rfl, hb⟩, r1, r2⟩ := hr
    exact infer_Call he (call_any hI h hb r1 r2 he hf)
  | binary fr to sg l q =>
    obtain ⟨v1, v2, ⟨b, _, _, rfl, hb⟩, r1, r2⟩ := hr
    refine infer_Binary he ?_
    by_cases h23 : sg = 23
    · exact binary_less hI (by simp [h23]) h hb r1 r2 he hf
    · by_cases h15 : sg = 15
      · exact binary_equal hI (by simp [h23]) (by simp [h15]) h hb r1 r2 he hf
      · exact binary_int hI (by simp [h23]) (by simp [h15]) h hb r1 r2 he hf
  | cond fr to c t f =>
    obtain ⟨v1, v2, v3, ⟨b, _, _, rfl, hb⟩, r1, r2, r3⟩ := hr
    exact infer_If he (choice_any hI h hb r1 r2 r3 he hf)
  | fn fr to bn bat body =>
    obtain ⟨v1, ⟨b, _, _, rfl, hb⟩, r1⟩ := hr
    exact infer_Fun hI h hb r1 he hf
  | lett fr to rc bn bat d x =>
    have hr0 := hr
    obtain ⟨v1, v2, ⟨b, _, _, rfl, hb⟩, r1, r2⟩ := hr
    exact infer_Let hI hD h hb r2 hr0 he hf

theorem infer_all : ∀ n, InferSaid n ∧ DefSaid n
  | 0 => ⟨fun _ _ _ hf => by simp [Tw.inferS] at hf, fun _ _ _ hf => by simp [Tw.defS] at hf⟩
  | n + 1 => ⟨infer_step (infer_all n).1 (infer_all n).2, def_step (infer_all n).1⟩

end Go.Proofs.YtckhafpejefbbaaGreatDoor

/- endless as plain functions. -/
namespace Go.Proofs.YtckhafpejefbbaaGreatDoor.Tw
open Go

def madeS (x : Sh) : Bool := x.sort == 3 || x.sort == 4

def holdsS : Nat → SS → List Int → Nat → Option (Bool × SS × List Int)
  | 0, _, _, _ => none
  | n + 1, st, mk, r => (findS n st r).bind fun p => match p.2.shs[p.1]?, mk[p.1]? with
    | some x, some m =>
      if m = 0 ∧ madeS x = true then
        (holdsS n p.2 (mk.set p.1 1) x.left).bind fun a =>
          if a.1 then some (true, a.2) else (holdsS n a.2.1 a.2.2 x.right).bind fun b => if b.1 then some (true, b.2) else some (false, b.2.1, b.2.2.set p.1 2)
      else some (m == 1, p.2, mk)
    | _, _ => none

def endlessFrom (fuel : Nat) : Nat → SS → List Int → Nat → Nat → Option (Bool × SS)
  | 0, _, _, _, _ => none
  | n + 1, st, mk, r, len => if r < len then (holdsS fuel st mk r).bind fun a => if a.1 then some (true, a.2.1) else endlessFrom fuel n a.2.1 a.2.2 (r + 1) len else some (false, st)

def endlessS (fuel : Nat) (st : SS) : Option (Bool × SS) := endlessFrom fuel (st.shs.length + 1) st (List.replicate st.shs.length 0) 0 st.shs.length

end Go.Proofs.YtckhafpejefbbaaGreatDoor.Tw

/- Package types: made, holdsItself. -/
namespace Go.Proofs.YtckhafpejefbbaaGreatDoor
open Go.RowKit

structure HK (bs g gm : Nat) (w w' : World) : Prop where
  os : w'.os = w.os
  tape : w'.tape = w.tape
  output : w'.output = w.output
  size : w.heap.size ≤ w'.heap.size
  block : ∀ k, k < w.heap.size → k ≠ bs → k ≠ g → k ≠ gm → w'.heap[k]? = w.heap[k]?

theorem HK.trans {bs g gm : Nat} {a b c : World} (h : HK bs g gm a b) (k : HK bs g gm b c) : HK bs g gm a c :=
  ⟨k.os.trans h.os, k.tape.trans h.tape, k.output.trans h.output, Nat.le_trans h.size k.size, fun i hi hb hn hm => (k.block i (Nat.lt_of_lt_of_le hi h.size) hb hn hm).trans (h.block i hi hb hn hm)⟩
theorem HK.of_uk {bs g gm : Nat} {w w' : World} (h : UK bs g w w') : HK bs g gm w w' := ⟨h.os, h.tape, h.output, h.size, fun i hi hb hn _ => h.block i hi hb hn⟩
theorem HK.of_none {bs g gm : Nat} {w w' : World} (h : w.grownBy w' none) : HK bs g gm w w' := HK.of_uk (UK.of_none h)
theorem HK.setMark {bs g gm : Nat} {a w : World} (h : HK bs g gm a w) (j : Nat) (v : Value) : HK bs g gm a (w.setCell ⟨gm, j, none⟩ v) :=
  h.trans ⟨rfl, rfl, rfl, by simp, fun k _ _ _ hb => heap_setCell_other w ⟨gm, j, none⟩ k v (by simpa using hb)⟩
theorem HK.at {bs g gm : Nat} {w w' : World} (h : HK bs g gm w w') {b : Nat} {o : Obj} (hb : w.heap[b]? = some o) (h1 : b ≠ bs) (h2 : b ≠ g) (h3 : b ≠ gm) : w'.heap[b]? = some o := by
  rw [h.block b (Array.getElem?_eq_some_iff.1 hb).1 h1 h2 h3]; exact hb

def markCells (mk : List Int) : Array Value := (mk.map fun n => Value.int .i64 n).toArray
def MarksAt (w : World) (gm : Nat) (mk : List Int) : Prop := w.heap[gm]? = some (.cells (markCells mk) 341 (0, 0))

theorem MarksAt.get {w : World} {gm : Nat} {mk : List Int} (h : MarksAt w gm mk) {j : Nat} {m : Int} (hj : mk[j]? = some m) : w.cell? ⟨gm, j, none⟩ = some (.int .i64 m) := by
  rw [cell_of_row w gm _ _ _ _ h]
  simp [markCells, hj]

theorem MarksAt.set {w : World} {gm : Nat} {mk : List Int} (h : MarksAt w gm mk) (j : Nat) (m : Int) : MarksAt (w.setCell ⟨gm, j, none⟩ (.int .i64 m)) gm (mk.set j m) := by
  unfold MarksAt
  rw [heap_setCell_same _ _ _ _ _ _ h]
  congr 2
  apply Array.ext'
  simp [markCells, List.map_set]

theorem RowAt.other {w : World} {bs g cap : Nat} {cur : Array Value} {st : Tw.SS} (h : RowAt w bs g cap cur st) {b : Nat} (h1 : b ≠ bs) (h2 : b ≠ g) (j : Nat) (v : Value) : RowAt (w.setCell ⟨b, j, none⟩ v) bs g cap cur st :=
  { h with solver := by rw [heap_setCell_other _ _ _ _ (by simpa using h1.symm)]; exact h.solver, row := by rw [heap_setCell_other _ _ _ _ (by simpa using h2.symm)]; exact h.row }

set_option maxRecDepth 100000 in
set_option maxHeartbeats 1000000 in
theorem made_any (x : Tw.Sh) (w : World) :
    Calls Tryz.prog 178 #[.agg #[.int .i64 x.sort, .int .i64 x.left, .int .i64 x.right, .int .i64 x.same]] w fun e w' => e = .returned (.bool (Tw.madeS x)) ∧ w.grownBy w' none := by
  unfold Tw.madeS
  cases h3 : (x.sort == 3)
  · go_enter Tryz.func178, Tryz.ntmps178
    go_wp2_with fail
    go_ret
    exact ⟨ret_bool (by simp), World.grownBy_alloc _ _ none⟩
  · go_enter Tryz.func178, Tryz.ntmps178
    go_wp2_with fail
    go_ret
    exact ⟨ret_bool (by simp), World.grownBy_alloc _ _ none⟩

def HPost (bs g cap gm : Nat) (w : World) (b : Bool) (st' : Tw.SS) (mk' : List Int) (e : Ending) (w' : World) : Prop := e = .returned (.bool b) ∧ HK bs g gm w w' ∧ (∃ cur', RowAt w' bs g cap cur' st') ∧ MarksAt w' gm mk'

def HSaid (n : Nat) : Prop := ∀ {w : World} {bs g cap gm : Nat} {cur : Array Value} {st st' : Tw.SS} {mk mk' : List Int} {r : Nat} {b : Bool}, RowAt w bs g cap cur st → MarksAt w gm mk → gm ≠ bs → gm ≠ g → mk.length ≤ 10000001 → Tw.holdsS n st mk r = some (b, st', mk') →
    Calls Tryz.prog 106 #[.pointer (some ⟨bs, 0, none⟩), .int .i64 r, .slice (some ⟨gm, 0, none⟩) mk.length mk.length] w (HPost bs g cap gm w b st' mk')

theorem holds_len : ∀ (n : Nat) {st st' : Tw.SS} {mk mk' : List Int} {r : Nat} {b : Bool}, Tw.holdsS n st mk r = some (b, st', mk') → mk'.length = mk.length
  | 0, _, _, _, _, _, _, h => by simp [Tw.holdsS] at h
  | n + 1, st, st', mk, mk', r, b, h => by
    rw [Tw.holdsS] at h
    obtain ⟨⟨p, st1⟩, hp, h1⟩ := Option.bind_eq_some_iff.1 h
    simp only at h1
    split at h1
    rotate_left
    · cases h1
    split at h1
    · obtain ⟨⟨b1, st2, mk2⟩, h2, h3⟩ := Option.bind_eq_some_iff.1 h1
      have e2 := holds_len n h2
      simp only at h3
      split at h3
      · simp only [Option.some.injEq, Prod.mk.injEq] at h3
        rw [← h3.2.2, e2]; simp
      · obtain ⟨⟨b2, st3, mk3⟩, h4, h5⟩ := Option.bind_eq_some_iff.1 h3
        have e4 := holds_len n h4
        simp only at h5
        split at h5
        · simp only [Option.some.injEq, Prod.mk.injEq] at h5
          rw [← h5.2.2, e4, e2]; simp
        · simp only [Option.some.injEq, Prod.mk.injEq] at h5
          rw [← h5.2.2]; simp [e4, e2]
    · simp only [Option.some.injEq, Prod.mk.injEq] at h1
      rw [h1.2.2]

end Go.Proofs.YtckhafpejefbbaaGreatDoor

/- Package types: holdsItself. -/
namespace Go.Proofs.YtckhafpejefbbaaGreatDoor
open Go.RowKit

set_option maxRecDepth 100000 in
set_option maxHeartbeats 4000000 in
theorem holds_step {n : Nat} (ih : HSaid n) : HSaid (n + 1) := by
  intro w bs g cap gm cur st st' mk mk' r b h hM hgb hgg hlm hf
  rw [Tw.holdsS] at hf
  obtain ⟨⟨p, st1⟩, hp, hf1⟩ := Option.bind_eq_some_iff.1 hf
  clear hf
  simp only at hf1
  cases hx : st1.shs[p]? with
  | none => rw [hx] at hf1; simp at hf1
  | some x =>
  cases hm : mk[p]? with
  | none => rw [hx, hm] at hf1; simp at hf1
  | some m =>
  rw [hx, hm] at hf1
  simp only at hf1
  have HH : Hid (RowAt w bs g cap cur st) := h
  have M0 : Hid (MarksAt w gm mk) := hM
  have H1 : Hid (Tw.findS n st r = some (p, st1)) := hp
  have HX : Hid (st1.shs[p]? = some x) := hx
  have HMK : Hid (mk[p]? = some m) := hm
  have hpm : p < mk.length := (List.getElem?_eq_some_iff.1 hm).1
  have hpmi : (p : Int) < (mk.length : Int) := by omega
  have c237 : Tryz.prog.cellsOf 334 = 4 := by kernel_rfl
  have c252 : Tryz.prog.cellsOf 341 = 1 := by kernel_rfl
  have zg := (Array.getElem?_eq_some_iff.1 h.row).1
  have zb := (Array.getElem?_eq_some_iff.1 h.solver).1
  have zm := (Array.getElem?_eq_some_iff.1 hM).1
  clear h hM hp hx hm
  by_cases hmx : m = 0 ∧ Tw.madeS x = true
  rotate_left
  · rw [if_neg hmx] at hf1
    simp only [Option.some.injEq, Prod.mk.injEq] at hf1
    obtain ⟨hb, rfl, rfl⟩ := hf1
    have HB := hide hb
    clear hb
    cases hm0 : (m != 0)
    · have hmd : Hid (Tw.madeS x = false) := by
        show _ = _
        cases e : Tw.madeS x
        · rfl
        · exact absurd ⟨by simpa using hm0, e⟩ hmx
      clear hmx
      go_enter Tryz.func106, Tryz.ntmps106
      go_wp2_with fail
      refine (find_any HH.out H1.out).mono ?_
      rintro e1 w1 ⟨rfl, hk, cur1, hR⟩
      have P1 : Hid (RowAt w1 bs g cap cur1 st1) := hR
      have K1 : Hid (UK bs g w w1) := hk
      have M1 : Hid (MarksAt w1 gm mk) := hk.at M0.out hgb hgg
      obtain ⟨hpl, x0, x1, x2, x3⟩ := hR.sh HX.out
      obtain ⟨s0, _, _, _⟩ := two_cells hR.solver
      have hpi : (p : Int) < (st1.shs.length : Int) := by omega
      have hml := hR.many
      have z1 := hk.size
      have zm1 : gm < w1.heap.size := by omega
      have zg1 : g < w1.heap.size := by omega
      have zb1 : bs < w1.heap.size := by omega
      have mc := M1.out.get HMK.out
      have mf := frozen_of_row _ _ p _ _ M1.out
      clear hk hR
      go_wp2_with fail
      refine (made_any x _).mono ?_
      rintro e1 w2 ⟨rfl, hg⟩
      rw [hmd.out]
      have G2 : Hid (w1.grownBy w2 none) := grown_trans (World.grownBy_alloc _ _ none) hg
      have M2 : Hid (MarksAt w2 gm mk) := (Keep.of_none (bp := bs) G2.out).at M1.out hgb
      have mc2 := M2.out.get HMK.out
      clear hg
      go_wp2_with fail
      go_ret
      exact ⟨ret_bool (unhide HB), HK.trans (HK.of_uk K1.out) (HK.of_none G2.out), ⟨cur1, P1.out.grown G2.out⟩, M2.out⟩
    · clear hmx
      go_enter Tryz.func106, Tryz.ntmps106
      go_wp2_with fail
      refine (find_any HH.out H1.out).mono ?_
      rintro e1 w1 ⟨rfl, hk, cur1, hR⟩
      have P1 : Hid (RowAt w1 bs g cap cur1 st1) := hR
      have K1 : Hid (UK bs g w w1) := hk
      have M1 : Hid (MarksAt w1 gm mk) := hk.at M0.out hgb hgg
      obtain ⟨hpl, x0, x1, x2, x3⟩ := hR.sh HX.out
      obtain ⟨s0, _, _, _⟩ := two_cells hR.solver
      have hpi : (p : Int) < (st1.shs.length : Int) := by omega
      have hml := hR.many
      have z1 := hk.size
      have zm1 : gm < w1.heap.size := by omega
      have zg1 : g < w1.heap.size := by omega
      have zb1 : bs < w1.heap.size := by omega
      have mc := M1.out.get HMK.out
      have mf := frozen_of_row _ _ p _ _ M1.out
      clear hk hR
      go_wp2_with fail
      go_ret
      exact ⟨ret_bool (unhide HB), HK.trans (HK.of_uk K1.out) (HK.of_none (World.grownBy_alloc _ _ none)), ⟨cur1, P1.out.grown (World.grownBy_alloc _ _ none)⟩, alloc_at M1.out _⟩
  · rw [if_pos hmx] at hf1
    obtain ⟨hm0, hmd0⟩ := hmx
    have hm1 : (m != 0) = false := by simp [hm0]
    have hmd : Hid (Tw.madeS x = true) := hmd0
    clear hm0 hmd0
    obtain ⟨⟨b1, st2, mk2⟩, h2, hf2⟩ := Option.bind_eq_some_iff.1 hf1
    clear hf1
    simp only at hf2
    have L2 := holds_len n h2
    simp only [List.length_set] at L2
    have H2 : Hid (Tw.holdsS n st1 (mk.set p 1) x.left = some (b1, st2, mk2)) := h2
    clear h2
    have HF := hide hf2
    clear hf2
    cases hb1 : b1
    · have HF2 := unhide HF
      rw [hb1] at HF2
      simp only [Bool.false_eq_true, if_false] at HF2
      obtain ⟨⟨b2, st3, mk3⟩, h4, hf5⟩ := Option.bind_eq_some_iff.1 HF2
      simp only at hf5
      have L3 := holds_len n h4
      have H4 : Hid (Tw.holdsS n st2 mk2 x.right = some (b2, st3, mk3)) := h4
      subst hb1
      clear HF HF2 h4
      have HF5 := hide hf5
      clear hf5
      go_enter Tryz.func106, Tryz.ntmps106
      go_wp2_with fail
      refine (find_any HH.out H1.out).mono ?_
      rintro e1 w1 ⟨rfl, hk, cur1, hR⟩
      have P1 : Hid (RowAt w1 bs g cap cur1 st1) := hR
      have K1 : Hid (UK bs g w w1) := hk
      have M1 : Hid (MarksAt w1 gm mk) := hk.at M0.out hgb hgg
      obtain ⟨hpl, x0, x1, x2, x3⟩ := hR.sh HX.out
      obtain ⟨s0, _, _, _⟩ := two_cells hR.solver
      have hpi : (p : Int) < (st1.shs.length : Int) := by omega
      have hml := hR.many
      have z1 := hk.size
      have zm1 : gm < w1.heap.size := by omega
      have zg1 : g < w1.heap.size := by omega
      have zb1 : bs < w1.heap.size := by omega
      have mc := M1.out.get HMK.out
      have mf := frozen_of_row _ _ p _ _ M1.out
      clear hk hR
      go_wp2_with fail
      refine (made_any x _).mono ?_
      rintro e1 w2 ⟨rfl, hg⟩
      rw [hmd.out]
      have G2 : Hid (w1.grownBy w2 none) := grown_trans (World.grownBy_alloc _ _ none) hg
      have N2 : Hid (w2.heap[w1.heap.size]? = some (.cells #[.int .i64 x.sort, .int .i64 x.left, .int .i64 x.right, .int .i64 x.same] 334 (0, 0))) := (hg.block _ (by simp) (by simp)).trans (new_block w1 _)
      have M2 : Hid (MarksAt w2 gm mk) := (Keep.of_none (bp := bs) G2.out).at M1.out hgb
      have P2 : Hid (RowAt w2 bs g cap cur1 st1) := P1.out.grown G2.out
      have z2 := G2.out.size
      have mc2 := M2.out.get HMK.out
      have mf2 := frozen_of_row _ _ p _ _ M2.out
      obtain ⟨y0, y1, y2, y3⟩ := four_cells N2.out
      clear hg x0 x1 x2 x3 s0 mc mf
      go_wp2_with fail
      have Q2 := ih (P2.out.other hgb hgg p (.int .i64 1)) (M2.out.set p 1) hgb hgg (by simpa using hlm) H2.out
      rw [List.length_set] at Q2
      refine Q2.mono ?_
      rintro e1 w3 ⟨rfl, hk, ⟨cur3, hR⟩, hM3⟩
      have P3 : Hid (RowAt w3 bs g cap cur3 st2) := hR
      have M3 : Hid (MarksAt w3 gm mk2) := hM3
      have K3 : Hid (HK bs g gm w w3) := (HK.trans (HK.of_uk K1.out) (HK.of_none G2.out)).setMark p _ |>.trans hk
      have N2b : Hid ((w2.setCell ⟨gm, p, none⟩ (.int .i64 1)).heap[w1.heap.size]? = some (.cells #[.int .i64 x.sort, .int .i64 x.left, .int .i64 x.right, .int .i64 x.same] 334 (0, 0))) := by
        show _ = _
        rw [heap_setCell_other _ _ _ _ (by simp; omega)]; exact N2.out
      have N3 : Hid (w3.heap[w1.heap.size]? = some (.cells #[.int .i64 x.sort, .int .i64 x.left, .int .i64 x.right, .int .i64 x.same] 334 (0, 0))) := hk.at N2b.out (by omega) (by omega) (by omega)
      have z3 : w2.heap.size ≤ w3.heap.size := by have := hk.size; simpa using this
      clear hk hR hM3 Q2 y0 y1 y2 y3 mc2 mf2
      obtain ⟨y0, y1, y2, y3⟩ := four_cells N3.out

      have Q3 := ih P3.out M3.out hgb hgg (by rw [L2]; exact hlm) H4.out
      rw [L2] at Q3
      cases hb2 : b2
      · have HF6 := unhide HF5
        rw [hb2] at HF6
        simp only [Bool.false_eq_true, if_false, Option.some.injEq, Prod.mk.injEq] at HF6
        obtain ⟨rfl, rfl, rfl⟩ := HF6
        subst hb2
        go_wp2_with fail
        refine Q3.mono ?_
        rintro e1 w4 ⟨rfl, hk, ⟨cur4, hR⟩, hM4⟩
        have P4 : Hid (RowAt w4 bs g cap cur4 st3) := hR
        have M4 : Hid (MarksAt w4 gm mk3) := hM4
        have K4 : Hid (HK bs g gm w w4) := K3.out.trans hk
        have hp3 : mk3[p]?.isSome := by simp; omega
        obtain ⟨m3, hm3⟩ := Option.isSome_iff_exists.1 hp3
        have mc4 := M4.out.get hm3
        have mf4 := frozen_of_row _ _ p _ _ M4.out
        clear hk hR hM4 Q3 hp3 hm3
        go_wp2_with fail
        go_ret
        exact ⟨rfl, K4.out.setMark p _, ⟨cur4, P4.out.other hgb hgg p _⟩, M4.out.set p 2⟩
      · have HF6 := unhide HF5
        rw [hb2] at HF6
        simp only [if_true, Option.some.injEq, Prod.mk.injEq] at HF6
        obtain ⟨rfl, rfl, rfl⟩ := HF6
        subst hb2
        go_wp2_with fail
        refine Q3.mono ?_
        rintro e1 w4 ⟨rfl, hk, ⟨cur4, hR⟩, hM4⟩
        have X : Hid (HK bs g gm w w4 ∧ (∃ cur', RowAt w4 bs g cap cur' st3) ∧ MarksAt w4 gm mk3) := ⟨K3.out.trans hk, ⟨cur4, hR⟩, hM4⟩
        clear hk hR hM4 Q3
        go_wp2_with fail
        go_ret
        exact ⟨rfl, X.out⟩
    · have HF2 := unhide HF
      rw [hb1] at HF2
      simp only [if_true, Option.some.injEq, Prod.mk.injEq] at HF2
      obtain ⟨rfl, rfl, rfl⟩ := HF2
      subst hb1
      clear HF
      go_enter Tryz.func106, Tryz.ntmps106
      go_wp2_with fail
      refine (find_any HH.out H1.out).mono ?_
      rintro e1 w1 ⟨rfl, hk, cur1, hR⟩
      have P1 : Hid (RowAt w1 bs g cap cur1 st1) := hR
      have K1 : Hid (UK bs g w w1) := hk
      have M1 : Hid (MarksAt w1 gm mk) := hk.at M0.out hgb hgg
      obtain ⟨hpl, x0, x1, x2, x3⟩ := hR.sh HX.out
      obtain ⟨s0, _, _, _⟩ := two_cells hR.solver
      have hpi : (p : Int) < (st1.shs.length : Int) := by omega
      have hml := hR.many
      have z1 := hk.size
      have zm1 : gm < w1.heap.size := by omega
      have zg1 : g < w1.heap.size := by omega
      have zb1 : bs < w1.heap.size := by omega
      have mc := M1.out.get HMK.out
      have mf := frozen_of_row _ _ p _ _ M1.out
      clear hk hR
      go_wp2_with fail
      refine (made_any x _).mono ?_
      rintro e1 w2 ⟨rfl, hg⟩
      rw [hmd.out]
      have G2 : Hid (w1.grownBy w2 none) := grown_trans (World.grownBy_alloc _ _ none) hg
      have N2 : Hid (w2.heap[w1.heap.size]? = some (.cells #[.int .i64 x.sort, .int .i64 x.left, .int .i64 x.right, .int .i64 x.same] 334 (0, 0))) := (hg.block _ (by simp) (by simp)).trans (new_block w1 _)
      have M2 : Hid (MarksAt w2 gm mk) := (Keep.of_none (bp := bs) G2.out).at M1.out hgb
      have P2 : Hid (RowAt w2 bs g cap cur1 st1) := P1.out.grown G2.out
      have z2 := G2.out.size
      have mc2 := M2.out.get HMK.out
      have mf2 := frozen_of_row _ _ p _ _ M2.out
      obtain ⟨y0, y1, y2, y3⟩ := four_cells N2.out
      clear hg x0 x1 x2 x3 s0 mc mf
      go_wp2_with fail
      have Q2 := ih (P2.out.other hgb hgg p (.int .i64 1)) (M2.out.set p 1) hgb hgg (by simpa using hlm) H2.out
      rw [List.length_set] at Q2
      refine Q2.mono ?_
      rintro e1 w3 ⟨rfl, hk, ⟨cur3, hR⟩, hM3⟩
      have P3 : Hid (RowAt w3 bs g cap cur3 st2) := hR
      have M3 : Hid (MarksAt w3 gm mk2) := hM3
      have K3 : Hid (HK bs g gm w w3) := (HK.trans (HK.of_uk K1.out) (HK.of_none G2.out)).setMark p _ |>.trans hk
      have N2b : Hid ((w2.setCell ⟨gm, p, none⟩ (.int .i64 1)).heap[w1.heap.size]? = some (.cells #[.int .i64 x.sort, .int .i64 x.left, .int .i64 x.right, .int .i64 x.same] 334 (0, 0))) := by
        show _ = _
        rw [heap_setCell_other _ _ _ _ (by simp; omega)]; exact N2.out
      have N3 : Hid (w3.heap[w1.heap.size]? = some (.cells #[.int .i64 x.sort, .int .i64 x.left, .int .i64 x.right, .int .i64 x.same] 334 (0, 0))) := hk.at N2b.out (by omega) (by omega) (by omega)
      have z3 : w2.heap.size ≤ w3.heap.size := by have := hk.size; simpa using this
      clear hk hR hM3 Q2 y0 y1 y2 y3 mc2 mf2
      obtain ⟨y0, y1, y2, y3⟩ := four_cells N3.out

      go_wp2_with fail
      go_ret
      exact ⟨rfl, K3.out, ⟨cur3, P3.out⟩, M3.out⟩

theorem holds_any : ∀ n, HSaid n
  | 0 => fun _ _ _ _ _ hf => by simp [Tw.holdsS] at hf
  | n + 1 => holds_step (holds_any n)

end Go.Proofs.YtckhafpejefbbaaGreatDoor

/- Package types: endless, newSolver. -/
namespace Go.Proofs.YtckhafpejefbbaaGreatDoor
open Go.RowKit

theorem Tryz.info341 : (Tryz.prog.info? 341).map (fun i => (i.zero, i.size, i.bytes)) = some (some (.int .i64 0), 1, 8) := by kernel_rfl

theorem made_marks (N : Nat) : madeCells (Value.int .i64 0).cells N = markCells (List.replicate N 0) := by
  apply Array.ext
  · simp [madeCells, markCells]
  · intro i h1 h2
    simp [madeCells, markCells, Value.cells, Nat.mod_one]

theorem make_marks (N : Nat) (hN : N ≤ 10000001) : ∃ MC, MC = markCells (List.replicate N 0) ∧ ∀ W : World, (Instr.makeSlice 240 (.int .i64 N) (.int .i64 N)).run Tryz.prog W = .ok (.slice (some ⟨W.heap.size, 0, none⟩) N N) (W.alloc (.cells MC 341)) := by
  obtain ⟨i0, hi, hz0, hz1, hz2⟩ := info_parts Tryz.info341
  refine ⟨_, rfl, fun W => ?_⟩
  have h := run_make (P := Tryz.prog) W 240 341 i0 (.int .i64 0) Tryz.underlying240 hi hz0 .i64 .i64 N N (by omega) (by omega) (by rw [hz2]; omega) (by omega)
  rw [hz1] at h
  simp only [Int.toNat_natCast, Nat.mul_one] at h
  rw [made_marks] at h
  exact h

set_option maxRecDepth 100000 in
set_option maxHeartbeats 2000000 in
theorem endless_any {w : World} {bs g cap : Nat} {cur : Array Value} {st st' : Tw.SS} (h : RowAt w bs g cap cur st) {fuel : Nat} {b : Bool} (hf : Tw.endlessS fuel st = some (b, st')) :
    Calls Tryz.prog 54 #[.pointer (some ⟨bs, 0, none⟩)] w fun e w' => e = .returned (.bool b) ∧ UK bs g w w' ∧ ∃ cur', RowAt w' bs g cap cur' st' := by
  obtain ⟨s0, _, _, _⟩ := two_cells h.solver
  have zb := (Array.getElem?_eq_some_iff.1 h.solver).1
  have zg := (Array.getElem?_eq_some_iff.1 h.row).1
  have hm := h.many
  obtain ⟨MC, hMC, hmk⟩ := make_marks st.shs.length hm
  have HMC := hide hMC
  have HH : Hid (RowAt w bs g cap cur st) := h
  have HF : Hid (Tw.endlessFrom fuel (st.shs.length + 1) st (List.replicate st.shs.length 0) 0 st.shs.length = some (b, st')) := hf
  generalize hN : st.shs.length = N at *
  have HN := hide hN
  clear h hf hMC hN
  go_enter Tryz.func54, Tryz.ntmps54
  go_wp2_with fail
  go_loopg [16] (N + 1) (fun k iv wr => ∃ (q : Nat) (stk : Tw.SS) (mkk : List Int) (curk : Array Value), iv = .int .i64 q ∧ q ≤ N ∧ mkk.length = N ∧ Hid (RowAt wr bs g cap curk stk) ∧ Hid (MarksAt wr w.heap.size mkk) ∧ Hid (HK bs g w.heap.size (w.alloc (.cells MC 341)) wr) ∧ Hid (Tw.endlessFrom fuel k stk mkk q N = some (b, st')))
  case atStart => exact ⟨0, st, List.replicate N 0, cur, rfl, by omega, by simp, HH.out.grown (World.grownBy_alloc _ _ none), by show _ = _; rw [new_block]; rw [unhide HMC], HK.of_none (grown_refl _), HF⟩
  case round =>
    obtain ⟨q, stk, mkk, curk, rfl, hq, hml, PR, MR, KR, HR⟩ := hrel
    cases gk with
    | zero => have := HR.out; simp [Tw.endlessFrom] at this
    | succ k =>
    have HR2 := HR.out
    rw [Tw.endlessFrom] at HR2
    clear HR HF
    by_cases hlt : q < N
    · rw [if_pos hlt] at HR2
      obtain ⟨⟨b1, st1, mk1⟩, h1, hf1⟩ := Option.bind_eq_some_iff.1 HR2
      simp only at hf1
      have Q := holds_any fuel PR.out MR.out (by omega) (by omega) (by omega) h1
      rw [hml] at Q
      have hl1 := holds_len fuel h1
      clear HR2 h1
      cases hb1 : b1
      · rw [hb1] at hf1
        simp only [Bool.false_eq_true, if_false] at hf1
        have HF := hide hf1
        subst hb1
        clear hf1
        go_wp2_with fail
        refine Q.mono ?_
        rintro e1 w1 ⟨rfl, hk, ⟨cur1, hR⟩, hM⟩
        have P1 : Hid (RowAt w1 bs g cap cur1 st1) := hR
        have M1 : Hid (MarksAt w1 w.heap.size mk1) := hM
        have K1 := hide (KR.out.trans hk)
        clear hk hR hM Q
        go_wp2_with fail
        go_roundg k
        case measure => omega
        case rel => exact ⟨q + 1, st1, mk1, cur1, by go_num, by omega, by omega, P1, M1, K1, HF⟩
      · rw [hb1] at hf1
        simp only [if_true, Option.some.injEq, Prod.mk.injEq] at hf1
        obtain ⟨rfl, rfl⟩ := hf1
        subst hb1
        go_wp2_with fail
        refine Q.mono ?_
        rintro e1 w1 ⟨rfl, hk, ⟨cur1, hR⟩, hM⟩
        have X : Hid (HK bs g w.heap.size (w.alloc (.cells MC 341)) w1 ∧ RowAt w1 bs g cap cur1 st1) := ⟨KR.out.trans hk, hR⟩
        clear hk hR hM Q
        go_wp2_with fail
        go_ret
        go_light
        refine ⟨rfl, ⟨X.out.1.os, X.out.1.tape, X.out.1.output, by have := X.out.1.size; simp at this; omega, fun i hi h1 h2 => ?_⟩, cur1, X.out.2⟩
        rw [X.out.1.block i (by simp; omega) h1 h2 (by omega)]
        exact Below.heap_alloc w _ i hi
    · rw [if_neg hlt] at HR2
      simp only [Option.some.injEq, Prod.mk.injEq] at HR2
      obtain ⟨rfl, rfl⟩ := HR2
      go_wp2_with fail
      go_ret
      go_light
      refine ⟨rfl, ⟨KR.out.os, KR.out.tape, KR.out.output, by have := KR.out.size; simp at this; omega, fun i hi h1 h2 => ?_⟩, curk, PR.out⟩
      rw [KR.out.block i (by simp; omega) h1 h2 (by omega)]
      exact Below.heap_alloc w _ i hi

set_option maxRecDepth 100000 in
set_option maxHeartbeats 1000000 in
theorem newSolver_any (w : World) :
    Calls Tryz.prog 52 #[] w fun e w' => e = .returned (.pointer (some ⟨w.heap.size, 0, none⟩)) ∧ w.grownBy w' none ∧ Sol w' w.heap.size ⟨[⟨1, 0, 0, 0⟩, ⟨2, 0, 0, 1⟩], false⟩ := by
  have S0 : Hid (SolAt (w.alloc (.cells #[.slice none 0 0, .bool false] 128)) w.heap.size (.slice none 0 0) ⟨[], false⟩) :=
    ⟨new_block w _, World.ownsRow_nil _ _ _ _, by simp [Value.ownBlock], by simp⟩
  go_enter Tryz.func52, Tryz.ntmps52
  go_wp2_with fail
  refine (add_any S0.out 1 0 0 (n := 0) (st' := ⟨[⟨1, 0, 0, 0⟩], false⟩) rfl).mono ?_
  rintro e1 w1 ⟨rfl, hk, v1, hS⟩
  have S1 : Hid (SolAt w1 w.heap.size v1 ⟨[⟨1, 0, 0, 0⟩], false⟩) := hS
  have K1 := hide hk
  clear hk hS
  go_wp2_with fail
  refine (add_any S1.out 2 0 0 (n := 1) (st' := ⟨[⟨1, 0, 0, 0⟩, ⟨2, 0, 0, 1⟩], false⟩) rfl).mono ?_
  rintro e1 w2 ⟨rfl, hk, v2, hS⟩
  have S2 : Hid (SolAt w2 w.heap.size v2 ⟨[⟨1, 0, 0, 0⟩, ⟨2, 0, 0, 1⟩], false⟩) := hS
  have K2 := hide ((unhide K1).trans hk)
  clear hk hS
  go_wp2_with fail
  go_ret
  go_light
  refine ⟨rfl, ?_, ?_⟩
  · have K := unhide K2
    exact ⟨K.os, K.tape, K.output, by have := K.size; simp at this; omega, fun i hi _ => by
      rw [K.block i (by simp; omega) (by omega) (.inl hi)]; exact Below.heap_alloc w _ i hi⟩
  · obtain ⟨g, cap, cur, _, hR⟩ := S2.out.row (by simp)
    exact ⟨g, cap, cur, hR⟩

end Go.Proofs.YtckhafpejefbbaaGreatDoor

/- Weights as plain functions. -/
namespace Go.Proofs.YtckhafpejefbbaaGreatDoor.Tw
open Go

inductive WEn where
  | nil
  | cons (name : List UInt8) (k : Nat) (o : WEn)

def WEn.look : WEn → List UInt8 → Option Nat
  | .nil, _ => none
  | .cons n k o, x => if n = x then some k else o.look x

def WEn.size : WEn → Nat
  | .nil => 0
  | .cons _ _ o => o.size + 1

def weightS : T → WEn → Option Nat
  | .name _ _ x, e => (e.look x).bind fun k => some (min k 2001)
  | .int _ _ _, _ => some 1
  | .truth _ _ _, _ => some 1
  | .side _ _ _, _ => some 1
  | .bracket _ _ i, e => (weightS i e).bind fun a => some (min (1 + a) 2001)
  | .pair _ _ l r, e => (weightS l e).bind fun a => (weightS r e).bind fun b => some (min (1 + a + b) 2001)
  | .call _ _ l r, e => (weightS l e).bind fun a => (weightS r e).bind fun b => some (min (1 + a + b) 2001)
  | .binary _ _ _ l r, e => (weightS l e).bind fun a => (weightS r e).bind fun b => some (min (1 + a + b) 2001)
  | .cond _ _ c t f, e => (weightS c e).bind fun a => (weightS t e).bind fun b => (weightS f e).bind fun d => some (min (1 + a + b + d) 2001)
  | .fn _ _ bn _ b, e => (weightS b (.cons bn 1 e)).bind fun a => some (min (1 + a) 2001)
  | .lett _ _ rc bn _ d b, e => (weightS d (if rc then .cons bn 1 e else e)).bind fun a => (weightS b (.cons bn a e)).bind fun c => some (min (1 + (a + c)) 2001)

end Go.Proofs.YtckhafpejefbbaaGreatDoor.Tw

/- The solver: what stands for a type; find; two types become one. -/
namespace Go.Proofs.YtckhafpejefbbaaGreatDoor.Tw
open Go

inductive Ty where
  | var (n : Nat)
  | int
  | bool
  | fn (a b : Ty)
  | pair (a b : Ty)
  deriving DecidableEq

inductive RootOf (st : SS) : Nat → Nat → Prop
  | here {r : Nat} {x : Sh} (h : st.shs[r]? = some x) (hs : x.same = r) : RootOf st r r
  | step {r p : Nat} {x : Sh} (h : st.shs[r]? = some x) (hs : x.same ≠ r) (hr : RootOf st x.same p) : RootOf st r p

theorem RootOf.unique {st : SS} {r p q : Nat} (h : RootOf st r p) (k : RootOf st r q) : p = q := by
  induction h with
  | here h hs =>
    cases k with
    | here => rfl
    | step h' hs' => rw [h] at h'; cases h'; exact absurd hs hs'
  | step h hs _ ih =>
    cases k with
    | here h' hs' => rw [h] at h'; cases h'; exact absurd hs' hs
    | step h' hs' hr => rw [h] at h'; cases h'; exact ih hr

theorem RootOf.root {st : SS} {r p : Nat} (h : RootOf st r p) : ∃ x, st.shs[p]? = some x ∧ x.same = p := by
  induction h with
  | here h hs => exact ⟨_, h, hs⟩
  | step _ _ _ ih => exact ih

theorem RootOf.self {st : SS} {r p : Nat} (h : RootOf st r p) : RootOf st p p := by
  obtain ⟨x, h1, h2⟩ := h.root
  exact .here h1 h2

theorem RootOf.lt {st : SS} {r p : Nat} (h : RootOf st r p) : r < st.shs.length ∧ p < st.shs.length := by
  obtain ⟨x, h1, _⟩ := h.root
  refine ⟨?_, (List.getElem?_eq_some_iff.1 h1).1⟩
  cases h with
  | here h => exact (List.getElem?_eq_some_iff.1 h).1
  | step h => exact (List.getElem?_eq_some_iff.1 h).1

def SS.eqv (st : SS) (a b : Nat) : Prop := ∃ p, RootOf st a p ∧ RootOf st b p

theorem SS.eqv.symm {st : SS} {a b : Nat} (h : st.eqv a b) : st.eqv b a := by obtain ⟨p, x, y⟩ := h; exact ⟨p, y, x⟩
theorem SS.eqv.trans {st : SS} {a b c : Nat} (h : st.eqv a b) (k : st.eqv b c) : st.eqv a c := by
  obtain ⟨p, x, y⟩ := h
  obtain ⟨q, z, u⟩ := k
  have := y.unique z
  subst this
  exact ⟨p, x, u⟩

structure SS.Wf (st : SS) (f : Nat → Nat) : Prop where
  rank : ∀ (r : Nat) (x : Sh), st.shs[r]? = some x → x.same ≠ r → f x.same < f r
  range : ∀ (r : Nat) (x : Sh), st.shs[r]? = some x → x.same < st.shs.length ∧ x.left < st.shs.length ∧ x.right < st.shs.length
  sort : ∀ (r : Nat) (x : Sh), st.shs[r]? = some x → x.sort = 0 ∨ x.sort = 1 ∨ x.sort = 2 ∨ x.sort = 3 ∨ x.sort = 4
  leaf : ∀ (r : Nat) (x : Sh), st.shs[r]? = some x → x.sort ≠ 3 → x.sort ≠ 4 → x.left = 0 ∧ x.right = 0
  like : ∀ (r p : Nat) (x y : Sh), st.shs[r]? = some x → RootOf st r p → st.shs[p]? = some y → x.sort ≠ 0 → y.sort = x.sort

theorem SS.Wf.rootAt {st : SS} {f : Nat → Nat} (h : st.Wf f) : ∀ (k r : Nat), f r ≤ k → r < st.shs.length → ∃ p, RootOf st r p
  | k, r, hk, hr => by
    have hx : st.shs[r]? = some st.shs[r] := List.getElem?_eq_getElem hr
    by_cases hs : (st.shs[r]).same = r
    · exact ⟨r, .here hx hs⟩
    · have h1 := h.rank r _ hx hs
      obtain ⟨p, hp⟩ : ∃ p, RootOf st (st.shs[r]).same p := by
        cases k with
        | zero => omega
        | succ k => exact h.rootAt k _ (by omega) (h.range r _ hx).1
      exact ⟨p, .step hx hs hp⟩

theorem SS.Wf.rooted {st : SS} {f : Nat → Nat} (h : st.Wf f) {r : Nat} (hr : r < st.shs.length) : ∃ p, RootOf st r p := h.rootAt (f r) r (Nat.le_refl _) hr

structure SS.Sim (st st' : SS) : Prop where
  len : st'.shs.length = st.shs.length
  clash : st'.clash = st.clash
  shape : ∀ (r : Nat) (x : Sh), st.shs[r]? = some x → ∃ y, st'.shs[r]? = some y ∧ y.sort = x.sort ∧ y.left = x.left ∧ y.right = x.right
  root : ∀ r p, RootOf st r p ↔ RootOf st' r p

theorem SS.Sim.refl (st : SS) : st.Sim st := ⟨rfl, rfl, fun _ x h => ⟨x, h, rfl, rfl, rfl⟩, fun _ _ => .rfl⟩
theorem SS.Sim.trans {a b c : SS} (h : a.Sim b) (k : b.Sim c) : a.Sim c :=
  ⟨k.len.trans h.len, k.clash.trans h.clash, fun r x hx => by
    obtain ⟨y, hy, a1, a2, a3⟩ := h.shape r x hx
    obtain ⟨z, hz, b1, b2, b3⟩ := k.shape r y hy
    exact ⟨z, hz, b1.trans a1, b2.trans a2, b3.trans a3⟩, fun r p => (h.root r p).trans (k.root r p)⟩
theorem SS.Sim.eqv {a b : SS} (h : a.Sim b) {x y : Nat} : a.eqv x y ↔ b.eqv x y :=
  ⟨fun ⟨p, u, v⟩ => ⟨p, (h.root _ _).1 u, (h.root _ _).1 v⟩, fun ⟨p, u, v⟩ => ⟨p, (h.root _ _).2 u, (h.root _ _).2 v⟩⟩

theorem SS.Sim.back {st st' : SS} (h : st.Sim st') {r : Nat} {y : Sh} (hy : st'.shs[r]? = some y) : ∃ x, st.shs[r]? = some x ∧ y.sort = x.sort ∧ y.left = x.left ∧ y.right = x.right := by
  have hr := (List.getElem?_eq_some_iff.1 hy).1
  rw [h.len] at hr
  obtain ⟨y', hy', e⟩ := h.shape r _ (List.getElem?_eq_getElem hr)
  rw [hy] at hy'
  cases hy'
  exact ⟨_, List.getElem?_eq_getElem hr, e⟩

theorem setSame_get {st : SS} {r : Nat} {x : Sh} (hx : st.shs[r]? = some x) (n q : Nat) : (setSame st r x n).shs[q]? = if q = r then some { x with same := n } else st.shs[q]? := by
  unfold setSame
  have hr := (List.getElem?_eq_some_iff.1 hx).1
  by_cases h : q = r
  · subst h
    rw [if_pos rfl, List.getElem?_set_self hr]
  · rw [if_neg h, List.getElem?_set_ne (fun e => h e.symm)]

theorem halve {st : SS} {f : Nat → Nat} (W : st.Wf f) {r : Nat} {x y : Sh} (hx : st.shs[r]? = some x) (hs : x.same ≠ r) (hy : st.shs[x.same]? = some y) :
    (setSame st r x y.same).Wf f ∧ st.Sim (setSame st r x y.same) := by
  have hg := setSame_get hx y.same
  have len : (setSame st r x y.same).shs.length = st.shs.length := by simp [setSame]
  have f1 := W.rank r x hx hs
  have f2 : y.same ≠ x.same → f y.same < f x.same := W.rank _ _ hy
  have ysr : y.same ≠ r := by
    intro e
    by_cases h : y.same = x.same
    · exact hs (h.symm.trans e)
    · have := f2 h; rw [e] at this; omega
  have fwd : ∀ q p, RootOf st q p → RootOf (setSame st r x y.same) q p := by
    intro q p h
    induction h with
    | @here q z h1 h2 =>
      by_cases hq : q = r
      · subst hq; rw [hx] at h1; cases h1; exact absurd h2 hs
      · exact .here (x := z) (by rw [hg, if_neg hq]; exact h1) h2
    | @step q p z h1 h2 _ ih =>
      by_cases hq : q = r
      · subst hq
        rw [hx] at h1
        cases h1
        by_cases h : y.same = x.same
        · exact .step (x := { x with same := y.same }) (by rw [hg, if_pos rfl]) (by simpa using ysr) (by simpa [h] using ih)
        · have hsn : x.same ≠ q := hs
          cases ih with
          | here h3 h4 => rw [hg, if_neg hsn, hy] at h3; cases h3; exact absurd h4 h
          | step h3 h4 h5 =>
            rw [hg, if_neg hsn, hy] at h3
            cases h3
            exact .step (x := { x with same := y.same }) (by rw [hg, if_pos rfl]) (by simpa using ysr) h5
      · exact .step (x := z) (by rw [hg, if_neg hq]; exact h1) h2 ih
  have shape : ∀ (q : Nat) (z : Sh), st.shs[q]? = some z → ∃ u, (setSame st r x y.same).shs[q]? = some u ∧ u.sort = z.sort ∧ u.left = z.left ∧ u.right = z.right := by
    intro q z hz
    rw [hg]
    by_cases hq : q = r
    · subst hq; rw [hx] at hz; cases hz; exact ⟨_, if_pos rfl, rfl, rfl, rfl⟩
    · exact ⟨z, by rw [if_neg hq]; exact hz, rfl, rfl, rfl⟩
  have rank : ∀ (q : Nat) (z : Sh), (setSame st r x y.same).shs[q]? = some z → z.same ≠ q → f z.same < f q := by
    intro q z hz hn
    rw [hg] at hz
    by_cases hq : q = r
    · subst hq
      rw [if_pos rfl] at hz
      cases hz
      show f y.same < f q
      by_cases h : y.same = x.same
      · rw [h]; exact f1
      · exact Nat.lt_trans (f2 h) f1
    · rw [if_neg hq] at hz; exact W.rank q z hz hn
  have sim : st.Sim (setSame st r x y.same) := by
    refine ⟨len, rfl, shape, fun q p => ⟨fwd q p, fun h => ?_⟩⟩
    have hq := h.lt.1
    rw [len] at hq
    obtain ⟨p', hp'⟩ := W.rooted hq
    have := (fwd q p' hp').unique h
    subst this
    exact hp'
  refine ⟨⟨rank, ?_, ?_, ?_, ?_⟩, sim⟩
  · intro q z hz
    rw [len]
    obtain ⟨z', hz', e1, e2, e3⟩ := sim.back hz
    rw [e2, e3]
    refine ⟨?_, (W.range q z' hz').2⟩
    rw [hg] at hz
    by_cases hq : q = r
    · rw [if_pos hq] at hz; cases hz; exact (W.range _ _ hy).1
    · rw [if_neg hq] at hz; exact (W.range q z hz).1
  · intro q z hz
    obtain ⟨z', hz', e1, _⟩ := sim.back hz
    rw [e1]
    exact W.sort q z' hz'
  · intro q z hz
    obtain ⟨z', hz', e1, e2, e3⟩ := sim.back hz
    rw [e1, e2, e3]
    exact W.leaf q z' hz'
  · intro q p z u hz hr hu
    obtain ⟨z', hz', e1, _⟩ := sim.back hz
    obtain ⟨u', hu', d1, _⟩ := sim.back hu
    rw [e1, d1]
    exact W.like q p z' u' hz' ((sim.root q p).2 hr) hu'

theorem find_spec {f : Nat → Nat} : ∀ (k : Nat) {st : SS} {r : Nat}, st.Wf f → f r ≤ k → r < st.shs.length →
    ∃ p st', (∀ n, k < n → findS n st r = some (p, st')) ∧ RootOf st r p ∧ st'.Wf f ∧ st.Sim st' := by
  intro k
  induction k with
  | zero =>
    intro st r W hk hr
    have hx : st.shs[r]? = some st.shs[r] := List.getElem?_eq_getElem hr
    have hs : (st.shs[r]).same = r := by
      by_cases hs : (st.shs[r]).same = r
      · exact hs
      · have := W.rank r _ hx hs; omega
    refine ⟨r, st, fun n hn => ?_, .here hx hs, W, .refl _⟩
    obtain ⟨m, rfl⟩ : ∃ m, n = m + 1 := ⟨n - 1, by omega⟩
    rw [findS, hx]
    simp [hs]
  | succ k ih =>
    intro st r W hk hr
    have hx : st.shs[r]? = some st.shs[r] := List.getElem?_eq_getElem hr
    by_cases hs : (st.shs[r]).same = r
    · refine ⟨r, st, fun n hn => ?_, .here hx hs, W, .refl _⟩
      obtain ⟨m, rfl⟩ : ∃ m, n = m + 1 := ⟨n - 1, by omega⟩
      rw [findS, hx]
      simp [hs]
    · have h1 := W.rank r _ hx hs
      have hsl := (W.range r _ hx).1
      have hy : st.shs[(st.shs[r]).same]? = some st.shs[(st.shs[r]).same] := List.getElem?_eq_getElem hsl
      obtain ⟨W', S'⟩ := halve W hx hs hy
      obtain ⟨p, st', h2, h3, h4, h5⟩ := ih (st := setSame st r st.shs[r] (st.shs[(st.shs[r]).same]).same) (r := (st.shs[r]).same) W' (by omega) (by rw [S'.len]; exact hsl)
      refine ⟨p, st', fun n hn => ?_, .step hx hs ((S'.root _ _).2 h3), h4, S'.trans h5⟩
      obtain ⟨m, rfl⟩ : ∃ m, n = m + 1 := ⟨n - 1, by omega⟩
      rw [findS, hx]
      simp only [hs, if_false]
      rw [hy]
      exact h2 m (by omega)

theorem find_ok {f : Nat → Nat} {st : SS} {r : Nat} (W : st.Wf f) (hr : r < st.shs.length) : ∃ n0 p st', (∀ n, n0 ≤ n → findS n st r = some (p, st')) ∧ RootOf st r p ∧ st'.Wf f ∧ st.Sim st' := by
  obtain ⟨p, st', h1, h2⟩ := find_spec (f r) W (Nat.le_refl _) hr
  exact ⟨f r + 1, p, st', fun n hn => h1 n (by omega), h2⟩

end Go.Proofs.YtckhafpejefbbaaGreatDoor.Tw

/- The solver: unify. -/
namespace Go.Proofs.YtckhafpejefbbaaGreatDoor.Tw
open Go

def Sh.says (x : Sh) (v : Nat → Ty) (r : Nat) : Prop := (x.sort = 1 → v r = .int) ∧ (x.sort = 2 → v r = .bool) ∧ (x.sort = 3 → v r = .fn (v x.left) (v x.right)) ∧ (x.sort = 4 → v r = .pair (v x.left) (v x.right))

structure SS.sat (st : SS) (v : Nat → Ty) : Prop where
  clash : st.clash = false
  root : ∀ r p, RootOf st r p → v r = v p
  shape : ∀ (r : Nat) (x : Sh), st.shs[r]? = some x → x.says v r

theorem Sh.says_of {x y : Sh} (h1 : y.sort = x.sort) (h2 : y.left = x.left) (h3 : y.right = x.right) {v : Nat → Ty} {r : Nat} (h : x.says v r) : y.says v r := by
  unfold Sh.says at h ⊢
  rw [h1, h2, h3]
  exact h

theorem SS.Sim.sat {st st' : SS} (h : st.Sim st') {v : Nat → Ty} : st.sat v ↔ st'.sat v := by
  constructor
  · intro s
    refine ⟨h.clash.trans s.clash, fun r p hr => s.root r p ((h.root r p).2 hr), fun r y hy => ?_⟩
    obtain ⟨x, hx, e1, e2, e3⟩ := h.back hy
    exact Sh.says_of e1 e2 e3 (s.shape r x hx)
  · intro s
    refine ⟨h.clash.symm.trans s.clash, fun r p hr => s.root r p ((h.root r p).1 hr), fun r x hx => ?_⟩
    obtain ⟨y, hy, e1, e2, e3⟩ := h.shape r x hx
    exact Sh.says_of e1.symm e2.symm e3.symm (s.shape r y hy)

structure Rel (R : Nat → Nat → Prop) : Prop where
  symm : ∀ {a b}, R a b → R b a
  trans : ∀ {a b c}, R a b → R b c → R a c

def SS.Closed (st : SS) (P : List (Nat × Nat)) : Prop := ∀ R : Nat → Nat → Prop, Rel R → (∀ a b, st.eqv a b → R a b) → (∀ q ∈ P, R q.1 q.2) →
  ∀ (r p : Nat) (x y : Sh), st.shs[r]? = some x → RootOf st r p → st.shs[p]? = some y → x.sort = 3 ∨ x.sort = 4 → R x.left y.left ∧ R x.right y.right

theorem SS.Sim.closed {st st' : SS} (h : st.Sim st') {P : List (Nat × Nat)} (c : st.Closed P) : st'.Closed P := by
  intro R hR he hP r p x y hx hr hy hs
  obtain ⟨x', hx', e1, e2, e3⟩ := h.back hx
  obtain ⟨y', hy', d1, d2, d3⟩ := h.back hy
  rw [e2, e3, d2, d3]
  exact c R hR (fun a b hab => he a b (h.eqv.1 hab)) hP r p x' y' hx' ((h.root r p).2 hr) hy' (by rw [← e1]; exact hs)

structure SS.Joins (st st' : SS) (a b : Nat) : Prop where
  len : st'.shs.length = st.shs.length
  clash : st'.clash = st.clash
  shape : ∀ (r : Nat) (x : Sh), st.shs[r]? = some x → ∃ y, st'.shs[r]? = some y ∧ y.sort = x.sort ∧ y.left = x.left ∧ y.right = x.right
  root : ∀ q p, RootOf st' q p ↔ (RootOf st q a ∧ p = b) ∨ (RootOf st q p ∧ p ≠ a)

theorem join {st : SS} {f : Nat → Nat} (W : st.Wf f) {a b : Nat} {x : Sh} (hx : st.shs[a]? = some x) (ha : x.same = a) (hb : RootOf st b b) (hab : a ≠ b) (hl : ∀ y, st.shs[b]? = some y → x.sort = 0 ∨ y.sort = x.sort) :
    (∃ f', (setSame st a x b).Wf f') ∧ st.Joins (setSame st a x b) a b := by
  have hg := setSame_get hx b
  have len : (setSame st a x b).shs.length = st.shs.length := by simp [setSame]
  have haa : RootOf st a a := .here hx ha
  obtain ⟨yb, hyb, hyb2⟩ := hb.root
  have fwd : ∀ q p, RootOf st q p → (p ≠ a → RootOf (setSame st a x b) q p) ∧ (p = a → RootOf (setSame st a x b) q b) := by
    intro q p h
    induction h with
    | @here q z h1 h2 =>
      refine ⟨fun hq => .here (x := z) (by rw [hg, if_neg hq]; exact h1) h2, fun hq => ?_⟩
      subst hq
      exact .step (x := { x with same := b }) (by rw [hg, if_pos rfl]) (by simpa using hab.symm) (.here (x := yb) (by rw [hg, if_neg hab.symm]; exact hyb) hyb2)
    | @step q p z h1 h2 _ ih =>
      have hq : q ≠ a := by intro e; subst e; rw [hx] at h1; cases h1; exact h2 ha
      exact ⟨fun hp => .step (x := z) (by rw [hg, if_neg hq]; exact h1) h2 (ih.1 hp), fun hp => .step (x := z) (by rw [hg, if_neg hq]; exact h1) h2 (ih.2 hp)⟩
  have shape : ∀ (q : Nat) (z : Sh), st.shs[q]? = some z → ∃ u, (setSame st a x b).shs[q]? = some u ∧ u.sort = z.sort ∧ u.left = z.left ∧ u.right = z.right := by
    intro q z hz
    rw [hg]
    by_cases hq : q = a
    · subst hq; rw [hx] at hz; cases hz; exact ⟨_, if_pos rfl, rfl, rfl, rfl⟩
    · exact ⟨z, by rw [if_neg hq]; exact hz, rfl, rfl, rfl⟩
  have back : ∀ (q : Nat) (z : Sh), (setSame st a x b).shs[q]? = some z → ∃ u, st.shs[q]? = some u ∧ z.sort = u.sort ∧ z.left = u.left ∧ z.right = u.right ∧ (q ≠ a → z = u) ∧ (q = a → z.same = b) := by
    intro q z hz
    rw [hg] at hz
    by_cases hq : q = a
    · subst hq; rw [if_pos rfl] at hz; cases hz; exact ⟨x, hx, rfl, rfl, rfl, fun h => absurd rfl h, fun _ => rfl⟩
    · rw [if_neg hq] at hz; exact ⟨z, hz, rfl, rfl, rfl, fun _ => rfl, fun h => absurd h hq⟩
  have root : ∀ q p, RootOf (setSame st a x b) q p ↔ (RootOf st q a ∧ p = b) ∨ (RootOf st q p ∧ p ≠ a) := by
    intro q p
    constructor
    · intro h
      have hq := h.lt.1
      rw [len] at hq
      obtain ⟨p', hp'⟩ := W.rooted hq
      by_cases hpa : p' = a
      · subst hpa
        exact .inl ⟨hp', h.unique ((fwd q _ hp').2 rfl)⟩
      · have := ((fwd q p' hp').1 hpa).unique h
        subst this
        exact .inr ⟨hp', hpa⟩
    · rintro (⟨h, rfl⟩ | ⟨h, hp⟩)
      · exact (fwd q a h).2 rfl
      · exact (fwd q p h).1 hp
  classical
  refine ⟨⟨fun q => if RootOf st q a then f q + f b + 1 else f q, ?_, ?_, ?_, ?_, ?_⟩, len, rfl, shape, root⟩
  · intro q z hz hn
    obtain ⟨u, hu, _, _, _, h1, h2⟩ := back q z hz
    have nb : ¬ RootOf st b a := fun h => hab (h.unique hb)
    by_cases hq : q = a
    · subst hq
      rw [h2 rfl]
      simp only [if_neg nb, if_pos haa]
      omega
    · have := h1 hq
      subst this
      have := W.rank q z hu hn
      have e : RootOf st q a ↔ RootOf st z.same a := by
        constructor
        · intro h
          cases h with
          | here => exact absurd rfl hq
          | step h3 _ h4 => rw [hu] at h3; cases h3; exact h4
        · exact fun h => .step hu hn h
      simp only [e]
      split <;> omega
  · intro q z hz
    obtain ⟨u, hu, _, e2, e3, h1, h2⟩ := back q z hz
    rw [len, e2, e3]
    refine ⟨?_, (W.range q u hu).2⟩
    by_cases hq : q = a
    · rw [h2 hq]; exact hb.lt.1
    · rw [h1 hq]; exact (W.range q u hu).1
  · intro q z hz
    obtain ⟨u, hu, e1, _⟩ := back q z hz
    rw [e1]; exact W.sort q u hu
  · intro q z hz
    obtain ⟨u, hu, e1, e2, e3, _⟩ := back q z hz
    rw [e1, e2, e3]; exact W.leaf q u hu
  · intro q p z y hz hr hy hs
    obtain ⟨u, hu, e1, _⟩ := back q z hz
    obtain ⟨y', hy', d1, _⟩ := back p y hy
    rw [e1] at hs ⊢
    rw [d1]
    rcases (root q p).1 hr with ⟨h1, rfl⟩ | ⟨h1, _⟩
    · have hxs := W.like q a u x hu h1 hx hs
      rcases hl y' hy' with h0 | h0
      · rw [← hxs] at hs; exact absurd h0 hs
      · rw [h0, hxs]
    · exact W.like q p u y' hu h1 hy' hs

theorem SS.Joins.back {st st' : SS} {a b : Nat} (h : st.Joins st' a b) {r : Nat} {y : Sh} (hy : st'.shs[r]? = some y) : ∃ x, st.shs[r]? = some x ∧ y.sort = x.sort ∧ y.left = x.left ∧ y.right = x.right := by
  have hr := (List.getElem?_eq_some_iff.1 hy).1
  rw [h.len] at hr
  obtain ⟨y', hy', e⟩ := h.shape r _ (List.getElem?_eq_getElem hr)
  rw [hy] at hy'
  cases hy'
  exact ⟨_, List.getElem?_eq_getElem hr, e⟩

theorem SS.Joins.eqv {st st' : SS} {a b : Nat} (h : st.Joins st' a b) {x y : Nat} (k : st.eqv x y) : st'.eqv x y := by
  obtain ⟨p, h1, h2⟩ := k
  by_cases hp : p = a
  · subst hp; exact ⟨b, (h.root _ _).2 (.inl ⟨h1, rfl⟩), (h.root _ _).2 (.inl ⟨h2, rfl⟩)⟩
  · exact ⟨p, (h.root _ _).2 (.inr ⟨h1, hp⟩), (h.root _ _).2 (.inr ⟨h2, hp⟩)⟩

theorem SS.Joins.one {st st' : SS} {a b : Nat} (h : st.Joins st' a b) (ha : RootOf st a a) (hb : RootOf st b b) (hab : a ≠ b) : st'.eqv a b :=
  ⟨b, (h.root _ _).2 (.inl ⟨ha, rfl⟩), (h.root _ _).2 (.inr ⟨hb, hab.symm⟩)⟩

theorem SS.Joins.sat {st st' : SS} {a b : Nat} (h : st.Joins st' a b) {v : Nat → Ty} (s : st.sat v) (hv : v a = v b) : st'.sat v := by
  refine ⟨h.clash.trans s.clash, fun r p hr => ?_, fun r y hy => ?_⟩
  · rcases (h.root r p).1 hr with ⟨h1, rfl⟩ | ⟨h1, _⟩
    · rw [s.root r a h1, hv]
    · exact s.root r p h1
  · obtain ⟨x, hx, e1, e2, e3⟩ := h.back hy
    exact Sh.says_of e1 e2 e3 (s.shape r x hx)

structure UOk (st st' : SS) (a b : Nat) : Prop where
  wf : ∃ f, st'.Wf f
  len : st'.shs.length = st.shs.length
  clash : st'.clash = false → st.clash = false
  shape : ∀ (r : Nat) (x : Sh), st.shs[r]? = some x → ∃ y, st'.shs[r]? = some y ∧ y.sort = x.sort ∧ y.left = x.left ∧ y.right = x.right
  eqv : ∀ {x y}, st.eqv x y → st'.eqv x y
  one : st'.clash = false → st'.eqv a b
  sat : ∀ {v : Nat → Ty}, st.sat v → v a = v b → st'.sat v
  closed : ∀ {P}, st.Closed ((a, b) :: P) → st'.clash = false → st'.Closed P

def SS.few (st : SS) (k : Nat) : Prop := ∃ L : List Nat, L.length ≤ k ∧ ∀ r, RootOf st r r → r ∈ L

theorem says_same {x y : Sh} {v : Nat → Ty} {p q : Nat} (hx : x.says v p) (hy : y.says v q) (hs : x.sort = y.sort) (hv : v p = v q) (hr : x.sort = 3 ∨ x.sort = 4) : v x.left = v y.left ∧ v x.right = v y.right := by
  rcases hr with h | h
  · have a := hx.2.2.1 h
    have b := hy.2.2.1 (by rw [← hs]; exact h)
    rw [a, b] at hv
    injection hv with h1 h2
    exact ⟨h1, h2⟩
  · have a := hx.2.2.2 h
    have b := hy.2.2.2 (by rw [← hs]; exact h)
    rw [a, b] at hv
    injection hv with h1 h2
    exact ⟨h1, h2⟩

theorem says_clash {x y : Sh} {v : Nat → Ty} {p q : Nat} (hx : x.says v p) (hy : y.says v q) (sx : x.sort = 0 ∨ x.sort = 1 ∨ x.sort = 2 ∨ x.sort = 3 ∨ x.sort = 4) (sy : y.sort = 0 ∨ y.sort = 1 ∨ y.sort = 2 ∨ y.sort = 3 ∨ y.sort = 4) (h0 : x.sort ≠ 0) (h1 : y.sort ≠ 0) (hs : x.sort ≠ y.sort) : v p ≠ v q := by
  obtain ⟨a1, a2, a3, a4⟩ := hx
  obtain ⟨b1, b2, b3, b4⟩ := hy
  intro hv
  rcases sx with h | h | h | h | h <;> rcases sy with k | k | k | k | k <;> first | omega | (first | rw [a1 h] at hv | rw [a2 h] at hv | rw [a3 h] at hv | rw [a4 h] at hv) <;> (first | rw [b1 k] at hv | rw [b2 k] at hv | rw [b3 k] at hv | rw [b4 k] at hv) <;> cases hv

theorem unify_spec : ∀ (k : Nat) {st : SS} {f : Nat → Nat} {a b : Nat}, st.Wf f → st.few k → a < st.shs.length → b < st.shs.length →
    ∃ n0 st', (∀ n, n0 ≤ n → unifyS n st a b = some st') ∧ UOk st st' a b ∧ st'.few k := by
  intro k
  induction k with
  | zero =>
    intro st f a b W hF ha hb
    obtain ⟨L, hL, hL2⟩ := hF
    obtain ⟨p, hp⟩ := W.rooted ha
    have := hL2 p hp.self
    rw [List.length_eq_zero_iff.1 (Nat.le_zero.1 hL)] at this
    simp at this
  | succ k ih =>
    intro st f a b W hF ha hb
    obtain ⟨n1, p, st1, f1, ra, W1, S1⟩ := find_ok W ha
    obtain ⟨n2, q, st2, f2, rb, W2, S2⟩ := find_ok W1 (r := b) (by rw [S1.len]; exact hb)
    have S := S1.trans S2
    have ra2 : RootOf st2 a p := (S.root _ _).1 ra
    have rb2 : RootOf st2 b q := (S2.root _ _).1 rb
    obtain ⟨x, hx, hxs⟩ := ra2.root
    obtain ⟨y, hy, hys⟩ := rb2.root
    have hF2 : st2.few (k + 1) := by
      obtain ⟨L, h1, h2⟩ := hF
      exact ⟨L, h1, fun r hr => h2 r ((S.root _ _).2 hr)⟩
    have unf : ∀ n, max n1 n2 + 1 ≤ n → unifyS n st a b = (if p = q then some st2 else if x.sort = 0 then some (setSame st2 p x q) else if y.sort = 0 then some (setSame st2 q y p)
        else if x.sort = y.sort then (unifyS (n - 1) (setSame st2 p x q) x.left y.left).bind fun st' => unifyS (n - 1) st' x.right y.right else some { st2 with clash := true }) := by
      intro n hn
      obtain ⟨m, rfl⟩ : ∃ m, n = m + 1 := ⟨n - 1, by omega⟩
      rw [unifyS, f1 m (by omega)]
      simp only [Option.bind_some]
      rw [f2 m (by omega)]
      simp only [Option.bind_some, hx, hy, Nat.add_sub_cancel]
    -- what the first two finds have kept
    have simU : ∀ {st' : SS}, UOk st2 st' p q → UOk st st' a b := by
      intro st' U
      refine ⟨U.wf, U.len.trans S.len, fun h => S.clash.symm.trans (U.clash h), fun r z hz => ?_, fun h => U.eqv (S.eqv.1 h), fun h => ?_, fun {v} s hv => ?_, fun {P} c h => ?_⟩
      · obtain ⟨z1, hz1, a1, a2, a3⟩ := S.shape r z hz
        obtain ⟨z2, hz2, b1, b2, b3⟩ := U.shape r z1 hz1
        exact ⟨z2, hz2, b1.trans a1, b2.trans a2, b3.trans a3⟩
      · exact ((U.eqv ⟨p, ra2, ra2.self⟩).trans (U.one h)).trans (U.eqv ⟨q, rb2.self, rb2⟩)
      · have s2 := S.sat.1 s
        exact U.sat s2 (by rw [← s2.root a p ra2, ← s2.root b q rb2]; exact hv)
      · refine U.closed ?_ h
        intro R hR he hP r p' x' y' hx' hr' hy' hs'
        refine (S.closed c) R hR he (fun w hw => ?_) r p' x' y' hx' hr' hy' hs'
        simp only [List.mem_cons] at hw
        rcases hw with rfl | hw
        · exact hR.trans (he _ _ ⟨p, ra2, ra2.self⟩) (hR.trans (hP (p, q) (by simp)) (he _ _ ⟨q, rb2.self, rb2⟩))
        · exact hP w (by simp [hw])
    by_cases hpq : p = q
    · refine ⟨max n1 n2 + 1, st2, fun n hn => by rw [unf n hn, if_pos hpq], simU ⟨⟨f, W2⟩, rfl, id, fun r z hz => ⟨z, hz, rfl, rfl, rfl⟩, id, fun _ => ⟨p, ra2.self, by rw [← hpq]; exact ra2.self⟩, fun s _ => s, fun {P} c _ => ?_⟩, hF2⟩
      intro R hR he hP r p' x' y' hx' hr' hy' hs'
      refine c R hR he (fun w hw => ?_) r p' x' y' hx' hr' hy' hs'
      simp only [List.mem_cons] at hw
      rcases hw with rfl | hw
      · exact he _ _ ⟨p, ra2.self, by rw [← hpq]; exact ra2.self⟩
      · exact hP w hw
    -- a variable is put
    have putOne : ∀ {c d : Nat} {z : Sh}, st2.shs[c]? = some z → z.same = c → RootOf st2 d d → c ≠ d → z.sort = 0 → (∀ v : Nat → Ty, v p = v q → v c = v d) → (∀ R : Nat → Nat → Prop, Rel R → R c d → R p q) → (∀ s' : SS, s'.eqv c d → s'.eqv p q) → UOk st2 (setSame st2 c z d) p q ∧ (setSame st2 c z d).few (k + 1) := by
      intro c d z hz hzs hd hcd h0 hv hRc hEq
      obtain ⟨Wj, J⟩ := join W2 hz hzs hd hcd (fun _ _ => .inl h0)
      have hcc : RootOf st2 c c := .here hz hzs
      refine ⟨⟨Wj, J.len, fun h => J.clash.symm.trans h, J.shape, J.eqv, fun _ => hEq _ (J.one hcc hd hcd), fun {v} s h => J.sat s (hv v h), fun {P} cl _ => ?_⟩, ?_⟩
      · intro R hR he hP r p' x' y' hx' hr' hy' hs'
        obtain ⟨x2, hx2, e1, e2, e3⟩ := J.back hx'
        obtain ⟨y2, hy2, d1, d2, d3⟩ := J.back hy'
        rw [e2, e3, d2, d3]
        rcases (J.root r p').1 hr' with ⟨h1, rfl⟩ | ⟨h1, _⟩
        · have := W2.like r c x2 z hx2 h1 hz (by rw [← e1]; omega)
          rw [h0] at this
          rw [e1] at hs'
          omega
        · refine cl R hR (fun u w h => he u w (J.eqv h)) (fun w hw => ?_) r p' x2 y2 hx2 h1 hy2 (by rw [← e1]; exact hs')
          simp only [List.mem_cons] at hw
          rcases hw with rfl | hw
          · exact hRc R hR (he _ _ (J.one hcc hd hcd))
          · exact hP w hw
      · obtain ⟨L, h1, h2⟩ := hF2
        refine ⟨L, h1, fun r hr => ?_⟩
        rcases (J.root r r).1 hr with ⟨h3, rfl⟩ | ⟨h3, _⟩
        · exact h2 _ hd
        · exact h2 r h3
    by_cases hx0 : x.sort = 0
    · obtain ⟨U, F⟩ := putOne hx hxs rb2.self hpq hx0 (fun _ h => h) (fun _ _ h => h) (fun _ h => h)
      exact ⟨max n1 n2 + 1, _, fun n hn => by rw [unf n hn, if_neg hpq, if_pos hx0], simU U, F⟩
    by_cases hy0 : y.sort = 0
    · obtain ⟨U, F⟩ := putOne hy hys ra2.self (Ne.symm hpq) hy0 (fun _ h => h.symm) (fun _ hR h => hR.symm h) (fun _ h => h.symm)
      exact ⟨max n1 n2 + 1, _, fun n hn => by rw [unf n hn, if_neg hpq, if_neg hx0, if_pos hy0], simU U, F⟩
    by_cases hxy : x.sort = y.sort
    rotate_left
    · refine ⟨max n1 n2 + 1, _, fun n hn => by rw [unf n hn, if_neg hpq, if_neg hx0, if_neg hy0, if_neg hxy], simU ?_, ?_⟩
      · have rt : ∀ r p', RootOf st2 r p' ↔ RootOf { st2 with clash := true } r p' := by
          intro r p'
          constructor <;> (intro h; induction h with | here a b => exact .here a b | step a b _ c => exact .step a b c)
        refine ⟨⟨f, W2.rank, W2.range, W2.sort, W2.leaf, fun r p' z u hz hr => W2.like r p' z u hz ((rt _ _).2 hr)⟩, rfl, fun h => by simp at h, fun r z hz => ⟨z, hz, rfl, rfl, rfl⟩, fun ⟨c, h1, h2⟩ => ⟨c, (rt _ _).1 h1, (rt _ _).1 h2⟩, fun h => by simp at h, fun {v} s hv => ?_, fun {P} _ h => by simp at h⟩
        exact absurd hv (says_clash (s.shape p x hx) (s.shape q y hy) (W2.sort p x hx) (W2.sort q y hy) hx0 hy0 hxy)
      · obtain ⟨L, h1, h2⟩ := hF2
        refine ⟨L, h1, fun r hr => h2 r ?_⟩
        obtain ⟨z, h3, h4⟩ := hr.root
        exact .here h3 h4
    -- both are made
    obtain ⟨⟨fj, Wj⟩, J⟩ := join W2 hx hxs rb2.self hpq (fun y' hy' => by rw [hy] at hy'; cases hy'; exact .inr hxy.symm)
    have one := J.one ra2.self rb2.self hpq
    have Fj : (setSame st2 p x q).few k := by
      obtain ⟨L, h1, h2⟩ := hF2
      refine ⟨L.erase p, ?_, fun r hr => ?_⟩
      · rw [List.length_erase_of_mem (h2 p ra2.self)]; omega
      · rcases (J.root r r).1 hr with ⟨h3, rfl⟩ | ⟨h3, h4⟩
        · exact (List.mem_erase_of_ne (Ne.symm hpq)).2 (h2 _ rb2.self)
        · exact (List.mem_erase_of_ne h4).2 (h2 r h3)
    have rx := W2.range p x hx
    have ry := W2.range q y hy
    obtain ⟨n3, st3, h3, U3, F3⟩ := ih (a := x.left) (b := y.left) Wj Fj (by rw [J.len]; exact rx.2.1) (by rw [J.len]; exact ry.2.1)
    obtain ⟨f3, W3⟩ := U3.wf
    obtain ⟨n4, st4, h4, U4, F4⟩ := ih (a := x.right) (b := y.right) W3 F3 (by rw [U3.len, J.len]; exact rx.2.2) (by rw [U3.len, J.len]; exact ry.2.2)
    refine ⟨max (max n1 n2) (max n3 n4) + 1, st4, fun n hn => ?_, simU ?_, ?_⟩
    · rw [unf n (by omega), if_neg hpq, if_neg hx0, if_neg hy0, if_pos hxy, h3 (n - 1) (by omega)]
      exact h4 (n - 1) (by omega)
    · refine ⟨U4.wf, by rw [U4.len, U3.len, J.len], fun h => J.clash.symm.trans (U3.clash (U4.clash h)), fun r z hz => ?_, fun h => U4.eqv (U3.eqv (J.eqv h)), fun _ => U4.eqv (U3.eqv one), fun {v} s hv => ?_, fun {P} c h => ?_⟩
      · obtain ⟨z1, hz1, a1, a2, a3⟩ := J.shape r z hz
        obtain ⟨z2, hz2, b1, b2, b3⟩ := U3.shape r z1 hz1
        obtain ⟨z3, hz3, c1, c2, c3⟩ := U4.shape r z2 hz2
        exact ⟨z3, hz3, c1.trans (b1.trans a1), c2.trans (b2.trans a2), c3.trans (b3.trans a3)⟩
      · have hlr : v x.left = v y.left ∧ v x.right = v y.right := by
          by_cases hm : x.sort = 3 ∨ x.sort = 4
          · exact says_same (s.shape p x hx) (s.shape q y hy) hxy hv hm
          · have lx := W2.leaf p x hx (fun h => hm (.inl h)) (fun h => hm (.inr h))
            have ly := W2.leaf q y hy (fun h => hm (.inl (hxy.trans h))) (fun h => hm (.inr (hxy.trans h)))
            rw [lx.1, lx.2, ly.1, ly.2]
            exact ⟨rfl, rfl⟩
        exact U4.sat (U3.sat (J.sat s hv) hlr.1) hlr.2
      · refine U4.closed (U3.closed ?_ (U4.clash h)) h
        intro R hR he hP r p' x' y' hx' hr' hy' hs'
        obtain ⟨x2, hx2, e1, e2, e3⟩ := J.back hx'
        obtain ⟨y2, hy2, d1, d2, d3⟩ := J.back hy'
        rw [e2, e3, d2, d3]
        have hRl : R x.left y.left := hP (x.left, y.left) (by simp)
        have hRr : R x.right y.right := hP (x.right, y.right) (by simp)
        have key : ∀ p'' y'', RootOf st2 r p'' → st2.shs[p'']? = some y'' → R x2.left y''.left ∧ R x2.right y''.right := fun p'' y'' h1 h2 => by
          refine c R hR (fun u w h => he u w (J.eqv h)) (fun w hw => ?_) r p'' x2 y'' hx2 h1 h2 (by rw [← e1]; exact hs')
          simp only [List.mem_cons] at hw
          rcases hw with rfl | hw
          · exact he _ _ one
          · exact hP w (by simp [hw])
        rcases (J.root r p').1 hr' with ⟨h1, rfl⟩ | ⟨h1, _⟩
        · rw [hy] at hy2
          cases hy2
          obtain ⟨k1, k2⟩ := key p x h1 hx
          exact ⟨hR.trans k1 hRl, hR.trans k2 hRr⟩
        · exact key p' y2 h1 hy2
    · obtain ⟨L, h1, h2⟩ := F4
      exact ⟨L, by omega, h2⟩

theorem SS.few_len {st : SS} : st.few st.shs.length := ⟨List.range st.shs.length, by simp, fun r hr => List.mem_range.2 hr.lt.1⟩

theorem unify_ok {st : SS} {f : Nat → Nat} {a b : Nat} (W : st.Wf f) (ha : a < st.shs.length) (hb : b < st.shs.length) : ∃ n0 st', (∀ n, n0 ≤ n → unifyS n st a b = some st') ∧ UOk st st' a b := by
  obtain ⟨n0, st', h1, h2, _⟩ := unify_spec st.shs.length W SS.few_len ha hb
  exact ⟨n0, st', h1, h2⟩

theorem UOk.sound {st st' : SS} {a b : Nat} (U : UOk st st' a b) {v : Nat → Ty} (s : st'.sat v) : st.sat v ∧ v a = v b := by
  have eq : ∀ {x y}, st'.eqv x y → v x = v y := fun ⟨p, h1, h2⟩ => (s.root _ _ h1).trans (s.root _ _ h2).symm
  refine ⟨⟨U.clash s.clash, fun r p hr => eq (U.eqv ⟨p, hr, hr.self⟩), fun r x hx => ?_⟩, eq (U.one s.clash)⟩
  obtain ⟨y, hy, e1, e2, e3⟩ := U.shape r x hx
  exact Sh.says_of e1.symm e2.symm e3.symm (s.shape r y hy)

end Go.Proofs.YtckhafpejefbbaaGreatDoor.Tw

/- Types of texts, by the document's rules; infer finds just these. -/
namespace Go.Proofs.YtckhafpejefbbaaGreatDoor.Tw
open Go

structure AOk (st st' : SS) (x : Sh) : Prop where
  wf : ∃ f, st'.Wf f
  len : st'.shs.length = st.shs.length + 1
  clash : st'.clash = st.clash
  old : ∀ (r : Nat) (y : Sh), st.shs[r]? = some y → st'.shs[r]? = some y
  sat : ∀ {v : Nat → Ty}, st'.sat v ↔ st.sat v ∧ x.says v st.shs.length
  closed : ∀ {P}, st.Closed P → st'.Closed P

theorem add_ok {st : SS} {f : Nat → Nat} (W : st.Wf f) {of : Int} {l r : Nat} (hs : of = 0 ∨ of = 1 ∨ of = 2 ∨ of = 3 ∨ of = 4) (hl : l < st.shs.length + 1) (hr' : r < st.shs.length + 1) (h0 : of ≠ 3 → of ≠ 4 → l = 0 ∧ r = 0) (hn : st.shs.length ≤ 10000000) :
    ∃ st', addS of l r st = some (st.shs.length, st') ∧ AOk st st' ⟨of, l, r, st.shs.length⟩ := by
  refine ⟨_, by rw [addS, if_pos hn], ?_⟩
  have old : ∀ (q : Nat) (y : Sh), st.shs[q]? = some y → (st.shs ++ [(⟨of, l, r, st.shs.length⟩ : Sh)])[q]? = some y := fun q y h => by
    rw [List.getElem?_append_left (List.getElem?_eq_some_iff.1 h).1]; exact h
  have new : ∀ (q : Nat) (y : Sh), (st.shs ++ [(⟨of, l, r, st.shs.length⟩ : Sh)])[q]? = some y → st.shs[q]? = some y ∨ (q = st.shs.length ∧ y = ⟨of, l, r, st.shs.length⟩) := fun q y h => by
    rcases Nat.lt_or_ge q st.shs.length with hq | hq
    · rw [List.getElem?_append_left hq] at h; exact .inl h
    · rw [List.getElem?_append_right hq] at h
      have h2 := (List.getElem?_eq_some_iff.1 h).1
      simp at h2
      have : q = st.shs.length := by omega
      subst this
      simp at h
      exact .inr ⟨rfl, h.symm⟩
  have at_ : (st.shs ++ [(⟨of, l, r, st.shs.length⟩ : Sh)])[st.shs.length]? = some ⟨of, l, r, st.shs.length⟩ := by simp
  have fwd : ∀ q p, RootOf st q p → RootOf { st with shs := st.shs ++ [(⟨of, l, r, st.shs.length⟩ : Sh)] } q p := by
    intro q p h
    induction h with
    | here h1 h2 => exact .here (old _ _ h1) h2
    | step h1 h2 _ ih => exact .step (old _ _ h1) h2 ih
  have root : ∀ q p, RootOf { st with shs := st.shs ++ [(⟨of, l, r, st.shs.length⟩ : Sh)] } q p → RootOf st q p ∨ (q = st.shs.length ∧ p = st.shs.length) := by
    intro q p h
    have hq := h.lt.1
    simp at hq
    rcases Nat.lt_or_ge q st.shs.length with h1 | h1
    · obtain ⟨p', hp'⟩ := W.rooted h1
      have := (fwd q p' hp').unique h
      subst this
      exact .inl hp'
    · have : q = st.shs.length := by omega
      subst this
      exact .inr ⟨rfl, (RootOf.here (x := ⟨of, l, r, st.shs.length⟩) at_ rfl).unique h |>.symm⟩
  refine ⟨⟨f, ?_, ?_, ?_, ?_, ?_⟩, by simp, rfl, old, fun {v} => ⟨fun s => ⟨⟨s.clash, fun q p h => s.root q p (fwd q p h), fun q y h => s.shape q y (old q y h)⟩, s.shape _ _ at_⟩, fun ⟨s, h⟩ => ⟨s.clash, fun q p hq => ?_, fun q y hy => ?_⟩⟩, fun {P} c => ?_⟩
  · intro q y hy hn
    rcases new q y hy with h | ⟨h, rfl⟩
    · exact W.rank q y h hn
    · exact absurd h.symm hn
  · intro q y hy
    simp only [List.length_append, List.length_singleton]
    rcases new q y hy with h | ⟨h, rfl⟩
    · have := W.range q y h; omega
    · exact ⟨by simp, hl, hr'⟩
  · intro q y hy
    rcases new q y hy with h | ⟨h, rfl⟩
    · exact W.sort q y h
    · exact hs
  · intro q y hy
    rcases new q y hy with h | ⟨h, rfl⟩
    · exact W.leaf q y h
    · exact h0
  · intro q p y z hy hr hz hne
    rcases root q p hr with h | ⟨h1, h2⟩
    · have hq := h.lt
      rcases new q y hy with h3 | ⟨h3, _⟩
      · rcases new p z hz with h4 | ⟨h4, _⟩
        · exact W.like q p y z h3 h h4 hne
        · omega
      · omega
    · subst h1; subst h2
      have := at_.symm.trans hy
      have h3 := at_.symm.trans hz
      cases this
      cases h3
      rfl
  · rcases root q p hq with h1 | ⟨h1, h2⟩
    · exact s.root q p h1
    · rw [h1, h2]
  · rcases new q y hy with h1 | ⟨h1, rfl⟩
    · exact s.shape q y h1
    · rw [h1]; exact h
  · intro R hR he hP q p y z hy hr hz hs'
    rcases root q p hr with h | ⟨h1, h2⟩
    · have hq := h.lt
      rcases new q y hy with h3 | ⟨h3, _⟩
      · rcases new p z hz with h4 | ⟨h4, _⟩
        · exact c R hR (fun a b ⟨u, h5, h6⟩ => he a b ⟨u, fwd _ _ h5, fwd _ _ h6⟩) hP q p y z h3 h h4 hs'
        · omega
      · omega
    · subst h1; subst h2
      have h3 := at_.symm.trans hy
      have h4 := at_.symm.trans hz
      cases h3
      cases h4
      have rooted : ∀ u, u < st.shs.length + 1 → ∃ p, RootOf { st with shs := st.shs ++ [(⟨of, l, r, st.shs.length⟩ : Sh)] } u p := fun u hu => by
        rcases Nat.lt_or_ge u st.shs.length with h1 | h1
        · obtain ⟨p, hp⟩ := W.rooted h1
          exact ⟨p, fwd _ _ hp⟩
        · have : u = st.shs.length := by omega
          subst this
          exact ⟨_, .here at_ rfl⟩
      obtain ⟨pl, hpl⟩ := rooted l hl
      obtain ⟨pr, hpr⟩ := rooted r hr'
      exact ⟨he _ _ ⟨pl, hpl, hpl⟩, he _ _ ⟨pr, hpr, hpr⟩⟩

inductive TEn where
  | nil
  | fix (name : List UInt8) (a : Ty) (o : TEn)
  | dfn (name : List UInt8) (t : T) (o : TEn)

def TEn.look : TEn → List UInt8 → Option (Ty ⊕ (T × TEn))
  | .nil, _ => none
  | .fix n a o, x => if n = x then some (.inl a) else o.look x
  | .dfn n t o, x => if n = x then some (.inr (t, o)) else o.look x

mutual
inductive Typ : T → TEn → Ty → Prop
  | name {fr to : Nat} {x : List UInt8} {e : TEn} {a : Ty} (h : e.look x = some (.inl a)) : Typ (.name fr to x) e a
  | use {fr to : Nat} {x : List UInt8} {e o : TEn} {t : T} {a : Ty} (h : e.look x = some (.inr (t, o))) (hd : DTyp t o a) : Typ (.name fr to x) e a
  | int {fr to : Nat} {v : Int} {e : TEn} : Typ (.int fr to v) e .int
  | truth {fr to : Nat} {b : Bool} {e : TEn} : Typ (.truth fr to b) e .bool
  | side {fr to : Nat} {b : Bool} {e : TEn} {a c : Ty} : Typ (.side fr to b) e (.fn (.pair a c) (if b then c else a))
  | bracket {fr to : Nat} {i : T} {e : TEn} {a : Ty} (h : Typ i e a) : Typ (.bracket fr to i) e a
  | pair {fr to : Nat} {l r : T} {e : TEn} {a b : Ty} (hl : Typ l e a) (hr : Typ r e b) : Typ (.pair fr to l r) e (.pair a b)
  | call {fr to : Nat} {f x : T} {e : TEn} {a b : Ty} (hf : Typ f e (.fn a b)) (hx : Typ x e a) : Typ (.call fr to f x) e b
  | binary {fr to : Nat} {s : Int} {l r : T} {e : TEn} (hl : Typ l e .int) (hr : Typ r e .int) : Typ (.binary fr to s l r) e (if s = 23 ∨ s = 15 then .bool else .int)
  | cond {fr to : Nat} {c t f : T} {e : TEn} {a : Ty} (hc : Typ c e .bool) (ht : Typ t e a) (hf : Typ f e a) : Typ (.cond fr to c t f) e a
  | fn {fr to bat : Nat} {bn : List UInt8} {b : T} {e : TEn} {a c : Ty} (h : Typ b (.fix bn a e) c) : Typ (.fn fr to bn bat b) e (.fn a c)
  | lett {fr to bat : Nat} {rc : Bool} {bn : List UInt8} {d b : T} {e : TEn} {a c : Ty} (hd : DTyp (.lett fr to rc bn bat d b) e a) (hb : Typ b (.dfn bn (.lett fr to rc bn bat d b) e) c) : Typ (.lett fr to rc bn bat d b) e c
inductive DTyp : T → TEn → Ty → Prop
  | plain {fr to bat : Nat} {bn : List UInt8} {d b : T} {e : TEn} {a : Ty} (h : Typ d e a) : DTyp (.lett fr to false bn bat d b) e a
  | recu {fr to bat : Nat} {bn : List UInt8} {d b : T} {e : TEn} {a : Ty} (h : Typ d (.fix bn a e) a) : DTyp (.lett fr to true bn bat d b) e a
end

def En.val (v : Nat → Ty) : En → TEn
  | .nil => .nil
  | .fix n r o => .fix n (v r) (o.val v)
  | .dfn n t o => .dfn n t (o.val v)

theorem En.look_val (v : Nat → Ty) (x : List UInt8) : ∀ e : En, (e.val v).look x = (e.look x).map fun | .inl r => .inl (v r) | .inr (t, o) => .inr (t, o.val v)
  | .nil => rfl
  | .fix n r o => by
    simp only [En.val, TEn.look, En.look]
    split
    · rfl
    · exact En.look_val v x o
  | .dfn n t o => by
    simp only [En.val, TEn.look, En.look]
    split
    · rfl
    · exact En.look_val v x o

def En.upto (n : Nat) : En → Prop
  | .nil => True
  | .fix _ r o => r < n ∧ o.upto n
  | .dfn _ _ o => o.upto n

theorem En.upto.mono {n m : Nat} (h : n ≤ m) : ∀ {e : En}, e.upto n → e.upto m
  | .nil, _ => trivial
  | .fix .., k => ⟨by have := k.1; omega, En.upto.mono h k.2⟩
  | .dfn _ _ o, k => En.upto.mono (e := o) h k

theorem En.upto.look {n : Nat} {x : List UInt8} : ∀ {e : En}, e.upto n → (∀ r, e.look x = some (.inl r) → r < n) ∧ ∀ t o, e.look x = some (.inr (t, o)) → o.upto n
  | .nil, _ => ⟨fun _ h => by simp [En.look] at h, fun _ _ h => by simp [En.look] at h⟩
  | .fix nm r o, k => by
    have ih := En.upto.look (x := x) k.2
    simp only [En.look]
    split
    · exact ⟨fun _ h => (by cases h; exact k.1), fun _ _ h => (by cases h)⟩
    · exact ih
  | .dfn nm t o, k => by
    have ih := En.upto.look (x := x) (e := o) k
    simp only [En.look]
    split
    · exact ⟨fun _ h => (by cases h), fun _ _ h => (by cases h; exact k)⟩
    · exact ih

def Agree (n : Nat) (v v' : Nat → Ty) : Prop := ∀ r, r < n → v' r = v r

theorem En.val_agree {n : Nat} {v v' : Nat → Ty} (h : Agree n v v') : ∀ {e : En}, e.upto n → e.val v' = e.val v
  | .nil, _ => rfl
  | .fix .., k => by simp only [En.val]; rw [h _ k.1, En.val_agree h k.2]
  | .dfn _ _ o, k => by simp only [En.val]; rw [En.val_agree (e := o) h k]

theorem Agree.trans {n m : Nat} {a b c : Nat → Ty} (h : Agree n a b) (k : Agree m b c) (hn : n ≤ m) : Agree n a c := fun r hr => (k r (by omega)).trans (h r hr)

def SS.base (st : SS) : Prop := (∃ x, st.shs[0]? = some x ∧ x.sort = 1) ∧ ∃ x, st.shs[1]? = some x ∧ x.sort = 2

theorem SS.base.len {st : SS} (h : st.base) : 2 ≤ st.shs.length := by
  obtain ⟨_, x, h1, _⟩ := h
  have := (List.getElem?_eq_some_iff.1 h1).1
  omega

theorem SS.base.vals {st : SS} (h : st.base) {v : Nat → Ty} (s : st.sat v) : v 0 = .int ∧ v 1 = .bool := by
  obtain ⟨⟨x, h1, h2⟩, y, h3, h4⟩ := h
  exact ⟨(s.shape 0 x h1).1 h2, (s.shape 1 y h3).2.1 h4⟩

structure IOk (J : TEn → Ty → Prop) (e : En) (st st' : SS) (r k : Nat) : Prop where
  wf : ∃ f, st'.Wf f
  lt : r < st'.shs.length
  low : st.shs.length ≤ st'.shs.length
  high : st'.shs.length ≤ st.shs.length + k
  base : st'.base
  clash : st'.clash = false → st.clash = false
  closed : st.Closed [] → st'.clash = false → st'.Closed []
  sound : ∀ {v : Nat → Ty}, st'.sat v → st.sat v ∧ J (e.val v) (v r)
  complete : ∀ {v : Nat → Ty} {a : Ty}, st.sat v → J (e.val v) a → ∃ v', Agree st.shs.length v v' ∧ st'.sat v' ∧ v' r = a

def IGood (run : Nat → SS → Option (Nat × SS)) (J : TEn → Ty → Prop) (e : En) (k : Nat) : Prop :=
  ∀ (st : SS) (f : Nat → Nat), st.Wf f → st.base → e.upto st.shs.length → st.shs.length + k ≤ 10000000 → ∃ n0 r st', (∀ n, n0 ≤ n → run n st = some (r, st')) ∧ IOk J e st st' r k

theorem IGood.mono {run : Nat → SS → Option (Nat × SS)} {J : TEn → Ty → Prop} {e : En} {k k' : Nat} (h : IGood run J e k) (hk : k ≤ k') : IGood run J e k' := fun st f W b hb hl => by
  obtain ⟨n0, r, st', h1, h2⟩ := h st f W b hb (by omega)
  exact ⟨n0, r, st', h1, { h2 with high := by have := h2.high; omega }⟩

theorem AOk.base {st st' : SS} {x : Sh} (h : AOk st st' x) (b : st.base) : st'.base := by
  obtain ⟨⟨x, h1, h2⟩, y, h3, h4⟩ := b
  exact ⟨⟨x, h.old _ _ h1, h2⟩, y, h.old _ _ h3, h4⟩

theorem UOk.base {st st' : SS} {a b : Nat} (h : UOk st st' a b) (k : st.base) : st'.base := by
  obtain ⟨⟨x, h1, h2⟩, y, h3, h4⟩ := k
  obtain ⟨x', g1, g2, _⟩ := h.shape _ _ h1
  obtain ⟨y', g3, g4, _⟩ := h.shape _ _ h3
  exact ⟨⟨x', g1, g2.trans h2⟩, y', g3, g4.trans h4⟩

theorem SS.Closed.more {st : SS} {P Q : List (Nat × Nat)} (h : st.Closed P) (hs : ∀ q ∈ P, q ∈ Q) : st.Closed Q := fun R hR he hP => h R hR he (fun q hq => hP q (hs q hq))

def upd (v : Nat → Ty) (r : Nat) (a : Ty) : Nat → Ty := fun q => if q = r then a else v q

theorem upd_agree (v : Nat → Ty) (n : Nat) (a : Ty) : Agree n v (upd v n a) := fun r hr => by unfold upd; rw [if_neg (by omega)]

theorem SS.sat.agree {st : SS} {f : Nat → Nat} (W : st.Wf f) {v v' : Nat → Ty} (s : st.sat v) (h : Agree st.shs.length v v') : st.sat v' := by
  refine ⟨s.clash, fun r p hr => ?_, fun r x hx => ?_⟩
  · rw [h r hr.lt.1, h p hr.lt.2]; exact s.root r p hr
  · have hr := (List.getElem?_eq_some_iff.1 hx).1
    obtain ⟨_, h1, h2⟩ := W.range r x hx
    have := s.shape r x hx
    unfold Sh.says at this ⊢
    rw [h r hr, h _ h1, h _ h2]
    exact this

theorem AOk.put {st st' : SS} {x : Sh} {f : Nat → Nat} (A : AOk st st' x) (W : st.Wf f) {v : Nat → Ty} (s : st.sat v) {a : Ty} (h : x.says (upd v st.shs.length a) st.shs.length) : ∃ v', Agree st.shs.length v v' ∧ st'.sat v' ∧ v' st.shs.length = a :=
  ⟨upd v st.shs.length a, upd_agree _ _ _, A.sat.2 ⟨s.agree W (upd_agree _ _ _), h⟩, by simp [upd]⟩

end Go.Proofs.YtckhafpejefbbaaGreatDoor.Tw
