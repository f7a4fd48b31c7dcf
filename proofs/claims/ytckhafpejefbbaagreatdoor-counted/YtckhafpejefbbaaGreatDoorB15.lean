/- Texts of the proof, put together: RunEval. -/
import Derived.Test.YtckhafpejefbbaaGreatDoorB14

/- Package run: eval whole; Text. -/
namespace Go.Proofs.YtckhafpejefbbaaGreatDoor
open Go.RowKit

variable {B : Nat}

set_option maxRecDepth 100000 in
set_option maxHeartbeats 2000000 in
theorem ev_Name {w : World} {br b bud : Nat} {sl : List Nat} {ev : Value} {c : Option Tw.Val × Tw.RS} (he : ∃ a, ev = .pointer a) (hX : Calls Tryz.prog 88 #[.pointer (some ⟨br, 0, none⟩), .pointer (some ⟨b, 0, none⟩), ev] w (EvPost B w br bud sl c)) :
    Calls Tryz.prog 50 #[.pointer (some ⟨br, 0, none⟩), .iface 83 (.pointer (some ⟨b, 0, none⟩)), ev] w (EvPost B w br bud sl c) := by
  obtain ⟨a, rfl⟩ := he
  have HX := hide hX
  have q0 := ta_Name_Name
  clear hX
  go_enter Tryz.func50, Tryz.ntmps50
  go_wp2_with fail
  refine (unhide HX).mono ?_
  rintro e1 w1 ⟨v, sl1, rfl, hx⟩
  have X : Hid (EvPost B w br bud sl c (.returned v) w1) := ⟨v, sl1, rfl, hx⟩
  clear hx
  go_wp2_with fail
  go_ret
  exact X.out

set_option maxRecDepth 100000 in
set_option maxHeartbeats 2000000 in
theorem ev_Pair {w : World} {br b bud : Nat} {sl : List Nat} {ev : Value} {c : Option Tw.Val × Tw.RS} (he : ∃ a, ev = .pointer a) (hX : Calls Tryz.prog 89 #[.pointer (some ⟨br, 0, none⟩), .pointer (some ⟨b, 0, none⟩), ev] w (EvPost B w br bud sl c)) :
    Calls Tryz.prog 50 #[.pointer (some ⟨br, 0, none⟩), .iface 207 (.pointer (some ⟨b, 0, none⟩)), ev] w (EvPost B w br bud sl c) := by
  obtain ⟨a, rfl⟩ := he
  have HX := hide hX
  have q0 := ta_Pair_Name
  have q1 := ta_Pair_Int
  have q2 := ta_Pair_Truth
  have q3 := ta_Pair_Side
  have q4 := ta_Pair_Bracket
  have q5 := ta_Pair_Pair
  clear hX
  go_enter Tryz.func50, Tryz.ntmps50
  go_wp2_with fail
  refine (unhide HX).mono ?_
  rintro e1 w1 ⟨v, sl1, rfl, hx⟩
  have X : Hid (EvPost B w br bud sl c (.returned v) w1) := ⟨v, sl1, rfl, hx⟩
  clear hx
  go_wp2_with fail
  go_ret
  exact X.out

set_option maxRecDepth 100000 in
set_option maxHeartbeats 2000000 in
theorem ev_Call {w : World} {br b bud : Nat} {sl : List Nat} {ev : Value} {c : Option Tw.Val × Tw.RS} (he : ∃ a, ev = .pointer a) (hX : Calls Tryz.prog 90 #[.pointer (some ⟨br, 0, none⟩), .pointer (some ⟨b, 0, none⟩), ev] w (EvPost B w br bud sl c)) :
    Calls Tryz.prog 50 #[.pointer (some ⟨br, 0, none⟩), .iface 209 (.pointer (some ⟨b, 0, none⟩)), ev] w (EvPost B w br bud sl c) := by
  obtain ⟨a, rfl⟩ := he
  have HX := hide hX
  have q0 := ta_Call_Name
  have q1 := ta_Call_Int
  have q2 := ta_Call_Truth
  have q3 := ta_Call_Side
  have q4 := ta_Call_Bracket
  have q5 := ta_Call_Pair
  have q6 := ta_Call_Call
  clear hX
  go_enter Tryz.func50, Tryz.ntmps50
  go_wp2_with fail
  refine (unhide HX).mono ?_
  rintro e1 w1 ⟨v, sl1, rfl, hx⟩
  have X : Hid (EvPost B w br bud sl c (.returned v) w1) := ⟨v, sl1, rfl, hx⟩
  clear hx
  go_wp2_with fail
  go_ret
  exact X.out

set_option maxRecDepth 100000 in
set_option maxHeartbeats 2000000 in
theorem ev_Binary {w : World} {br b bud : Nat} {sl : List Nat} {ev : Value} {c : Option Tw.Val × Tw.RS} (he : ∃ a, ev = .pointer a) (hX : Calls Tryz.prog 91 #[.pointer (some ⟨br, 0, none⟩), .pointer (some ⟨b, 0, none⟩), ev] w (EvPost B w br bud sl c)) :
    Calls Tryz.prog 50 #[.pointer (some ⟨br, 0, none⟩), .iface 211 (.pointer (some ⟨b, 0, none⟩)), ev] w (EvPost B w br bud sl c) := by
  obtain ⟨a, rfl⟩ := he
  have HX := hide hX
  have q0 := ta_Binary_Name
  have q1 := ta_Binary_Int
  have q2 := ta_Binary_Truth
  have q3 := ta_Binary_Side
  have q4 := ta_Binary_Bracket
  have q5 := ta_Binary_Pair
  have q6 := ta_Binary_Call
  have q7 := ta_Binary_Binary
  clear hX
  go_enter Tryz.func50, Tryz.ntmps50
  go_wp2_with fail
  refine (unhide HX).mono ?_
  rintro e1 w1 ⟨v, sl1, rfl, hx⟩
  have X : Hid (EvPost B w br bud sl c (.returned v) w1) := ⟨v, sl1, rfl, hx⟩
  clear hx
  go_wp2_with fail
  go_ret
  exact X.out

set_option maxRecDepth 100000 in
set_option maxHeartbeats 2000000 in
theorem ev_If {w : World} {br b bud : Nat} {sl : List Nat} {ev : Value} {c : Option Tw.Val × Tw.RS} (he : ∃ a, ev = .pointer a) (hX : Calls Tryz.prog 92 #[.pointer (some ⟨br, 0, none⟩), .pointer (some ⟨b, 0, none⟩), ev] w (EvPost B w br bud sl c)) :
    Calls Tryz.prog 50 #[.pointer (some ⟨br, 0, none⟩), .iface 213 (.pointer (some ⟨b, 0, none⟩)), ev] w (EvPost B w br bud sl c) := by
  obtain ⟨a, rfl⟩ := he
  have HX := hide hX
  have q0 := ta_If_Name
  have q1 := ta_If_Int
  have q2 := ta_If_Truth
  have q3 := ta_If_Side
  have q4 := ta_If_Bracket
  have q5 := ta_If_Pair
  have q6 := ta_If_Call
  have q7 := ta_If_Binary
  have q8 := ta_If_If
  clear hX
  go_enter Tryz.func50, Tryz.ntmps50
  go_wp2_with fail
  refine (unhide HX).mono ?_
  rintro e1 w1 ⟨v, sl1, rfl, hx⟩
  have X : Hid (EvPost B w br bud sl c (.returned v) w1) := ⟨v, sl1, rfl, hx⟩
  clear hx
  go_wp2_with fail
  go_ret
  exact X.out

set_option maxRecDepth 100000 in
set_option maxHeartbeats 2000000 in
theorem ev_Let {w : World} {br b bud : Nat} {sl : List Nat} {ev : Value} {c : Option Tw.Val × Tw.RS} (he : ∃ a, ev = .pointer a) (hX : Calls Tryz.prog 93 #[.pointer (some ⟨br, 0, none⟩), .pointer (some ⟨b, 0, none⟩), ev] w (EvPost B w br bud sl c)) :
    Calls Tryz.prog 50 #[.pointer (some ⟨br, 0, none⟩), .iface 136 (.pointer (some ⟨b, 0, none⟩)), ev] w (EvPost B w br bud sl c) := by
  obtain ⟨a, rfl⟩ := he
  have HX := hide hX
  have q0 := ta_Let_Name
  have q1 := ta_Let_Int
  have q2 := ta_Let_Truth
  have q3 := ta_Let_Side
  have q4 := ta_Let_Bracket
  have q5 := ta_Let_Pair
  have q6 := ta_Let_Call
  have q7 := ta_Let_Binary
  have q8 := ta_Let_If
  have q9 := ta_Let_Fun
  have q10 := ta_Let_Let
  clear hX
  go_enter Tryz.func50, Tryz.ntmps50
  go_wp2_with fail
  refine (unhide HX).mono ?_
  rintro e1 w1 ⟨v, sl1, rfl, hx⟩
  have X : Hid (EvPost B w br bud sl c (.returned v) w1) := ⟨v, sl1, rfl, hx⟩
  clear hx
  go_wp2_with fail
  go_ret
  exact X.out

set_option maxRecDepth 100000 in
set_option maxHeartbeats 2000000 in
theorem ev_Int {w : World} {br b bud : Nat} {sl : List Nat} {st : Tw.RS} {ev : Value} {fr to : Nat} {v : Int} (h : RunAt B w br bud sl st) (he : ∃ a, ev = .pointer a) (hb : w.heap[b]? = some (.cells #[.int .i64 fr, .int .i64 to, .int .i64 v] 194 (0, 0))) (hv : -9223372036854775808 ≤ v ∧ v ≤ 9223372036854775807) :
    Calls Tryz.prog 50 #[.pointer (some ⟨br, 0, none⟩), .iface 191 (.pointer (some ⟨b, 0, none⟩)), ev] w (EvPost B w br bud sl (some (.num v), st)) := by
  obtain ⟨a, rfl⟩ := he
  have HH := hide h
  obtain ⟨_, _, c2, _⟩ := three_cells hb
  have q0 := ta_Int_Name
  have q1 := ta_Int_Int
  clear h hb
  go_enter Tryz.func50, Tryz.ntmps50
  go_wp2_with fail
  go_ret
  exact ⟨_, sl, rfl, ⟨rfl, hv⟩, TK.refl _ _ _, List.prefix_refl _, unhide HH⟩

set_option maxRecDepth 100000 in
set_option maxHeartbeats 2000000 in
theorem ev_Truth {w : World} {br b bud : Nat} {sl : List Nat} {st : Tw.RS} {ev : Value} {fr to : Nat} {v : Bool} (h : RunAt B w br bud sl st) (he : ∃ a, ev = .pointer a) (hb : w.heap[b]? = some (.cells #[.int .i64 fr, .int .i64 to, .bool v] 198 (0, 0))) :
    Calls Tryz.prog 50 #[.pointer (some ⟨br, 0, none⟩), .iface 195 (.pointer (some ⟨b, 0, none⟩)), ev] w (EvPost B w br bud sl (some (.truth v), st)) := by
  obtain ⟨a, rfl⟩ := he
  have HH := hide h
  obtain ⟨_, _, c2, _⟩ := three_cells hb
  have q0 := ta_Truth_Name
  have q1 := ta_Truth_Int
  have q2 := ta_Truth_Truth
  clear h hb
  go_enter Tryz.func50, Tryz.ntmps50
  go_wp2_with fail
  go_ret
  exact ⟨_, sl, rfl, rfl, TK.refl _ _ _, List.prefix_refl _, unhide HH⟩

set_option maxRecDepth 100000 in
set_option maxHeartbeats 2000000 in
theorem ev_Side {w : World} {br b bud : Nat} {sl : List Nat} {st : Tw.RS} {ev : Value} {fr to : Nat} {v : Bool} (h : RunAt B w br bud sl st) (he : ∃ a, ev = .pointer a) (hb : w.heap[b]? = some (.cells #[.int .i64 fr, .int .i64 to, .bool v] 201 (0, 0))) :
    Calls Tryz.prog 50 #[.pointer (some ⟨br, 0, none⟩), .iface 199 (.pointer (some ⟨b, 0, none⟩)), ev] w (EvPost B w br bud sl (some (.side v), st)) := by
  obtain ⟨a, rfl⟩ := he
  have HH := hide h
  obtain ⟨_, _, c2, _⟩ := three_cells hb
  have q0 := ta_Side_Name
  have q1 := ta_Side_Int
  have q2 := ta_Side_Truth
  have q3 := ta_Side_Side
  clear h hb
  go_enter Tryz.func50, Tryz.ntmps50
  go_wp2_with fail
  go_ret
  exact ⟨_, sl, rfl, rfl, TK.refl _ _ _, List.prefix_refl _, unhide HH⟩

set_option maxRecDepth 100000 in
set_option maxHeartbeats 2000000 in
theorem ev_Bracket {w : World} {br b bud : Nat} {sl : List Nat} {ev iv : Value} {fr to : Nat} {c : Option Tw.Val × Tw.RS} (he : ∃ a, ev = .pointer a) (hi : ∃ T n, iv = .iface T (.pointer (some ⟨n, 0, none⟩))) (hb : w.heap[b]? = some (.cells #[.int .i64 fr, .int .i64 to, iv] 206 (0, 0)))
    (hX : Calls Tryz.prog 50 #[.pointer (some ⟨br, 0, none⟩), iv, ev] w (EvPost B w br bud sl c)) :
    Calls Tryz.prog 50 #[.pointer (some ⟨br, 0, none⟩), .iface 204 (.pointer (some ⟨b, 0, none⟩)), ev] w (EvPost B w br bud sl c) := by
  obtain ⟨a, rfl⟩ := he
  obtain ⟨T, k, rfl⟩ := hi
  have HX := hide hX
  obtain ⟨_, _, c2, _⟩ := three_cells hb
  have q0 := ta_Bracket_Name
  have q1 := ta_Bracket_Int
  have q2 := ta_Bracket_Truth
  have q3 := ta_Bracket_Side
  have q4 := ta_Bracket_Bracket
  clear hX hb
  go_enter Tryz.func50, Tryz.ntmps50
  go_wp2_with fail
  refine (unhide HX).mono ?_
  rintro e1 w1 ⟨v, sl1, rfl, hx⟩
  have X : Hid (EvPost B w br bud sl c (.returned v) w1) := ⟨v, sl1, rfl, hx⟩
  clear hx
  go_wp2_with fail
  go_ret
  exact X.out

set_option maxRecDepth 100000 in
set_option maxHeartbeats 2000000 in
theorem ev_Fun {w : World} {br b bud hi : Nat} {sl : List Nat} {st : Tw.RS} {e : Tw.VEnv} {ev bv : Value} {fr to bat : Nat} {bn : List UInt8} {body : Tw.T} (h : RunAt B w br bud sl st) (he : ERep w sl e ev) (hb : w.heap[b]? = some (.cells #[.int .i64 fr, .int .i64 to, bytesV bn, .int .i64 bat, bv] 235 (0, 0))) (hr : Rep w 0 hi body bv) :
    Calls Tryz.prog 50 #[.pointer (some ⟨br, 0, none⟩), .iface 215 (.pointer (some ⟨b, 0, none⟩)), ev] w (EvPost B w br bud sl (some (.clo fr to bn bat body e), st)) := by
  have HE := hide he
  have HH := hide h
  have HB := hide hb
  have HR := hide hr
  obtain ⟨a, rfl⟩ := he.ptr
  have q0 := ta_Fun_Name
  have q1 := ta_Fun_Int
  have q2 := ta_Fun_Truth
  have q3 := ta_Fun_Side
  have q4 := ta_Fun_Bracket
  have q5 := ta_Fun_Pair
  have q6 := ta_Fun_Call
  have q7 := ta_Fun_Binary
  have q8 := ta_Fun_If
  have q9 := ta_Fun_Fun
  clear h hb hr he
  go_enter Tryz.func50, Tryz.ntmps50
  go_wp2_with fail
  go_ret
  have G := World.grownBy_alloc w (.cells #[.pointer (some ⟨b, 0, none⟩), .pointer a] 218) none
  exact ⟨_, sl, rfl, ⟨_, b, _, bv, hi, rfl, new_block w _, (G.block b (Array.getElem?_eq_some_iff.1 (unhide HB)).1 (by simp)).trans (unhide HB), (unhide HR).grown G (Nat.le_refl _) (Nat.le_refl _), (unhide HE).tk (TK.of_grown 0 _ G) (List.prefix_refl _)⟩, TK.of_grown _ _ G, List.prefix_refl _, (unhide HH).keep G⟩

theorem eval_step {n : Nat} (hE : EvSaid B n) : EvSaid B (n + 1) := by
  intro w br bud hi sl st t e tv ev r h hr he hf
  cases t with
  | name fr to x =>
    obtain ⟨b, _, _, rfl, hb⟩ := hr
    exact ev_Name he.ptr (rname_any h hb he hf)
  | int fr to v =>
    obtain ⟨b, _, _, rfl, hb⟩ := hr
    rw [Tw.evalS] at hf
    split at hf
    · rename_i hv
      cases hf
      exact ev_Int h he.ptr hb hv
    · cases hf
  | truth fr to v =>
    obtain ⟨b, _, _, rfl, hb⟩ := hr
    cases hf
    exact ev_Truth h he.ptr hb
  | side fr to v =>
    obtain ⟨b, _, _, rfl, hb⟩ := hr
    cases hf
    exact ev_Side h he.ptr hb
  | bracket fr to i =>
    obtain ⟨v1, ⟨b, _, _, rfl, hb⟩, r1⟩ := hr
    exact ev_Bracket he.ptr r1.iface hb (hE h r1 he hf)
  | pair fr to l q =>
    obtain ⟨v1, v2, ⟨b, _, _, rfl, hb⟩, r1, r2⟩ := hr
    exact ev_Pair he.ptr (rpair_any hE h hb r1 r2 he hf)
  | call fr to f a =>
    obtain ⟨v1, v2, ⟨b, _, _, rfl, hb⟩, r1, r2⟩ := hr
    exact ev_Call he.ptr (rcall_any hE h hb r1 r2 he hf)
  | binary fr to sg l q =>
    obtain ⟨v1, v2, ⟨b, _, _, rfl, hb⟩, r1, r2⟩ := hr
    exact ev_Binary he.ptr (rbinary_any hE h hb r1 r2 he hf)
  | cond fr to c t f =>
    obtain ⟨v1, v2, v3, ⟨b, _, _, rfl, hb⟩, r1, r2, r3⟩ := hr
    exact ev_If he.ptr (rchoice_any hE h hb r1 r2 r3 he hf)
  | fn fr to bn bat body =>
    obtain ⟨v1, ⟨b, _, _, rfl, hb⟩, r1⟩ := hr
    cases hf
    exact ev_Fun h he hb r1
  | lett fr to rc bn bat d x =>
    obtain ⟨v1, v2, ⟨b, _, _, rfl, hb⟩, r1, r2⟩ := hr
    exact ev_Let he.ptr (rlet_any hE h hb r1 r2 he hf)

theorem eval_all : ∀ n, EvSaid B n
  | 0 => fun _ _ _ hf => by simp [Tw.evalS] at hf
  | n + 1 => eval_step (eval_all n)

end Go.Proofs.YtckhafpejefbbaaGreatDoor
