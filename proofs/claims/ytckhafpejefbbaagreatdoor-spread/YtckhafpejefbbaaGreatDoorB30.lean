/- Texts of the proof, put together: AltInl9, TextInl, SprThy, BackWalk, SprWalk, SprF. -/
import Derived.Test.YtckhafpejefbbaaGreatDoorB29
import Derived.Test.YtckhafpejefbbaaGreatDoorB27
import Derived.Test.YtckhafpejefbbaaGreatDoorB25
import Derived.Test.YtckhafpejefbbaaGreatDoorB17

/- alter.Inline of a text that was opened. -/
namespace Go.Proofs.YtckhafpejefbbaaGreatDoor
open Go.RowKit

theorem near_all {l : List UInt8} {t : Tw.T} {body : List Tw.Tok} (ho : Opened l t body) {w : World} {hi : Nat} {tv : Value} {LN : List TN} (hN : NDL w hi t tv LN) : ∀ z ∈ LN, z.t.near := fun z hz => by
  have hb := hN.binds
  cases hzb : z.bind with
  | none =>
    have hzr := hN.rep.2 z hz
    obtain ⟨zt, zv⟩ := z
    cases zt with
    | fn => obtain ⟨_, ⟨b, _, _, rfl, _⟩, _⟩ := hzr; simp [TN.bind] at hzb
    | lett => obtain ⟨_, _, ⟨b, _, _, rfl, _⟩, _⟩ := hzr; simp [TN.bind] at hzb
    | _ => exact trivial
  | some B =>
    have hzm : z.t ∈ t.binds := by rw [← hb]; exact List.mem_map_of_mem (List.mem_filter.2 ⟨hz, by rw [hzb]; rfl⟩)
    have := (ho.bind hzm).2
    obtain ⟨zt, zv⟩ := z
    cases zt with
    | fn => simp only [Tw.T.bpl, Tw.T.bname, Tw.T.near] at this ⊢; omega
    | lett => simp only [Tw.T.bpl, Tw.T.bname, Tw.T.near] at this ⊢; omega
    | _ => exact trivial

theorem inl_set {w : World} {hi : Nat} {tv : Value} {l : List UInt8} {t : Tw.T} {body : List Tw.Tok} (hrep : Rep w 0 hi t tv) (ho : Opened l t body) {f0 t0 k0 : Nat} {r : Bool} {x : List UInt8} {d b : Tw.T} (hn : .lett f0 t0 r x k0 d b ∈ t.binds) {a : Int} (h1 : (k0 : Int) ≤ a) (h2 : a < (k0 : Int) + x.length) :
    ∃ LN k dv bv, NDL w hi t tv LN ∧ (∀ z ∈ LN, z.t.near) ∧ hitL a LN = some ⟨.lett f0 t0 r x k0 d b, .iface 136 (.pointer (some ⟨k, 0, none⟩))⟩ ∧ w.heap[k]? = some (.cells #[.int .i64 f0, .int .i64 t0, .bool r, bytesV x, .int .i64 k0, dv, bv] 140 (0, 0)) ∧ Rep w 0 hi d dv ∧ Rep w 0 hi b bv ∧
      Rep w 0 hi (.lett f0 t0 r x k0 d b) (.iface 136 (.pointer (some ⟨k, 0, none⟩))) ∧
      (∀ W, w.grownBy W none → Calls Tryz.prog 61 #[tv, dv] W fun e w' => e = .returned (.bool (Tw.Inl.isV (Tw.Inl.ownF t) d)) ∧ W.grownBy w' none) ∧
      ∃ cb : Bool, (cb = true ↔ Tw.Inl.captD x d b []) ∧ ∀ W, w.grownBy W none → Calls Tryz.prog 62 #[.pointer (some ⟨k, 0, none⟩)] W fun e w' => e = .returned (.bool cb) ∧ W.grownBy w' none := by
  obtain ⟨LN, hN⟩ := NDL.of_rep hrep
  have hb := hN.binds
  rw [← hb] at hn
  obtain ⟨y, hy, ey⟩ := List.mem_map.1 hn
  obtain ⟨yt, yv⟩ := y
  simp only at ey
  subst ey
  have hit := hit_mem ho hN hy h1 h2
  have hyL := (List.mem_filter.1 hy).1
  have hyr := hN.rep.2 _ hyL
  have hyr' := hyr
  obtain ⟨dv, bv, ⟨k, k1, k2, rfl, hk⟩, rd, rb⟩ := hyr
  obtain ⟨L0, h0⟩ := NL.of_rep .nil hrep
  have : ∀ z : TN, ∃ L, z ∈ LN → NL w hi z.t z.v .nil L := fun z => by
    by_cases hz : z ∈ LN
    · obtain ⟨L, hL⟩ := NL.of_rep .nil (hN.rep.2 z hz)
      exact ⟨L, fun _ => hL⟩
    · exact ⟨[], fun h => absurd h hz⟩
  obtain ⟨LX, hLX⟩ := Classical.axiomOfChoice this
  obtain ⟨Ld, hLd⟩ := NL.of_rep .nil rd
  obtain ⟨Lb, hLb⟩ := NL.of_rep .nil rb
  refine ⟨LN, k, dv, bv, hN, near_all ho hN, hit, hk, rd, rb, hyr', fun W hW => isValue_any (own := Tw.Inl.ownF t) hN hLX hLd (fun y hyd => ?_) W hW, (freeL Lb).any (capD x Ld), NL.captD x hLd hLb, fun W hW => ?_⟩
  · refine own_link ho hN h0 hLX ?_ (NL.block hLd y hyd)
    obtain ⟨Ln, hLn⟩ := NL.of_rep .nil hyr'
    refine NL.under hLn h0 hN hyL _ ?_
    obtain ⟨_, _, _, _, _, hh, r1, r2, rfl⟩ := hLn
    obtain ⟨e1, _⟩ := node_let hh ⟨k, k1, k2, rfl, hk⟩
    subst e1
    rw [List.map_append, List.mem_append]
    refine .inl ?_
    rw [NL.same r1 hLd]
    exact List.mem_map_of_mem hyd
  · have hkW := Kp.of_grown hW
    exact definitionCaptured_any ((hW.block _ (Array.getElem?_eq_some_iff.1 hk).1 (by simp)).trans hk) (hLd.kp hkW) (hLb.kp hkW)

theorem chok_chB {N dx : Nat} {blk : Nat → List UInt8} : ∀ {S : List Nat} {d : Nat}, S.Pairwise (fun f g => f + dx ≤ g) → (∀ f ∈ S, d ≤ f ∧ f + dx ≤ N) → d ≤ N → ChOk N d (Tw.Inl.chB dx blk S)
  | [], d, _, _, h => h
  | f :: S, d, hp, hb, _ => by
    have hp' := List.pairwise_cons.1 hp
    obtain ⟨h1, h2⟩ := hb f (by simp)
    exact ⟨h1, Nat.le_add_right _ _, by omega, chok_chB (d := f + dx) hp'.2 (fun g hg => ⟨hp'.1 g hg, (hb g (by simp [hg])).2⟩) h2⟩

theorem Inline_fine (hB : Said.Builder) {w : World} {hi : Nat} {tv : Value} {s : ByteArray} {t : Tw.T} {body : List Tw.Tok} (hrep : Rep w 0 hi t tv) (ho : Opened s.data.toList t body) (hG : Tw.G s.data.toList .expr body t) {f0 t0 k0 : Nat} {x : List UInt8} {d b : Tw.T} (hn : .lett f0 t0 false x k0 d b ∈ t.binds) {a : Int} (h1 : (k0 : Int) ≤ a) (h2 : a < (k0 : Int) + x.length) (hv : Tw.Inl.isV (Tw.Inl.ownF t) d = true) (hc : ¬ Tw.Inl.captD x d b []) :
    Calls Tryz.prog 38 #[.string s, tv, .int .i64 a] w fun e w' => e = .returned (.tuple #[.string ⟨(Tw.Inl.inlText s.data.toList (.lett f0 t0 false x k0 d b)).toArray⟩, .int .i64 0]) ∧ w.grownBy w' none := by
  obtain ⟨LN, k, dv, bv, hN, hnear, hit, hk, rd, rb, hyr, HV, cb, hcb, HC⟩ := inl_set hrep ho hn h1 h2
  have hcf : cb = false := by cases cb with | false => rfl | true => exact absurd (hcb.1 rfl) hc
  subst hcf
  obtain ⟨LU, hLU⟩ := NL.of_rep .nil hyr
  obtain ⟨M, hM⟩ := NDL.of_rep hyr
  have hsub := Tw.binds_sub hn
  have hnd := ho.nd.sublist hsub.1
  have hsp : SpOk (.lett f0 t0 false x k0 d b) := fun s hs => ho.sp s (hsub.2 s hs)
  have hu := use_all w hi _ hLU hM hsp hnd (rep_head (x := ⟨_, _⟩) hM rfl) (A := ⟨k, 3, none⟩) rfl (fun z => by simp [Tw.BEn.look])
  have hR := Tw.hit_reps ho.text ho.lex (Tw.hit_of_mem t ho.nd _ hn)
  have hsz : s.data.toList.length = s.size := Array.length_toList
  have hl := ho.len
  rw [hsz] at hl
  have hSp : (Tw.T.lett f0 t0 false x k0 d b).useS.Pairwise (fun f g => f + x.length ≤ g) := by
    refine List.Pairwise.imp_of_mem (fun {f g} hf hg hfg => ?_) (List.pairwise_cons.1 hR.1).2
    obtain ⟨a, ha, rfl, _, a2⟩ := hR.2 f (List.mem_cons_of_mem _ hf)
    obtain ⟨b, hb, rfl, _, b2⟩ := hR.2 g (List.mem_cons_of_mem _ hg)
    simp only [Tw.T.bname] at a2 b2
    have := ((ho.lex.toks).1 a ha).lt
    have := ((ho.lex.toks).1 b hb).lt
    rcases Tw.tok_apart ho.lex ha hb with h | h | h
    · omega
    · omega
    · subst h; omega
  have hdf := Tw.Inl.defs_in (N := s.size) hG (Tw.Inl.lex_apart ho.lex) (fun a ha => ⟨((ho.lex.toks).1 a ha).lt, by have := ((ho.lex.toks).1 a ha).high; omega⟩) _ hn _ _ _ _ _ _ _ rfl
  obtain ⟨_, d1, d2, d3, d4, d5⟩ := hdf
  have huse : (Tw.T.lett f0 t0 false x k0 d b).useS = b.occ x [] := by simp [Tw.T.useS]
  have hch : inlCh f0 b.fr s.data.toList d (usesL ⟨k, 3, none⟩ LU) = (f0, b.fr, []) :: Tw.Inl.chB x.length (Tw.Inl.inText s.data.toList d) (Tw.T.lett f0 t0 false x k0 d b).useS := by
    have e : (usesL ⟨k, 3, none⟩ LU).map (fun y => (y.fr, y.to, Tw.Inl.inText s.data.toList d y.fr)) = ((usesL ⟨k, 3, none⟩ LU).map useF).map fun q => (q.1, q.2, Tw.Inl.inText s.data.toList d q.1) := by rw [List.map_map]; rfl
    simp only [inlCh]
    rw [e, hu, List.map_map]
    rfl
  have hfits : ∀ f ∈ (Tw.T.lett f0 t0 false x k0 d b).useS, b.fr ≤ f ∧ f + x.length ≤ s.size := fun f hf => by
    obtain ⟨a, ha, rfl, _, a2⟩ := hR.2 f (List.mem_cons_of_mem _ hf)
    simp only [Tw.T.bname] at a2
    have := ((ho.lex.toks).1 a ha).high
    rw [huse] at hf
    exact ⟨d5 _ (Tw.occ_sub x b [] _ hf), by omega⟩
  have key := Inline_good hB hN hnear hit hk rd rb hLU (Nat.le_trans hLU.len (Nat.le_trans hsub.1.length_le ho.small)) (by
    intro y hy
    have hm : useF y ∈ (usesL ⟨k, 3, none⟩ LU).map useF := List.mem_map_of_mem hy
    rw [hu] at hm
    obtain ⟨f, hf, e2⟩ := List.mem_map.1 hm
    simp only [useG, useF, Prod.mk.injEq] at e2
    have := hfits f hf
    omega) hl (by omega) (by omega) (by
    rw [hch]
    exact ⟨Nat.zero_le _, by omega, by omega, chok_chB hSp hfits (by omega)⟩) (fun W hW => by have := HV W hW; rw [hv] at this; exact this) HC
  rw [hch] at key
  exact key

end Go.Proofs.YtckhafpejefbbaaGreatDoor

/- Text.Inline. -/
namespace Go.Proofs.YtckhafpejefbbaaGreatDoor
open Go.RowKit

set_option maxRecDepth 100000 in
set_option maxHeartbeats 2000000 in
theorem textInline_fine (hIB : Said.IndexByte) (hPI : Said.ParseInt) (hIt : Said.ItoaSmall) {w : World} {bt : Nat} {s l' : ByteArray} {t t' : Tw.T} {sh : List UInt8} {fo : Nat} (hT : TextAt w bt s t) {a : Int}
    (hI : ∀ (W : World) (hi : Nat) (tv : Value), Rep W 0 hi t tv → Calls Tryz.prog 38 #[.string s, tv, .int .i64 a] W fun e w' => e = .returned (.tuple #[.string l', .int .i64 0]) ∧ W.grownBy w' none)
    (ho : Tw.openS 6100 fo l'.data.toList = some (.fine t' sh)) :
    Calls Tryz.prog 26 #[.pointer (some ⟨bt, 0, none⟩), .int .i64 a] w fun e w' => e = .returned (.int .i64 0) ∧ TextAt w' bt l' t' ∧ w.grownBy w' (some bt) := by
  have HT := hide hT
  obtain ⟨hi, tv, hb, hr⟩ := hT
  have c0 : w.cell? ⟨bt, 0, none⟩ = some (.string s) := by rw [cell_of_row _ _ _ _ _ _ hb]; rfl
  have c1 : w.cell? ⟨bt, 1, none⟩ = some tv := by rw [cell_of_row _ _ _ _ _ _ hb]; rfl
  have HRN : Hid (∀ W : World, w.grownBy W none → Calls Tryz.prog 38 #[.string s, tv, .int .i64 a] W fun e w' => e = .returned (.tuple #[.string l', .int .i64 0]) ∧ W.grownBy w' none) := hide fun W hW => hI W hi tv (hr.kp (Kp.of_grown hW))
  obtain ⟨PT, nt, rfl⟩ := hr.iface
  have D1 : Hid (w.grownBy w.drew none) := grown_drew (grown_refl _)
  clear hr hI
  go_enter Tryz.func26, Tryz.ntmps26
  go_wp2_with fail
  go_region_with (first
      | (go_at_call 38; refine (unhide HRN _ (by first | exact grown_refl _ | exact D1.out)).mono ?_; clear HRN; rintro e1 w2 ⟨rfl, hg⟩
         have G2 : Hid (w.grownBy w2 none) := hide (grown_trans (by first | exact grown_refl _ | exact D1.out) hg)
         have c2 : w2.cell? ⟨bt, 0, none⟩ = some (.string s) := by rw [cell_of_row _ _ _ _ _ _ ((G2.out.block _ (Array.getElem?_eq_some_iff.1 hb).1 (by simp)).trans hb)]; rfl
         clear hg)
      | (go_at_call 37; refine (become_fine hIB hPI hIt ((unhide HT).kp (Kp.of_grown G2.out) (fun c m hc => (G2.out.block _ (Array.getElem?_eq_some_iff.1 hc).1 (by simp)).trans hc)) ho).mono ?_; rintro e1 w3 ⟨rfl, hx, hg⟩
         have X3 := hide hx
         have G3 := hide (grown_row G2.out hg)
         clear hg hx))
  all_goals (go_wp2_with fail; go_ret; exact ⟨rfl, X3.out, G3.out⟩)

end Go.Proofs.YtckhafpejefbbaaGreatDoor

/- The texts of tailorkeep.Spread. -/
namespace Go.Proofs.YtckhafpejefbbaaGreatDoor.Tw
open Go

def sprD : List (List UInt8) := [[55], [102, 117, 110, 32, 121, 32, 45, 62, 32, 121, 32, 43, 32, 49], [40, 102, 117, 110, 32, 121, 32, 45, 62, 32, 121, 41], [116, 114, 117, 101], [102, 115, 116], [40, 49, 44, 32, 50, 41], [40, 51, 44, 32, 102, 117, 110, 32, 122, 32, 45, 62, 32, 122, 41], [40, 40, 52, 41, 41]]

def sprIn (s : List UInt8) : Nat → List UInt8
  | 0 => [48]
  | n + 1 => 40 :: (s ++ (44 :: 32 :: (sprIn s n ++ [41])))

def sprUse (br : Bool) (by' : List UInt8) : List UInt8 := if br then 40 :: 40 :: (by' ++ [41, 41]) else by'

def sprBy (i : Nat) (d : List UInt8) : List UInt8 := if i = 1 then 40 :: (d ++ [41]) else d

def sprText (d : List UInt8) (br : Bool) (m : Nat) : List UInt8 := [108, 101, 116, 32, 100, 32, 61, 32] ++ (d ++ ([32, 105, 110, 32, 123, 32, 115, 111, 32, 125, 32] ++ sprIn (sprUse br [100]) m))

def sprWant (i : Nat) (d : List UInt8) (br : Bool) (m : Nat) : List UInt8 := sprIn (sprUse br (sprBy i d)) m

def sprOk (i : Nat) (d : List UInt8) (br : Bool) (m : Nat) : Bool :=
  match openS 6100 400 (sprText d br m) with
  | some (.fine t sh) =>
    match t with
    | .lett f0 t0 false x k0 de b =>
      decide (k0 = 4) && decide (x = [100]) && Inl.isV (Inl.ownF (.lett f0 t0 false x k0 de b)) de && decide (de.freeS [] = none) && decide (Inl.inlText (sprText d br m) (.lett f0 t0 false x k0 de b) = sprWant i d br m) &&
      match openS 6100 400 (sprWant i d br m) with
      | some (.fine t' sh') => decide (sh = sh') && t'.binds.all (fun n => decide (n.bname ≠ [100])) &&
        match runS 400 (.lett f0 t0 false x k0 de b) 9, runS 400 t' 9 with
        | some (k, n, o), some (k', n', o') => decide (k = k' ∧ n = 0 ∧ n' = 0 ∧ o = o')
        | _, _ => false
      | _ => false
    | _ => false
  | _ => false

theorem spr_all : ((List.range 8).all fun i => (List.range 5).all fun m => sprOk i (sprD[i]?.getD []) false m && sprOk i (sprD[i]?.getD []) true m) = true := by decide +kernel

theorem free_not {z : List UInt8} : ∀ {t : T} {I : List (List UInt8)}, t.freeS I = none → ¬ Inl.freeIn z t I
  | .name _ _ x, I, h => by
    simp only [T.freeS] at h
    simp only [Inl.freeIn]
    rintro ⟨rfl, h2⟩
    rw [if_neg (by simpa using h2)] at h
    cases h
  | .int .., _, _ | .truth .., _, _ | .side .., _, _ => id
  | .bracket _ _ i, I, h => free_not (t := i) h
  | .pair _ _ a b, I, h => by
    simp only [T.freeS, Option.or_eq_none_iff] at h
    exact fun q => q.elim (free_not h.1) (free_not h.2)
  | .call _ _ a b, I, h => by
    simp only [T.freeS, Option.or_eq_none_iff] at h
    exact fun q => q.elim (free_not h.1) (free_not h.2)
  | .binary _ _ _ a b, I, h => by
    simp only [T.freeS, Option.or_eq_none_iff] at h
    exact fun q => q.elim (free_not h.1) (free_not h.2)
  | .cond _ _ a b c, I, h => by
    simp only [T.freeS, Option.or_eq_none_iff] at h
    exact fun q => q.elim (free_not h.1.1) fun q => q.elim (free_not h.1.2) (free_not h.2)
  | .fn _ _ _ _ a, I, h => free_not (t := a) h
  | .lett _ _ r _ _ a b, I, h => by
    simp only [T.freeS, Option.or_eq_none_iff] at h
    exact fun q => q.elim (free_not h.1) (free_not h.2)

theorem capt_free {x : List UInt8} {d : T} (hd : ∀ y, ¬ Inl.freeIn y d []) : ∀ {t : T} {I : List (List UInt8)}, ¬ Inl.captD x d t I
  | .name .., _ => fun ⟨_, _, y, hy, _⟩ => hd y hy
  | .int .., _ | .truth .., _ | .side .., _ => id
  | .bracket _ _ i, _ => capt_free hd (t := i)
  | .pair .., _ => fun q => q.elim (capt_free hd) (capt_free hd)
  | .call .., _ => fun q => q.elim (capt_free hd) (capt_free hd)
  | .binary .., _ => fun q => q.elim (capt_free hd) (capt_free hd)
  | .cond .., _ => fun q => q.elim (capt_free hd) fun q => q.elim (capt_free hd) (capt_free hd)
  | .fn _ _ _ _ a, _ => capt_free hd (t := a)
  | .lett .., _ => fun q => q.elim (capt_free hd) (capt_free hd)

theorem spr_parts {i m : Nat} (hi : i < 8) (hm : m < 5) (br : Bool) : ∃ f0 t0 de b t' sh k o, openS 6100 400 (sprText (sprD[i]?.getD []) br m) = some (.fine (.lett f0 t0 false [100] 4 de b) sh) ∧ Inl.isV (Inl.ownF (.lett f0 t0 false [100] 4 de b)) de = true ∧ ¬ Inl.captD [100] de b [] ∧ Inl.inlText (sprText (sprD[i]?.getD []) br m) (.lett f0 t0 false [100] 4 de b) = sprWant i (sprD[i]?.getD []) br m ∧ openS 6100 400 (sprWant i (sprD[i]?.getD []) br m) = some (.fine t' sh) ∧ (∀ n ∈ t'.binds, n.bname ≠ [100]) ∧ runS 400 (.lett f0 t0 false [100] 4 de b) 9 = some (k, 0, o) ∧ runS 400 t' 9 = some (k, 0, o) := by
  have h := List.all_eq_true.1 spr_all i (by simpa using hi)
  have h := List.all_eq_true.1 h m (by simpa using hm)
  rw [Bool.and_eq_true] at h
  have h : sprOk i (sprD[i]?.getD []) br m = true := by cases br; exact h.1; exact h.2
  obtain ⟨D, hD⟩ : ∃ D, sprD[i]?.getD [] = D := ⟨_, rfl⟩
  rw [hD] at h ⊢
  unfold sprOk at h
  split at h
  · rename_i t sh h1
    split at h
    · rename_i f0 t0 x k0 de b
      simp only [Bool.and_eq_true, decide_eq_true_eq] at h
      obtain ⟨⟨⟨⟨⟨rfl, rfl⟩, h2⟩, h3⟩, h4⟩, h⟩ := h
      split at h
      · rename_i t' sh' h5
        simp only [Bool.and_eq_true, decide_eq_true_eq, List.all_eq_true] at h
        obtain ⟨⟨rfl, h6⟩, h⟩ := h
        split at h
        · rename_i k n o k' n' o' h7 h8
          simp only [decide_eq_true_eq] at h
          obtain ⟨rfl, rfl, rfl, rfl⟩ := h
          exact ⟨f0, t0, de, b, t', sh, k, o, h1, h2, capt_free fun y => free_not h3, h4, h5, h6, h7, h8⟩
        · cases h
      · cases h
    · cases h
  · cases h

end Go.Proofs.YtckhafpejefbbaaGreatDoor.Tw

/- tailorkeep.Back. -/
namespace Go.Proofs.YtckhafpejefbbaaGreatDoor
open Go.RowKit

structure Lib6 : Prop extends Lib5 where
  bd : Said.Builder

theorem lib6 : Lib6 := { lib5 with bd := ⟨fun B b l w h hB => Tryz.Builder_String_any_k B b l w h hB⟩ }

set_option maxRecDepth 100000 in
set_option maxHeartbeats 2000000 in
theorem Open_new (hIB : Said.IndexByte) (hPI : Said.ParseInt) (hIt : Said.ItoaSmall) {s : ByteArray} {fo : Nat} {t : Tw.T} {sh : List UInt8} (h : Tw.openS 6100 fo s.data.toList = some (.fine t sh)) (w : World) :
    Calls Tryz.prog 16 #[.string s] w fun e w' => ∃ bt, e = .returned (.tuple #[.pointer (some ⟨bt, 0, none⟩), .int .i64 0, .int .i64 0]) ∧ TextAt w' bt s t ∧ w.grownBy w' none ∧ w.heap.size ≤ bt := by
  have hl : s.data.toList.length = s.size := Array.length_toList
  have hs := (Tw.fine_parts h).1
  rw [hl] at hs
  unfold Tw.openS at h
  rw [if_neg (by omega)] at h
  obtain ⟨v, W, hc1, hc2, hg⟩ := copy_string s w
  have G := hide hg
  have HR := hide h
  clear hg h hl
  have hs2 : ¬ (300 : Int) < s.size := by omega
  go_enter Tryz.func16, Tryz.ntmps16
  go_wp2_with fail
  refine (read_any hIB hPI hIt s (by omega) (unhide HR) W).mono ?_
  rintro e1 w1 ⟨tv, rfl, hR, hk⟩
  have R1 := hide hR
  obtain ⟨PT, nt, rfl⟩ := hR.iface
  have K1 : Hid (TK w.heap.size WtS w w1) := (TK.of_grown _ _ G.out).trans (hk.base G.out.size)
  clear hR hk
  go_wp2_with fail
  go_ret3
  exact ⟨_, rfl, ⟨_, _, new_block w1 _, (unhide R1).grown (World.grownBy_alloc _ _ none) (Nat.zero_le _) (Nat.le_refl _)⟩, grown_alloc K1.out.grown _, K1.out.grown.size⟩

theorem bdCells_at : ∀ (E : List (Tw.T × Value)) (i : Nat) (h : i < E.length), (bdCells E)[i * 3]? = some (bytesV E[i].1.bname) ∧ (bdCells E)[i * 3 + 1]? = some (.int .i64 E[i].1.bpl) ∧ (bdCells E)[i * 3 + 2]? = some E[i].2
  | c :: cs, 0, _ => ⟨rfl, rfl, rfl⟩
  | c :: cs, i + 1, h => by
    have := bdCells_at cs i (by simpa using h)
    rw [show (i + 1) * 3 = (i * 3) + 3 by omega, show i * 3 + 3 + 1 = (i * 3 + 1) + 3 by omega, show i * 3 + 3 + 2 = (i * 3 + 2) + 3 by omega]
    exact this

theorem BdAt.get {W : World} {v : Value} {L : List Tw.T} (h : BdAt W v L) {i : Nat} {n : Tw.T} (hi : L[i]? = some n) : ∃ g c u, v = .slice (some ⟨g, 0, none⟩) L.length c ∧ W.cell? ⟨g, i * 3, none⟩ = some (bytesV n.bname) ∧ W.cell? ⟨g, i * 3 + 1, none⟩ = some (.int .i64 n.bpl) ∧ W.cell? ⟨g, i * 3 + 2, none⟩ = some u ∧ UsesAt W u n.useS := by
  obtain ⟨E, rfl, hr, hu⟩ := h
  obtain ⟨hlt, rfl⟩ := List.getElem?_eq_some_iff.1 hi
  have hlt' : i < E.length := by simpa using hlt
  rcases hr.2 with ⟨_, e⟩ | ⟨g, cap, cur, rfl, hg, hb, h1, h2, h3, h4⟩
  · omega
  · have hlen : (bdCells E).length = E.length * 3 := hr.1
    have key : ∀ j, j < E.length * 3 → W.cell? ⟨g, j, none⟩ = (bdCells E)[j]? := fun j hj => by
      rw [cell_of_row _ _ _ _ _ _ hb, ← h4, List.getElem?_take_of_lt hj]
      simp
    obtain ⟨a, b, c⟩ := bdCells_at E i hlt'
    have e1 : (E.map (·.1))[i] = E[i].1 := by simp
    refine ⟨g, cap, E[i].2, by simp, ?_, ?_, ?_, ?_⟩
    · rw [key _ (by omega), a, e1]
    · rw [key _ (by omega), b, e1]
    · rw [key _ (by omega), c]
    · rw [e1]; exact hu _ (List.getElem_mem _)

theorem grown_new {w w1 w2 : World} {b : Nat} (h : w.grownBy w1 none) (k : w1.grownBy w2 (some b)) (hb : w.heap.size ≤ b) : w.grownBy w2 none :=
  ⟨k.os.trans h.os, k.tape.trans h.tape, k.output.trans h.output, Nat.le_trans h.size k.size, fun i hi _ => (k.block i (Nat.lt_of_lt_of_le hi h.size) (fun e => by cases e; omega)).trans (h.block i hi (by simp))⟩

theorem TextAt.grown {w w' : World} {bt : Nat} {s : ByteArray} {t : Tw.T} (h : TextAt w bt s t) (hg : w.grownBy w' none) : TextAt w' bt s t := h.kp (Kp.of_grown hg) (fun _ _ hc => (hg.block _ (Array.getElem?_eq_some_iff.1 hc).1 (by simp)).trans hc)

end Go.Proofs.YtckhafpejefbbaaGreatDoor

/- tailorkeep.Spread. -/
namespace Go.Proofs.YtckhafpejefbbaaGreatDoor
open Go.RowKit

set_option maxRecDepth 100000 in
set_option maxHeartbeats 1000000 in
theorem kopen_new (hIB : Said.IndexByte) (hPI : Said.ParseInt) (hIt : Said.ItoaSmall) {s : ByteArray} {fo : Nat} {t : Tw.T} {sh : List UInt8} (h : Tw.openS 6100 fo s.data.toList = some (.fine t sh)) (w : World) :
    Calls Tryz.prog 19 #[.string s] w fun e w' => ∃ bt, e = .returned (.pointer (some ⟨bt, 0, none⟩)) ∧ TextAt w' bt s t ∧ w.grownBy w' none ∧ w.heap.size ≤ bt := by
  have HH := hide h
  clear h
  go_enter Tryz.func19, Tryz.ntmps19
  go_wp2_with fail
  refine (Open_new hIB hPI hIt (unhide HH) w).mono ?_
  rintro e1 w1 ⟨bt, rfl, hT, hk, hbt⟩
  have T1 := hide hT
  have K1 := hide hk
  clear hT hk
  go_wp2_with fail
  refine (Source_any (unhide T1)).mono ?_
  rintro e1 w2 ⟨rfl, rfl⟩
  go_wp2_with fail
  go_ret
  exact ⟨bt, rfl, unhide T1, unhide K1, hbt⟩

theorem e40 : (⟨#[40]⟩ : ByteArray).size = 1 := rfl
theorem e4432 : (⟨#[44, 32]⟩ : ByteArray).size = 2 := rfl
theorem e41 : (⟨#[41]⟩ : ByteArray).size = 1 := rfl
theorem e100 : (⟨#[100]⟩ : ByteArray).size = 1 := rfl
theorem e4040 : (⟨#[40, 40, 40]⟩ : ByteArray).size = 3 := rfl
theorem e4141 : (⟨#[41, 41, 44, 32]⟩ : ByteArray).size = 4 := rfl
theorem e44 : (⟨#[40, 40, 100, 41, 41]⟩ : ByteArray).size = 5 := rfl

theorem opened_gram {fo : Nat} {l : List UInt8} {t : Tw.T} {sh : List UInt8} (h : Tw.openS 6100 fo l = some (.fine t sh)) : ∃ body, Opened l t body ∧ Tw.G l .expr body t := by
  obtain ⟨hl, body, hL, _, hp, _⟩ := Tw.fine_parts h
  exact ⟨body, ⟨hL, Tw.text_of hL hp, hl⟩, (Tw.Inl.gram_of hL hp).1⟩

theorem spr_set (L : Lib6) {i m : Nat} (hi : i < 8) (hm : m < 5) (br : Bool) {D : List UInt8} (hD : Tw.sprD[i]?.getD [] = D) {s : ByteArray} (hs : s.data.toList = Tw.sprText D br m) : ∃ t t' sh k o body, Tw.openS 6100 400 s.data.toList = some (.fine t sh) ∧ Tw.ofS 400 t = some (some sh) ∧ Tw.ofS 400 t' = some (some sh) ∧ Tw.runS 400 t 9 = some (k, 0, o) ∧ Tw.runS 400 t' 9 = some (k, 0, o) ∧ Opened (Tw.sprWant i D br m) t' body ∧ t'.nodes ≤ 2000 ∧ (∀ n ∈ t'.binds, n.bname ≠ [100]) ∧
    ∀ (w : World) (bt : Nat), TextAt w bt s t → Calls Tryz.prog 26 #[.pointer (some ⟨bt, 0, none⟩), .int .i64 4] w fun e w' => e = .returned (.int .i64 0) ∧ TextAt w' bt ⟨(Tw.sprWant i D br m).toArray⟩ t' ∧ w.grownBy w' (some bt) := by
  obtain ⟨f0, t0, de, b, t', sh, k, o, h1, h2, h3, h4, h5, h6, h7, h8⟩ := Tw.spr_parts hi hm br
  rw [hD] at h1 h4 h5
  rw [← hs] at h1 h4
  obtain ⟨_, _, _, _, _, htr⟩ := Tw.fine_parts h1
  obtain ⟨_, _, _, _, _, htr'⟩ := Tw.fine_parts h5
  obtain ⟨body, hop, hG⟩ := opened_gram h1
  obtain ⟨body', hop', _⟩ := opened_gram h5
  refine ⟨_, t', sh, k, o, body', h1, (Tw.tree_parts htr).2.2.2, (Tw.tree_parts htr').2.2.2, h7, h8, hop', nodes_fine h5, h6, fun w bt hT => ?_⟩
  refine textInline_fine L.ib L.pi L.it hT (fun W hi tv hr => ?_) h5
  rw [← h4]
  exact Inline_fine L.bd hr hop hG (by simp [Tw.T.binds]) (by omega) (by simp) h2 h3

set_option maxRecDepth 100000 in
set_option maxHeartbeats 4000000 in
theorem Spread_any (L : Lib6) {w : World} (hT : Tab w) (hG : 1 < w.heap.size) (v many use : Int) (hv0 : -9223372036854775808 ≤ v) (hv1 : v ≤ 9223372036854775807) (hm0 : -9223372036854775808 ≤ many) (hm1 : many ≤ 9223372036854775807) :
    Calls Tryz.prog 13 #[.int .i64 v, .int .i64 many, .int .i64 use] w fun e w' => e = .returned (.bool true) ∧ w.grownBy w' none := by
  have HT := hide hT
  obtain ⟨i, hi, hpv⟩ := pick_det v 8 hv0 hv1 (by omega) (by omega)
  obtain ⟨m, hm, hpm⟩ := pick_det many 5 hm0 hm1 (by omega) (by omega)
  have HPV := hide hpv
  have HPM := hide hpm
  clear hT hpv hpm
  go_enter Tryz.func13, Tryz.ntmps13
  go_wp2_with fail
  refine (awake_any L.toLib4 (unhide HT) hG).mono ?_
  rintro e1 w1 ⟨rfl, hk⟩
  have K1 := hide hk.grown
  clear hk
  go_wp2_with fail
  have A2 : Hid (w.grownBy (w1.alloc (.cells #[.string ⟨#[55]⟩, .string ⟨#[102, 117, 110, 32, 121, 32, 45, 62, 32, 121, 32, 43, 32, 49]⟩, .string ⟨#[40, 102, 117, 110, 32, 121, 32, 45, 62, 32, 121, 41]⟩, .string ⟨#[116, 114, 117, 101]⟩, .string ⟨#[102, 115, 116]⟩, .string ⟨#[40, 49, 44, 32, 50, 41]⟩, .string ⟨#[40, 51, 44, 32, 102, 117, 110, 32, 122, 32, 45, 62, 32, 122, 41]⟩, .string ⟨#[40, 40, 52, 41, 41]⟩] 9)) none) := grown_alloc K1.out _
  have hcell : (w1.alloc (.cells #[.string ⟨#[55]⟩, .string ⟨#[102, 117, 110, 32, 121, 32, 45, 62, 32, 121, 32, 43, 32, 49]⟩, .string ⟨#[40, 102, 117, 110, 32, 121, 32, 45, 62, 32, 121, 41]⟩, .string ⟨#[116, 114, 117, 101]⟩, .string ⟨#[102, 115, 116]⟩, .string ⟨#[40, 49, 44, 32, 50, 41]⟩, .string ⟨#[40, 51, 44, 32, 102, 117, 110, 32, 122, 32, 45, 62, 32, 122, 41]⟩, .string ⟨#[40, 40, 52, 41, 41]⟩] 9)).cell? ⟨w1.heap.size, i, none⟩ = some (bytesV (Tw.sprD[i]?.getD [])) := by
    rw [cell_of_row _ _ _ _ _ _ (new_block w1 _)]
    match i, hi with
    | 0, _ => rfl
    | 1, _ => rfl
    | 2, _ => rfl
    | 3, _ => rfl
    | 4, _ => rfl
    | 5, _ => rfl
    | 6, _ => rfl
    | 7, _ => rfl
  have hDl : (Tw.sprD[i]?.getD []).length ≤ 15 := by
    match i, hi with
    | 0, _ => decide
    | 1, _ => decide
    | 2, _ => decide
    | 3, _ => decide
    | 4, _ => decide
    | 5, _ => decide
    | 6, _ => decide
    | 7, _ => decide
  obtain ⟨D, hD⟩ : ∃ D, Tw.sprD[i]?.getD [] = D := ⟨_, rfl⟩
  rw [hD] at hcell hDl
  have HD := hide hD
  have hDs : D.toArray.size ≤ 15 := by simpa using hDl
  generalize w1.alloc (.cells #[.string ⟨#[55]⟩, .string ⟨#[102, 117, 110, 32, 121, 32, 45, 62, 32, 121, 32, 43, 32, 49]⟩, .string ⟨#[40, 102, 117, 110, 32, 121, 32, 45, 62, 32, 121, 41]⟩, .string ⟨#[116, 114, 117, 101]⟩, .string ⟨#[102, 115, 116]⟩, .string ⟨#[40, 49, 44, 32, 50, 41]⟩, .string ⟨#[40, 51, 44, 32, 102, 117, 110, 32, 122, 32, 45, 62, 32, 122, 41]⟩, .string ⟨#[40, 40, 52, 41, 41]⟩] 9) = w2 at *
  refine (unhide HPV w2).mono ?_
  rintro e1 w3 ⟨rfl, rfl⟩
  have hii : (i : Int) < 8 := by omega
  clear hD K1
  simp only [bytesV] at hcell
  go_wp2_with fail
  refine (unhide HPM w2).mono ?_
  rintro e1 w3 ⟨rfl, rfl⟩
  clear hcell
  cases hbr : (bits BinOp.and IntKind.i64 use 1 == 1)
  · go_wp2_with fail
    go_loopg [10, 11] m (fun j sv iv wr => ∃ q : Nat, ∃ u : ByteArray, j + q = m ∧ q ≤ m ∧ iv = .int .i64 q ∧ sv = .string u ∧ Hid (u.data.toList = Tw.sprIn (Tw.sprUse false [100]) q) ∧ u.size ≤ 1 + 9 * q ∧ wr = w2)
    case atStart => exact ⟨0, ⟨#[48]⟩, by omega, by omega, rfl, rfl, rfl, by decide, rfl⟩
    case round =>
      obtain ⟨q, u, hj, hq, rfl, rfl, hu, hus, rfl⟩ := hrel
      by_cases hlt : q < m
      · have hli : (q : Int) < (m : Int) := by omega
        go_wp2_with fail
        go_roundg (gk - 1)
        case measure => omega
        case rel => exact ⟨q + 1, _, by omega, by omega, by go_num, rfl, by show _ = _; simp [Tw.sprIn, Tw.sprUse]; exact unhide hu, by simp only [ByteArray.size_append, e40, e4432, e41, e100]; omega, rfl⟩
      · have hli : ¬ (q : Int) < (m : Int) := by omega
        obtain rfl : q = m := by omega
        obtain ⟨t, t', sh, ok, os, body, h1, h2, h3, h4, h5, h6, h7, h8, h9⟩ := spr_set L hi hm false (unhide HD) (s := ⟨#[108, 101, 116, 32, 100, 32, 61, 32]⟩ ++ ⟨D.toArray⟩ ++ ⟨#[32, 105, 110, 32, 123, 32, 115, 111, 32, 125, 32]⟩ ++ u) (by simp [Tw.sprText]; exact unhide hu)
        have H1 := hide h1
        have H2 := hide h2
        have H3 := hide h3
        have H4 := hide h4
        have H5 := hide h5
        have H6 := hide h6
        have H8 := hide h8
        have H9 := hide h9
        clear h1 h2 h3 h4 h5 h6 h8 h9 hu
        go_wp2_with fail
        refine (kopen_new L.ib L.pi L.it (unhide H1) _).mono ?_
        rintro e1 w3 ⟨bt, rfl, hX, hg, hbt⟩
        have X3 := hide hX
        have K3 := hide (grown_trans A2.out hg)
        have hbw : w.heap.size ≤ bt := Nat.le_trans A2.out.size hbt
        clear hX hg hbt H1
        go_wp2_with fail
        have lb : bt < w3.heap.size := by obtain ⟨_, _, hb, _⟩ := X3.out; exact (Array.getElem?_eq_some_iff.1 hb).1
        refine (Run_any L.fi L.fb 9 (unhide X3) ((unhide HT).tk (TK.of_grown w.heap.size [] (unhide K3)) hG) (by have := (unhide K3).size; omega) (unhide H4)).mono ?_
        rintro e1 w4 ⟨rfl, hk⟩
        have X4 := hide ((unhide X3).tk (TK.of_grown 0 [] hk.grown) (by decide))
        have K4 := hide (grown_trans (unhide K3) hk.grown)
        have z4 := hk.grown.size
        clear hk X3 K3 H4
        go_wp2_with fail
        obtain ⟨w5, hw5⟩ : ∃ w5, w4.alloc (.cells #[.int .i64 ok, .int .i64 (0 : Nat), bytesV os] 39) = w5 := ⟨_, rfl⟩
        have g5 : w4.grownBy w5 none := by rw [← hw5]; exact World.grownBy_alloc _ _ none
        have C5 : Hid (w5.heap[w4.heap.size]? = some (.cells #[.int .i64 ok, .int .i64 (0 : Nat), bytesV os] 39 (0, 0))) := by rw [← hw5]; exact new_block w4 _
        have X5 := hide ((unhide X4).grown g5)
        have K5 := hide (grown_trans (unhide K4) g5)
        obtain ⟨r4, hr4⟩ : ∃ r4, w4.heap.size = r4 := ⟨_, rfl⟩
        rw [hr4] at C5
        have hbr4 : bt < r4 := by omega
        simp only [bytesV, Int.natCast_zero] at hw5 C5 ⊢
        rw [hw5, hr4]
        clear hw5 hr4 g5 X4 K4 z4 lb
        go_wp2_with fail
        refine (Type_any (S := WtS) (unhide X5) (ofSaid_any L.it (unhide H2))).mono ?_
        rintro e1 w6 ⟨rfl, hk⟩
        have X6 := hide ((unhide X5).tk (TK.of_grown 0 [] hk.grown) (by decide))
        have K6 := hide (grown_trans (unhide K5) hk.grown)
        have C6 := hide ((hk.grown.block r4 (Array.getElem?_eq_some_iff.1 (unhide C5)).1 (by simp)).trans (unhide C5))
        clear hk X5 K5 C5 H2
        go_wp2_with fail
        refine (unhide H9 w6 bt (unhide X6)).mono ?_
        rintro e1 w7 ⟨rfl, hX, hg⟩
        have X7 := hide hX
        have C7 := hide ((hg.block r4 (Array.getElem?_eq_some_iff.1 (unhide C6)).1 (by intro e; cases e; omega)).trans (unhide C6))
        have K7 := hide (grown_new (unhide K6) hg hbw)
        clear hX hg X6 K6 C6 H9
        go_wp2_with fail
        refine (Run_any L.fi L.fb 9 (unhide X7) ((unhide HT).tk (TK.of_grown w.heap.size [] (unhide K7)) hG) (by have := (unhide K7).size; omega) (unhide H5)).mono ?_
        rintro e1 w8 ⟨rfl, hk⟩
        have X8 := hide ((unhide X7).tk (TK.of_grown 0 [] hk.grown) (by decide))
        have K8 := hide (grown_trans (unhide K7) hk.grown)
        have C8 := hide ((hk.grown.block r4 (Array.getElem?_eq_some_iff.1 (unhide C7)).1 (by simp)).trans (unhide C7))
        clear hk X7 K7 C7 H5
        go_wp2_with fail
        obtain ⟨w9, hw9⟩ : ∃ w9, w8.alloc (.cells #[.int .i64 ok, .int .i64 (0 : Nat), bytesV os] 39) = w9 := ⟨_, rfl⟩
        have g9 : w8.grownBy w9 none := by rw [← hw9]; exact World.grownBy_alloc _ _ none
        have D9 : Hid (w9.heap[w8.heap.size]? = some (.cells #[.int .i64 ok, .int .i64 (0 : Nat), bytesV os] 39 (0, 0))) := by rw [← hw9]; exact new_block w8 _
        have C9 := hide ((g9.block r4 (Array.getElem?_eq_some_iff.1 (unhide C8)).1 (by simp)).trans (unhide C8))
        have X9 := hide ((unhide X8).grown g9)
        have K9 := hide (grown_trans (unhide K8) g9)
        obtain ⟨r8, hr8⟩ : ∃ r8, w8.heap.size = r8 := ⟨_, rfl⟩
        rw [hr8] at D9
        simp only [bytesV, Int.natCast_zero] at hw9 D9 ⊢
        rw [hw9, hr8]
        clear hw9 hr8 g9 X8 K8 C8
        go_wp2_with fail
        refine (textBinders_any (unhide X9) (unhide H6) h7).mono ?_
        rintro e1 w10 ⟨⟨lv, rfl, hB⟩, hg⟩
        have XA := hide ((unhide X9).grown hg)
        have KA := hide (grown_trans (unhide K9) hg)
        have CA := hide ((hg.block r4 (Array.getElem?_eq_some_iff.1 (unhide C9)).1 (by simp)).trans (unhide C9))
        have DA := hide ((hg.block r8 (Array.getElem?_eq_some_iff.1 (unhide D9)).1 (by simp)).trans (unhide D9))
        have BA := hide hB
        have hNl : t'.binds.length ≤ 300 := by
          have := (Tw.binds_pl t').length_le
          rw [List.length_map] at this
          exact Nat.le_trans this (unhide H6).small
        have hsl : ∃ p cc, lv = .slice p t'.binds.length cc := by
          obtain ⟨E, e1, hr, _⟩ := hB
          obtain ⟨p, cc, e⟩ := row_slice hr
          exact ⟨p, cc, by rw [e, ← e1, List.length_map]⟩
        obtain ⟨p, cc, rfl⟩ := hsl
        clear hB hg X9 K9 C9 D9
        go_wp2_with fail
        go_loopg [18] t'.binds.length (fun j kv wr => ∃ q2 : Nat, j + q2 = t'.binds.length ∧ q2 ≤ t'.binds.length ∧ kv = .int .i64 q2 ∧ wr = w10)
        case atStart => exact ⟨0, by omega, by omega, rfl, rfl⟩
        case round =>
          obtain ⟨q2, hj2, hq2, rfl, rfl⟩ := hrel
          by_cases hlt2 : q2 < t'.binds.length
          · have hli2 : (q2 : Int) < (t'.binds.length : Int) := by omega
            obtain ⟨n, hn⟩ : ∃ n, t'.binds[q2]? = some n := ⟨_, List.getElem?_eq_getElem hlt2⟩
            obtain ⟨g, c2, u2, e1, cn, _, _, _⟩ := (unhide BA).get hn
            cases e1
            have hne := unhide H8 n (List.mem_of_getElem? hn)
            have he2 : (n.bname == [100]) = false := by simpa using hne
            simp only [bytesV] at cn
            go_wp2_with fail
            go_roundg (gk - 1)
            case measure => omega
            case rel => exact ⟨q2 + 1, by omega, by omega, by go_num, rfl⟩
          · have hli2 : ¬ (q2 : Int) < (t'.binds.length : Int) := by omega
            go_wp2_with fail
            refine (unhide HPV _).mono ?_
            rintro e1 w11 ⟨rfl, rfl⟩
            by_cases hi1 : i = 1
            · have hi1i : (i : Int) = 1 := by omega
              go_wp2_with fail
              obtain ⟨B, hB⟩ : ∃ B : ByteArray, (⟨#[40]⟩ ++ ⟨D.toArray⟩ ++ ⟨#[41]⟩ : ByteArray) = B := ⟨_, rfl⟩
              have HBB : Hid (B.data.toList = Tw.sprBy i D) := by
                show _ = _
                rw [← hB]
                simp [Tw.sprBy, hi1]
              have hBs : B.size ≤ 17 := by rw [← hB]; simp only [ByteArray.size_append, e40, e41]; show 1 + D.toArray.size + 1 ≤ 17; omega
              rw [hB]
              go_loopg [20, 21] q (fun j sv iv wz => ∃ q3 : Nat, ∃ u : ByteArray, j + q3 = q ∧ q3 ≤ q ∧ iv = .int .i64 q3 ∧ sv = .string u ∧ Hid (u.data.toList = Tw.sprIn (Tw.sprUse false (Tw.sprBy i D)) q3) ∧ u.size ≤ 1 + 25 * q3 ∧ wz = wr)
              case atStart => exact ⟨0, ⟨#[48]⟩, by omega, by omega, rfl, rfl, rfl, by decide, rfl⟩
              case round =>
                obtain ⟨q3, u3, hj3, hq3, rfl, rfl, hu3, hus3, rfl⟩ := hrel
                by_cases hlt3 : q3 < q
                · have hli3 : (q3 : Int) < (q : Int) := by omega
                  go_wp2_with fail
                  go_roundg (gk - 1)
                  case measure => omega
                  case rel => exact ⟨q3 + 1, _, by omega, by omega, by go_num, rfl, by show _ = _; simp [Tw.sprIn, Tw.sprUse, unhide HBB]; exact unhide hu3, by simp only [ByteArray.size_append, e40, e4432, e41]; omega, rfl⟩
                · have hli3 : ¬ (q3 : Int) < (q : Int) := by omega
                  obtain rfl : q3 = q := by omega
                  have hw : (⟨(Tw.sprWant i D false q3).toArray⟩ : ByteArray) = u3 := ByteArray.ext (Array.toList_inj.1 (by simpa [Tw.sprWant] using (unhide hu3).symm))
                  rw [hw] at XA
                  go_wp2_with fail
                  refine (Source_any (unhide XA)).mono ?_
                  rintro e1 w11 ⟨rfl, rfl⟩
                  go_wp2_with fail
                  refine (Type_any (S := WtS) (unhide XA) (ofSaid_any L.it (unhide H3))).mono ?_
                  rintro e1 w12 ⟨rfl, hk⟩
                  have KC := hide (grown_trans (unhide KA) hk.grown)
                  have CC := hide ((hk.grown.block r4 (Array.getElem?_eq_some_iff.1 (unhide CA)).1 (by simp)).trans (unhide CA))
                  have DC := hide ((hk.grown.block r8 (Array.getElem?_eq_some_iff.1 (unhide DA)).1 (by simp)).trans (unhide DA))
                  obtain ⟨o0, o1, o2, _, _, _⟩ := three_cells (unhide CC)
                  obtain ⟨p0, p1, p2, _, _, _⟩ := three_cells (unhide DC)
                  clear hk XA KA CA DA
                  go_wp2_with fail
                  go_ret
                  exact ⟨rfl, unhide KC⟩
            · have hi1i : ¬ (i : Int) = 1 := by omega
              go_wp2_with fail
              obtain ⟨B, hB⟩ : ∃ B : ByteArray, (⟨D.toArray⟩ : ByteArray) = B := ⟨_, rfl⟩
              have HBB : Hid (B.data.toList = Tw.sprBy i D) := by
                show _ = _
                rw [← hB]
                simp [Tw.sprBy, hi1]
              have hBs : B.size ≤ 17 := by rw [← hB]; show D.toArray.size ≤ 17; omega
              rw [hB]
              go_loopg [20, 21] q (fun j sv iv wz => ∃ q3 : Nat, ∃ u : ByteArray, j + q3 = q ∧ q3 ≤ q ∧ iv = .int .i64 q3 ∧ sv = .string u ∧ Hid (u.data.toList = Tw.sprIn (Tw.sprUse false (Tw.sprBy i D)) q3) ∧ u.size ≤ 1 + 25 * q3 ∧ wz = wr)
              case atStart => exact ⟨0, ⟨#[48]⟩, by omega, by omega, rfl, rfl, rfl, by decide, rfl⟩
              case round =>
                obtain ⟨q3, u3, hj3, hq3, rfl, rfl, hu3, hus3, rfl⟩ := hrel
                by_cases hlt3 : q3 < q
                · have hli3 : (q3 : Int) < (q : Int) := by omega
                  go_wp2_with fail
                  go_roundg (gk - 1)
                  case measure => omega
                  case rel => exact ⟨q3 + 1, _, by omega, by omega, by go_num, rfl, by show _ = _; simp [Tw.sprIn, Tw.sprUse, unhide HBB]; exact unhide hu3, by simp only [ByteArray.size_append, e40, e4432, e41]; omega, rfl⟩
                · have hli3 : ¬ (q3 : Int) < (q : Int) := by omega
                  obtain rfl : q3 = q := by omega
                  have hw : (⟨(Tw.sprWant i D false q3).toArray⟩ : ByteArray) = u3 := ByteArray.ext (Array.toList_inj.1 (by simpa [Tw.sprWant] using (unhide hu3).symm))
                  rw [hw] at XA
                  go_wp2_with fail
                  refine (Source_any (unhide XA)).mono ?_
                  rintro e1 w11 ⟨rfl, rfl⟩
                  go_wp2_with fail
                  refine (Type_any (S := WtS) (unhide XA) (ofSaid_any L.it (unhide H3))).mono ?_
                  rintro e1 w12 ⟨rfl, hk⟩
                  have KC := hide (grown_trans (unhide KA) hk.grown)
                  have CC := hide ((hk.grown.block r4 (Array.getElem?_eq_some_iff.1 (unhide CA)).1 (by simp)).trans (unhide CA))
                  have DC := hide ((hk.grown.block r8 (Array.getElem?_eq_some_iff.1 (unhide DA)).1 (by simp)).trans (unhide DA))
                  obtain ⟨o0, o1, o2, _, _, _⟩ := three_cells (unhide CC)
                  obtain ⟨p0, p1, p2, _, _, _⟩ := three_cells (unhide DC)
                  clear hk XA KA CA DA
                  go_wp2_with fail
                  go_ret
                  exact ⟨rfl, unhide KC⟩
  · go_wp2_with fail
    go_loopg [10, 11] m (fun j sv iv wr => ∃ q : Nat, ∃ u : ByteArray, j + q = m ∧ q ≤ m ∧ iv = .int .i64 q ∧ sv = .string u ∧ Hid (u.data.toList = Tw.sprIn (Tw.sprUse true [100]) q) ∧ u.size ≤ 1 + 9 * q ∧ wr = w2)
    case atStart => exact ⟨0, ⟨#[48]⟩, by omega, by omega, rfl, rfl, rfl, by decide, rfl⟩
    case round =>
      obtain ⟨q, u, hj, hq, rfl, rfl, hu, hus, rfl⟩ := hrel
      by_cases hlt : q < m
      · have hli : (q : Int) < (m : Int) := by omega
        go_wp2_with fail
        go_roundg (gk - 1)
        case measure => omega
        case rel => exact ⟨q + 1, _, by omega, by omega, by go_num, rfl, by show _ = _; simp [Tw.sprIn, Tw.sprUse]; exact unhide hu, by simp only [ByteArray.size_append, e40, e4432, e41, e44]; omega, rfl⟩
      · have hli : ¬ (q : Int) < (m : Int) := by omega
        obtain rfl : q = m := by omega
        obtain ⟨t, t', sh, ok, os, body, h1, h2, h3, h4, h5, h6, h7, h8, h9⟩ := spr_set L hi hm true (unhide HD) (s := ⟨#[108, 101, 116, 32, 100, 32, 61, 32]⟩ ++ ⟨D.toArray⟩ ++ ⟨#[32, 105, 110, 32, 123, 32, 115, 111, 32, 125, 32]⟩ ++ u) (by simp [Tw.sprText]; exact unhide hu)
        have H1 := hide h1
        have H2 := hide h2
        have H3 := hide h3
        have H4 := hide h4
        have H5 := hide h5
        have H6 := hide h6
        have H8 := hide h8
        have H9 := hide h9
        clear h1 h2 h3 h4 h5 h6 h8 h9 hu
        go_wp2_with fail
        refine (kopen_new L.ib L.pi L.it (unhide H1) _).mono ?_
        rintro e1 w3 ⟨bt, rfl, hX, hg, hbt⟩
        have X3 := hide hX
        have K3 := hide (grown_trans A2.out hg)
        have hbw : w.heap.size ≤ bt := Nat.le_trans A2.out.size hbt
        clear hX hg hbt H1
        go_wp2_with fail
        have lb : bt < w3.heap.size := by obtain ⟨_, _, hb, _⟩ := X3.out; exact (Array.getElem?_eq_some_iff.1 hb).1
        refine (Run_any L.fi L.fb 9 (unhide X3) ((unhide HT).tk (TK.of_grown w.heap.size [] (unhide K3)) hG) (by have := (unhide K3).size; omega) (unhide H4)).mono ?_
        rintro e1 w4 ⟨rfl, hk⟩
        have X4 := hide ((unhide X3).tk (TK.of_grown 0 [] hk.grown) (by decide))
        have K4 := hide (grown_trans (unhide K3) hk.grown)
        have z4 := hk.grown.size
        clear hk X3 K3 H4
        go_wp2_with fail
        obtain ⟨w5, hw5⟩ : ∃ w5, w4.alloc (.cells #[.int .i64 ok, .int .i64 (0 : Nat), bytesV os] 39) = w5 := ⟨_, rfl⟩
        have g5 : w4.grownBy w5 none := by rw [← hw5]; exact World.grownBy_alloc _ _ none
        have C5 : Hid (w5.heap[w4.heap.size]? = some (.cells #[.int .i64 ok, .int .i64 (0 : Nat), bytesV os] 39 (0, 0))) := by rw [← hw5]; exact new_block w4 _
        have X5 := hide ((unhide X4).grown g5)
        have K5 := hide (grown_trans (unhide K4) g5)
        obtain ⟨r4, hr4⟩ : ∃ r4, w4.heap.size = r4 := ⟨_, rfl⟩
        rw [hr4] at C5
        have hbr4 : bt < r4 := by omega
        simp only [bytesV, Int.natCast_zero] at hw5 C5 ⊢
        rw [hw5, hr4]
        clear hw5 hr4 g5 X4 K4 z4 lb
        go_wp2_with fail
        refine (Type_any (S := WtS) (unhide X5) (ofSaid_any L.it (unhide H2))).mono ?_
        rintro e1 w6 ⟨rfl, hk⟩
        have X6 := hide ((unhide X5).tk (TK.of_grown 0 [] hk.grown) (by decide))
        have K6 := hide (grown_trans (unhide K5) hk.grown)
        have C6 := hide ((hk.grown.block r4 (Array.getElem?_eq_some_iff.1 (unhide C5)).1 (by simp)).trans (unhide C5))
        clear hk X5 K5 C5 H2
        go_wp2_with fail
        refine (unhide H9 w6 bt (unhide X6)).mono ?_
        rintro e1 w7 ⟨rfl, hX, hg⟩
        have X7 := hide hX
        have C7 := hide ((hg.block r4 (Array.getElem?_eq_some_iff.1 (unhide C6)).1 (by intro e; cases e; omega)).trans (unhide C6))
        have K7 := hide (grown_new (unhide K6) hg hbw)
        clear hX hg X6 K6 C6 H9
        go_wp2_with fail
        refine (Run_any L.fi L.fb 9 (unhide X7) ((unhide HT).tk (TK.of_grown w.heap.size [] (unhide K7)) hG) (by have := (unhide K7).size; omega) (unhide H5)).mono ?_
        rintro e1 w8 ⟨rfl, hk⟩
        have X8 := hide ((unhide X7).tk (TK.of_grown 0 [] hk.grown) (by decide))
        have K8 := hide (grown_trans (unhide K7) hk.grown)
        have C8 := hide ((hk.grown.block r4 (Array.getElem?_eq_some_iff.1 (unhide C7)).1 (by simp)).trans (unhide C7))
        clear hk X7 K7 C7 H5
        go_wp2_with fail
        obtain ⟨w9, hw9⟩ : ∃ w9, w8.alloc (.cells #[.int .i64 ok, .int .i64 (0 : Nat), bytesV os] 39) = w9 := ⟨_, rfl⟩
        have g9 : w8.grownBy w9 none := by rw [← hw9]; exact World.grownBy_alloc _ _ none
        have D9 : Hid (w9.heap[w8.heap.size]? = some (.cells #[.int .i64 ok, .int .i64 (0 : Nat), bytesV os] 39 (0, 0))) := by rw [← hw9]; exact new_block w8 _
        have C9 := hide ((g9.block r4 (Array.getElem?_eq_some_iff.1 (unhide C8)).1 (by simp)).trans (unhide C8))
        have X9 := hide ((unhide X8).grown g9)
        have K9 := hide (grown_trans (unhide K8) g9)
        obtain ⟨r8, hr8⟩ : ∃ r8, w8.heap.size = r8 := ⟨_, rfl⟩
        rw [hr8] at D9
        simp only [bytesV, Int.natCast_zero] at hw9 D9 ⊢
        rw [hw9, hr8]
        clear hw9 hr8 g9 X8 K8 C8
        go_wp2_with fail
        refine (textBinders_any (unhide X9) (unhide H6) h7).mono ?_
        rintro e1 w10 ⟨⟨lv, rfl, hB⟩, hg⟩
        have XA := hide ((unhide X9).grown hg)
        have KA := hide (grown_trans (unhide K9) hg)
        have CA := hide ((hg.block r4 (Array.getElem?_eq_some_iff.1 (unhide C9)).1 (by simp)).trans (unhide C9))
        have DA := hide ((hg.block r8 (Array.getElem?_eq_some_iff.1 (unhide D9)).1 (by simp)).trans (unhide D9))
        have BA := hide hB
        have hNl : t'.binds.length ≤ 300 := by
          have := (Tw.binds_pl t').length_le
          rw [List.length_map] at this
          exact Nat.le_trans this (unhide H6).small
        have hsl : ∃ p cc, lv = .slice p t'.binds.length cc := by
          obtain ⟨E, e1, hr, _⟩ := hB
          obtain ⟨p, cc, e⟩ := row_slice hr
          exact ⟨p, cc, by rw [e, ← e1, List.length_map]⟩
        obtain ⟨p, cc, rfl⟩ := hsl
        clear hB hg X9 K9 C9 D9
        go_wp2_with fail
        go_loopg [18] t'.binds.length (fun j kv wr => ∃ q2 : Nat, j + q2 = t'.binds.length ∧ q2 ≤ t'.binds.length ∧ kv = .int .i64 q2 ∧ wr = w10)
        case atStart => exact ⟨0, by omega, by omega, rfl, rfl⟩
        case round =>
          obtain ⟨q2, hj2, hq2, rfl, rfl⟩ := hrel
          by_cases hlt2 : q2 < t'.binds.length
          · have hli2 : (q2 : Int) < (t'.binds.length : Int) := by omega
            obtain ⟨n, hn⟩ : ∃ n, t'.binds[q2]? = some n := ⟨_, List.getElem?_eq_getElem hlt2⟩
            obtain ⟨g, c2, u2, e1, cn, _, _, _⟩ := (unhide BA).get hn
            cases e1
            have hne := unhide H8 n (List.mem_of_getElem? hn)
            have he2 : (n.bname == [100]) = false := by simpa using hne
            simp only [bytesV] at cn
            go_wp2_with fail
            go_roundg (gk - 1)
            case measure => omega
            case rel => exact ⟨q2 + 1, by omega, by omega, by go_num, rfl⟩
          · have hli2 : ¬ (q2 : Int) < (t'.binds.length : Int) := by omega
            go_wp2_with fail
            refine (unhide HPV _).mono ?_
            rintro e1 w11 ⟨rfl, rfl⟩
            by_cases hi1 : i = 1
            · have hi1i : (i : Int) = 1 := by omega
              go_wp2_with fail
              obtain ⟨B, hB⟩ : ∃ B : ByteArray, (⟨#[40]⟩ ++ ⟨D.toArray⟩ ++ ⟨#[41]⟩ : ByteArray) = B := ⟨_, rfl⟩
              have HBB : Hid (B.data.toList = Tw.sprBy i D) := by
                show _ = _
                rw [← hB]
                simp [Tw.sprBy, hi1]
              have hBs : B.size ≤ 17 := by rw [← hB]; simp only [ByteArray.size_append, e40, e41]; show 1 + D.toArray.size + 1 ≤ 17; omega
              rw [hB]
              go_loopg [20, 21] q (fun j sv iv wz => ∃ q3 : Nat, ∃ u : ByteArray, j + q3 = q ∧ q3 ≤ q ∧ iv = .int .i64 q3 ∧ sv = .string u ∧ Hid (u.data.toList = Tw.sprIn (Tw.sprUse true (Tw.sprBy i D)) q3) ∧ u.size ≤ 1 + 25 * q3 ∧ wz = wr)
              case atStart => exact ⟨0, ⟨#[48]⟩, by omega, by omega, rfl, rfl, rfl, by decide, rfl⟩
              case round =>
                obtain ⟨q3, u3, hj3, hq3, rfl, rfl, hu3, hus3, rfl⟩ := hrel
                by_cases hlt3 : q3 < q
                · have hli3 : (q3 : Int) < (q : Int) := by omega
                  go_wp2_with fail
                  go_roundg (gk - 1)
                  case measure => omega
                  case rel => exact ⟨q3 + 1, _, by omega, by omega, by go_num, rfl, by show _ = _; simp [Tw.sprIn, Tw.sprUse, unhide HBB]; exact unhide hu3, by simp only [ByteArray.size_append, e41, e4040, e4141]; omega, rfl⟩
                · have hli3 : ¬ (q3 : Int) < (q : Int) := by omega
                  obtain rfl : q3 = q := by omega
                  have hw : (⟨(Tw.sprWant i D true q3).toArray⟩ : ByteArray) = u3 := ByteArray.ext (Array.toList_inj.1 (by simpa [Tw.sprWant] using (unhide hu3).symm))
                  rw [hw] at XA
                  go_wp2_with fail
                  refine (Source_any (unhide XA)).mono ?_
                  rintro e1 w11 ⟨rfl, rfl⟩
                  go_wp2_with fail
                  refine (Type_any (S := WtS) (unhide XA) (ofSaid_any L.it (unhide H3))).mono ?_
                  rintro e1 w12 ⟨rfl, hk⟩
                  have KC := hide (grown_trans (unhide KA) hk.grown)
                  have CC := hide ((hk.grown.block r4 (Array.getElem?_eq_some_iff.1 (unhide CA)).1 (by simp)).trans (unhide CA))
                  have DC := hide ((hk.grown.block r8 (Array.getElem?_eq_some_iff.1 (unhide DA)).1 (by simp)).trans (unhide DA))
                  obtain ⟨o0, o1, o2, _, _, _⟩ := three_cells (unhide CC)
                  obtain ⟨p0, p1, p2, _, _, _⟩ := three_cells (unhide DC)
                  clear hk XA KA CA DA
                  go_wp2_with fail
                  go_ret
                  exact ⟨rfl, unhide KC⟩
            · have hi1i : ¬ (i : Int) = 1 := by omega
              go_wp2_with fail
              obtain ⟨B, hB⟩ : ∃ B : ByteArray, (⟨D.toArray⟩ : ByteArray) = B := ⟨_, rfl⟩
              have HBB : Hid (B.data.toList = Tw.sprBy i D) := by
                show _ = _
                rw [← hB]
                simp [Tw.sprBy, hi1]
              have hBs : B.size ≤ 17 := by rw [← hB]; show D.toArray.size ≤ 17; omega
              rw [hB]
              go_loopg [20, 21] q (fun j sv iv wz => ∃ q3 : Nat, ∃ u : ByteArray, j + q3 = q ∧ q3 ≤ q ∧ iv = .int .i64 q3 ∧ sv = .string u ∧ Hid (u.data.toList = Tw.sprIn (Tw.sprUse true (Tw.sprBy i D)) q3) ∧ u.size ≤ 1 + 25 * q3 ∧ wz = wr)
              case atStart => exact ⟨0, ⟨#[48]⟩, by omega, by omega, rfl, rfl, rfl, by decide, rfl⟩
              case round =>
                obtain ⟨q3, u3, hj3, hq3, rfl, rfl, hu3, hus3, rfl⟩ := hrel
                by_cases hlt3 : q3 < q
                · have hli3 : (q3 : Int) < (q : Int) := by omega
                  go_wp2_with fail
                  go_roundg (gk - 1)
                  case measure => omega
                  case rel => exact ⟨q3 + 1, _, by omega, by omega, by go_num, rfl, by show _ = _; simp [Tw.sprIn, Tw.sprUse, unhide HBB]; exact unhide hu3, by simp only [ByteArray.size_append, e41, e4040, e4141]; omega, rfl⟩
                · have hli3 : ¬ (q3 : Int) < (q : Int) := by omega
                  obtain rfl : q3 = q := by omega
                  have hw : (⟨(Tw.sprWant i D true q3).toArray⟩ : ByteArray) = u3 := ByteArray.ext (Array.toList_inj.1 (by simpa [Tw.sprWant] using (unhide hu3).symm))
                  rw [hw] at XA
                  go_wp2_with fail
                  refine (Source_any (unhide XA)).mono ?_
                  rintro e1 w11 ⟨rfl, rfl⟩
                  go_wp2_with fail
                  refine (Type_any (S := WtS) (unhide XA) (ofSaid_any L.it (unhide H3))).mono ?_
                  rintro e1 w12 ⟨rfl, hk⟩
                  have KC := hide (grown_trans (unhide KA) hk.grown)
                  have CC := hide ((hk.grown.block r4 (Array.getElem?_eq_some_iff.1 (unhide CA)).1 (by simp)).trans (unhide CA))
                  have DC := hide ((hk.grown.block r8 (Array.getElem?_eq_some_iff.1 (unhide DA)).1 (by simp)).trans (unhide DA))
                  obtain ⟨o0, o1, o2, _, _, _⟩ := three_cells (unhide CC)
                  obtain ⟨p0, p1, p2, _, _, _⟩ := three_cells (unhide DC)
                  clear hk XA KA CA DA
                  go_wp2_with fail
                  go_ret
                  exact ⟨rfl, unhide KC⟩

end Go.Proofs.YtckhafpejefbbaaGreatDoor

/- What Spread reaches. -/
namespace Go.Proofs.YtckhafpejefbbaaGreatDoor
open Go.ChangeShapes Go.WideShapes Go.ChangeAt Go.RowKit

theorem spread_f1 : (Rows.spreadRow.inPlace == Tryz.checked.prog.inPlace 13) = true := by kernel_rfl

theorem spread_f2 : (Rows.spreadRow.unfollowed == Tryz.checked.prog.unfollowed 13) = true := by kernel_rfl

theorem spread_f3 : (Rows.spreadRow.recurses == Tryz.checked.prog.recurses 13) = true := by kernel_rfl

theorem spread_f4 : (Rows.spreadRow.named == Tryz.checked.prog.varsNamed 13) = true := by kernel_rfl

theorem spread_closed : joinedFacts Tryz.checked.prog 13 Tryz.f13 Rows.spreadSpec Rows.spreadRow = true := by
  unfold joinedFacts
  iterate 19 (rw [Bool.and_eq_true]; refine ⟨?_, by kernel_rfl⟩)
  rw [Bool.and_eq_true]
  refine ⟨?_, spread_f4⟩
  rw [Bool.and_eq_true]
  refine ⟨?_, spread_f3⟩
  rw [Bool.and_eq_true]
  refine ⟨?_, spread_f2⟩
  rw [Bool.and_eq_true]
  refine ⟨?_, spread_f1⟩
  kernel_rfl

end Go.Proofs.YtckhafpejefbbaaGreatDoor
