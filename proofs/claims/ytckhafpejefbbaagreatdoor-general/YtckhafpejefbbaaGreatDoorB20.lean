/- Texts of the proof, put together: GenThy3, GenThy4, RowLib, GenWalk. -/
import Derived.Test.YtckhafpejefbbaaGreatDoorB19
import Derived.Test.YtckhafpejefbbaaGreatDoorB18

/- General's four texts: types and runs. -/
namespace Go.Proofs.YtckhafpejefbbaaGreatDoor.Tw
open Go

/-! ### Types of moved trees -/

def TEn.re (m : Mv) : TEn → TEn
  | .nil => .nil
  | .fix n a o => .fix n a (o.re m)
  | .dfn n t o => .dfn n (t.re m) (o.re m)

theorem TEn.look_re (m : Mv) (x : List UInt8) : ∀ e : TEn, (e.re m).look x = (e.look x).map (fun | .inl r => .inl r | .inr (t, o) => .inr (t.re m, o.re m))
  | .nil => rfl
  | .fix n a o => by
    simp only [TEn.re, TEn.look]
    split
    · rfl
    · exact TEn.look_re m x o
  | .dfn n t o => by
    simp only [TEn.re, TEn.look]
    split
    · rfl
    · exact TEn.look_re m x o

mutual
theorem Typ.re (m : Mv) (hn : ∀ f x, m.nm f x = x) : ∀ {t : T} {e : TEn} {a : Ty}, Typ t e a → Typ (t.re m) (e.re m) a
  | _, _, _, .name h => by simp only [T.re, hn]; exact .name (by rw [TEn.look_re, h]; rfl)
  | _, _, _, .use h hd => by simp only [T.re, hn]; exact .use (by rw [TEn.look_re, h]; rfl) (DTyp.re m hn hd)
  | _, _, _, .int => .int
  | _, _, _, .truth => .truth
  | _, _, _, .side => .side
  | _, _, _, .bracket h => .bracket (Typ.re m hn h)
  | _, _, _, .pair hl hr => .pair (Typ.re m hn hl) (Typ.re m hn hr)
  | _, _, _, .call hl hr => .call (Typ.re m hn hl) (Typ.re m hn hr)
  | _, _, _, .binary hl hr => .binary (Typ.re m hn hl) (Typ.re m hn hr)
  | _, _, _, .cond hc hl hr => .cond (Typ.re m hn hc) (Typ.re m hn hl) (Typ.re m hn hr)
  | _, _, _, .fn h => by simp only [T.re, hn]; exact .fn (Typ.re m hn h)
  | _, _, _, .lett hd hb => by have h1 := DTyp.re m hn hd; have h2 := Typ.re m hn hb; simp only [T.re, TEn.re, hn] at h1 h2 ⊢; exact .lett h1 h2
theorem DTyp.re (m : Mv) (hn : ∀ f x, m.nm f x = x) : ∀ {t : T} {e : TEn} {a : Ty}, DTyp t e a → DTyp (t.re m) (e.re m) a
  | _, _, _, .plain h => by simp only [T.re, hn]; exact .plain (Typ.re m hn h)
  | _, _, _, .recu h => by simp only [T.re, hn]; exact .recu (Typ.re m hn h)
end

theorem T.re_re (m1 m2 : Mv) (h1 : ∀ p, m2.fr (m1.fr p) = p) (h2 : ∀ p, m2.to (m1.to p) = p) (h3 : ∀ f v, m2.val (m1.fr f) (m1.val f v) = v) (h4 : ∀ f x, m2.nm (m1.fr f) (m1.nm f x) = x) : ∀ t : T, (t.re m1).re m2 = t
  | .name .. | .int .. | .truth .. | .side .. => by simp [T.re, h1, h2, h4, h3]
  | .bracket _ _ i => by simp [T.re, h1, h2, T.re_re m1 m2 h1 h2 h3 h4 i]
  | .pair _ _ x y => by simp [T.re, h1, h2, T.re_re m1 m2 h1 h2 h3 h4 x, T.re_re m1 m2 h1 h2 h3 h4 y]
  | .call _ _ x y => by simp [T.re, h1, h2, T.re_re m1 m2 h1 h2 h3 h4 x, T.re_re m1 m2 h1 h2 h3 h4 y]
  | .binary _ _ _ x y => by simp [T.re, h1, h2, T.re_re m1 m2 h1 h2 h3 h4 x, T.re_re m1 m2 h1 h2 h3 h4 y]
  | .cond _ _ x y z => by simp [T.re, h1, h2, T.re_re m1 m2 h1 h2 h3 h4 x, T.re_re m1 m2 h1 h2 h3 h4 y, T.re_re m1 m2 h1 h2 h3 h4 z]
  | .fn _ _ _ _ x => by simp [T.re, h1, h2, h4, T.re_re m1 m2 h1 h2 h3 h4 x]
  | .lett _ _ _ _ _ x y => by simp [T.re, h1, h2, h4, T.re_re m1 m2 h1 h2 h3 h4 x, T.re_re m1 m2 h1 h2 h3 h4 y]

theorem typ_sh (d : Nat) {t : T} {a : Ty} : Typ (t.re (shM d)) .nil a ↔ Typ t .nil a := by
  refine ⟨fun h => ?_, fun h => h.re (shM d) (fun _ _ => rfl)⟩
  have := h.re (⟨fun p => p - d, fun p => p - d, fun _ v => v, fun _ x => x⟩ : Mv) (fun _ _ => rfl)
  rw [T.re_re (shM d) _ (fun p => by simp [shM]) (fun p => by simp [shM]) (fun f v => rfl) (fun f x => rfl)] at this
  exact this

/-- The trees of General's texts. -/
inductive GTree (t : T) : Nat → T → Prop
  | lett {f t0 b f1 t1 d : Nat} : GTree t 0 (.lett f t0 false zz9 b (t.re (shM d)) (.name f1 t1 zz9))
  | fst {f1 t1 f2 t2 f3 t3 f4 t4 f5 t5 d : Nat} : GTree t 1 (.call f1 t1 (.side f2 t2 false) (.pair f3 t3 (.bracket f4 t4 (t.re (shM d))) (.int f5 t5 1)))
  | cond {f1 t1 f2 t2 f3 t3 d d' : Nat} : GTree t 2 (.cond f1 t1 (.truth f2 t2 true) (t.re (shM d)) (.bracket f3 t3 (t.re (shM d'))))
  | snd {f1 t1 f2 t2 f3 t3 f4 t4 f5 t5 f6 t6 f7 t7 b7 f8 t8 f9 t9 d : Nat} : GTree t 3 (.call f1 t1 (.side f2 t2 true) (.pair f3 t3 (.int f4 t4 1) (.call f5 t5 (.bracket f6 t6 (.fn f7 t7 zz9 b7 (.name f8 t8 zz9))) (.bracket f9 t9 (t.re (shM d))))))

theorem look_dfn (x : List UInt8) (t : T) (o : TEn) : (TEn.dfn x t o).look x = some (.inr (t, o)) := by simp [TEn.look]

theorem GTree.typ {t t' : T} {i : Nat} (h : GTree t i t') (a : Ty) : Typ t' .nil a ↔ Typ t .nil a := by
  cases h with
  | lett =>
    constructor
    · intro k
      cases k with
      | lett hd hb =>
        cases hb with
        | name h => simp [TEn.look] at h
        | use h hd' =>
          simp only [TEn.look, if_true, Option.some.injEq, Sum.inr.injEq, Prod.mk.injEq] at h
          obtain ⟨rfl, rfl⟩ := h
          cases hd' with
          | plain h => exact (typ_sh _).1 h
    · intro k
      exact .lett (.plain ((typ_sh _).2 k)) (.use (look_dfn _ _ _) (.plain ((typ_sh _).2 k)))
  | fst =>
    constructor
    · intro k
      cases k with
      | call hf hx =>
        cases hx with
        | pair hl hr =>
          cases hr
          cases hl with
          | bracket hl =>
            cases hf
            exact (typ_sh _).1 hl
    · intro k
      exact .call (.side (b := false) (a := a) (c := .int)) (.pair (.bracket ((typ_sh _).2 k)) .int)
  | cond =>
    constructor
    · intro k
      cases k with
      | cond hc ht hf => exact (typ_sh _).1 ht
    · intro k
      exact .cond .truth ((typ_sh _).2 k) (.bracket ((typ_sh _).2 k))
  | snd =>
    constructor
    · intro k
      cases k with
      | call hf hx =>
        cases hx with
        | pair hl hr =>
          cases hl
          cases hr with
          | call hg hy =>
            cases hf
            cases hy with
            | bracket hy =>
              cases hg with
              | bracket hg =>
                cases hg with
                | fn hg =>
                  cases hg with
                  | name h =>
                    simp only [TEn.look, if_true, Option.some.injEq, Sum.inl.injEq] at h
                    subst h
                    exact (typ_sh _).1 hy
                  | use h _ => simp [TEn.look] at h
    · intro k
      exact .call (.side (b := true) (a := .int) (c := a)) (.pair .int (.call (.bracket (.fn (a := a) (.name (by simp [TEn.look])))) (.bracket ((typ_sh _).2 k))))

/-! ### Names -/

theorem freeS_re (m : Mv) (hn : ∀ f x, m.nm f x = x) : ∀ (t : T) (env : List (List UInt8)), (t.re m).freeS env = none ↔ t.freeS env = none
  | .name fr to x, env => by
    simp only [T.re, T.freeS, hn]
    split <;> simp
  | .int .., _ => by simp [T.re, T.freeS]
  | .truth .., _ => by simp [T.re, T.freeS]
  | .side .., _ => by simp [T.re, T.freeS]
  | .bracket _ _ i, env => freeS_re m hn i env
  | .pair _ _ x y, env => by simp only [T.re, T.freeS, Option.or_eq_none_iff]; rw [freeS_re m hn x, freeS_re m hn y]
  | .call _ _ x y, env => by simp only [T.re, T.freeS, Option.or_eq_none_iff]; rw [freeS_re m hn x, freeS_re m hn y]
  | .binary _ _ _ x y, env => by simp only [T.re, T.freeS, Option.or_eq_none_iff]; rw [freeS_re m hn x, freeS_re m hn y]
  | .cond _ _ x y z, env => by simp only [T.re, T.freeS, Option.or_eq_none_iff]; rw [freeS_re m hn x, freeS_re m hn y, freeS_re m hn z]
  | .fn _ _ n _ x, env => by simp only [T.re, T.freeS, hn]; exact freeS_re m hn x (n :: env)
  | .lett _ _ r n _ x y, env => by simp only [T.re, T.freeS, hn, Option.or_eq_none_iff]; rw [freeS_re m hn x, freeS_re m hn y]

theorem GTree.free {t t' : T} {i : Nat} (h : GTree t i t') (hf : t.freeS [] = none) : t'.freeS [] = none := by
  have k : ∀ d, (t.re (shM d)).freeS [] = none := fun d => (freeS_re _ (fun _ _ => rfl) t []).2 hf
  cases h <;> simp [T.freeS, k]

/-! ### Runs -/

theorem envMv_nil (d : Nat) : envMv d [] = [] := rfl

theorem eval_sh (bud n d : Nat) (t : T) : evalS bud n (t.re (shM d)) [] ⟨[], 0, 0⟩ = (evalS bud n t [] ⟨[], 0, 0⟩).map (outMv (shM d) []) := evalS_mv bud (shM d) (fun _ _ => rfl) (fun _ _ => rfl) [] n t [] ⟨[], 0, 0⟩

theorem eval_sh1 (bud n d : Nat) (t : T) : evalS bud n (t.re (shM d)) [] ⟨[none], 0, 0⟩ = (evalS bud n t [] ⟨[], 0, 0⟩).map (outMv (shM d) [none]) := evalS_mv bud (shM d) (fun _ _ => rfl) (fun _ _ => rfl) [none] n t [] ⟨[], 0, 0⟩

theorem GTree.run {t t' : T} {i : Nat} (h : GTree t i t') (hi : i < 3) {n bud : Nat} {r : Int × Nat × List UInt8} (hr : runS n t bud = some r) : runS (n + 3) t' bud = some r := by
  unfold runS at hr ⊢
  obtain ⟨⟨a1, a2⟩, h1, hr⟩ := Option.bind_eq_some_iff.1 hr
  have h1' := evalS_more (show n ≤ n + 1 by omega) h1
  have h2' := evalS_more (show n ≤ n + 2 by omega) h1
  cases h with
  | lett =>
    rw [evalS]
    simp only [Bool.false_eq_true, if_false, List.nil_append, List.length_nil]
    rw [eval_sh1, h2']
    simp only [Option.map_some, Option.bind_some, outMv]
    cases a1 with
    | none => exact hr
    | some v =>
      simp only [Option.map_some]
      rw [evalS]
      have hl : lookV [(zz9, 0)] zz9 = some 0 := by simp [lookV]
      rw [hl]
      simp only [Option.bind_some, RS.mv, List.cons_append, List.set_cons_zero, List.getElem?_cons_zero]
      simp only [Option.some.injEq] at hr
      rw [← hr, writeV_mv]
  | fst =>
    rw [evalS_call]
    unfold bothS
    rw [show evalS bud (n + 2) (.side _ _ false) [] ⟨[], 0, 0⟩ = some (some (.side false), ⟨[], 0, 0⟩) from rfl]
    simp only [Option.bind_some]
    rw [evalS_pair]
    unfold bothS
    cases n with
    | zero => simp [evalS] at h1
    | succ n =>
    rw [evalS, eval_sh, h1]
    simp only [Option.map_some, Option.bind_some, outMv]
    cases a1 with
    | none => exact hr
    | some v =>
      simp only [Option.map_some]
      rw [evalS, if_pos (by decide)]
      simp only [Option.bind_some, applyS, sideS, Bool.false_eq_true, if_false]
      simp only [Option.some.injEq] at hr
      rw [← hr, writeV_mv]
      rfl
  | cond =>
    rw [evalS, evalS]
    simp only [Option.bind_some, if_true]
    rw [eval_sh, h2']
    simp only [Option.map_some, Option.bind_some, outMv]
    cases a1 with
    | none => exact hr
    | some v =>
      simp only [Option.map_some]
      simp only [Option.some.injEq] at hr
      rw [← hr, writeV_mv]
      rfl
  | snd => omega

end Go.Proofs.YtckhafpejefbbaaGreatDoor.Tw

/- What Open answers of General's texts. -/
namespace Go.Proofs.YtckhafpejefbbaaGreatDoor.Tw
open Go

theorem tree_parts {fo : Nat} {t t1 : T} {sh : List UInt8} (h : treeS fo t = some (.fine t1 sh)) : t1 = t ∧ t.freeS [] = none ∧ (∃ w, weightS t .nil = some w ∧ w ≤ 2000) ∧ ofS fo t = some (some sh) := by
  unfold treeS at h
  cases hf : t.freeS [] with
  | some p => rw [hf] at h; cases h
  | none =>
    rw [hf] at h
    simp only [Option.bind_eq_some_iff] at h
    obtain ⟨k, hk, h⟩ := h
    split at h
    · cases h
    · rename_i hl
      simp only [Option.bind_eq_some_iff] at h
      obtain ⟨o, ho, h⟩ := h
      cases o with
      | none => cases h
      | some s => cases h; exact ⟨rfl, rfl, ⟨k, hk, by omega⟩, ho⟩

theorem gText_len {i : Nat} {s : List UInt8} (hs : s.length ≤ 100) : (gText i s).length ≤ 300 := by
  match i with
  | 0 => simp [gText, gPre, gPost]; omega
  | 1 => simp [gText, gPre, gPost]; omega
  | 2 => simp [gText, gPre, gPost]; omega
  | _ + 3 => simp [gText, gPre, gPost]; omega

/-- **What Open answers of General's texts.** -/
theorem gen_open {fo : Nat} {s : List UInt8} {t : T} {sh : List UInt8} (h : ∀ n, fo ≤ n → openS 6100 n s = some (.fine t sh)) (hs : s.length ≤ 100) {i : Nat} (hi : i < 4) :
    ∃ n0 res, (∀ n, n0 ≤ n → openS 6100 n (gText i s) = some res) ∧ ((∃ p, res = .fault 3 p) ∨ res = .fault 10 0 ∨ ∃ t', res = .fine t' sh ∧ GTree t i t') := by
  obtain ⟨_, body, hL, _, hp, htr⟩ := fine_parts (h fo (Nat.le_refl _))
  obtain ⟨_, hfree, ⟨w, hw, hwl⟩, _⟩ := tree_parts htr
  have hof : ∀ n, fo ≤ n → ofS n t = some (some sh) := fun n hn => by
    obtain ⟨_, body2, _, _, hp2, htr2⟩ := fine_parts (h n hn)
    exact (tree_parts htr2).2.2.2
  obtain ⟨toks, hLex, hT⟩ : ∃ toks, Lex 0 (gText i s) toks ∧ ∀ {n : Nat} {t' : T}, parseS (gText i s) (toks ++ [⟨0, (gText i s).length, (gText i s).length⟩]) n = some (.ok t') → GTree t i t' := by
    match i, hi with
    | 0, _ => exact ⟨_, gLex0 hL, fun h => by obtain ⟨_, _, _, _, _, rfl⟩ := gTree0 hL hp hs h; exact .lett⟩
    | 1, _ => exact ⟨_, gLex1 hL, fun h => by obtain ⟨_, _, _, _, _, _, _, _, _, _, rfl⟩ := gTree1 hL hp hs h; exact .fst⟩
    | 2, _ => exact ⟨_, gLex2 hL, fun h => by obtain ⟨_, _, _, _, _, _, rfl⟩ := gTree2 hL hp hs h; exact .cond⟩
    | 3, _ => exact ⟨_, gLex3 hL, fun h => by obtain ⟨_, _, _, _, _, _, _, _, _, _, _, _, _, _, _, _, _, _, _, rfl⟩ := gTree3 hL hp hs h; exact .snd⟩
  have hspl : split (gText i s) = .ok (toks ++ [⟨0, (gText i s).length, (gText i s).length⟩]) := split_ok_iff.2 ⟨_, hLex, rfl⟩
  have hlen := gText_len (i := i) hs
  have unf : ∀ n, openS 6100 n (gText i s) = (parseS (gText i s) (toks ++ [⟨0, (gText i s).length, (gText i s).length⟩]) 6100).bind fun r =>
      match r with
      | .error p => some (.fault 3 p)
      | .ok t => treeS n t := fun n => by
    unfold openS readS
    rw [if_neg (by omega), hspl]
    rfl
  obtain ⟨r, hr⟩ := parse_tot (split_good hspl hlen) 6100 (by omega)
  cases r with
  | error p => exact ⟨0, .fault 3 p, fun n _ => by rw [unf, hr]; rfl, .inl ⟨p, rfl⟩⟩
  | ok t' =>
    have G := hT hr
    have hf' := G.free hfree
    obtain ⟨w', hw'⟩ := weight_tot t' [] .nil hf' (by simp)
    have unf2 : ∀ n, openS 6100 n (gText i s) = if 2000 < w' then some (.fault 10 0) else (ofS n t').bind fun o =>
        match o with
        | none => some (.fault 5 0)
        | some sh => some (.fine t' sh) := fun n => by
      rw [unf, hr]
      simp only [Option.bind_some]
      unfold treeS
      rw [hf']
      simp only
      rw [hw']
      rfl
    by_cases hl' : 2000 < w'
    · exact ⟨0, .fault 10 0, fun n _ => by rw [unf2, if_pos hl'], .inr (.inl rfl)⟩
    · obtain ⟨n0, res, g1, g2⟩ := of_same hw' (by omega) hw hwl G.typ
      have e : res = some sh := by
        have a := g2 (max n0 fo) (by omega)
        rw [hof (max n0 fo) (by omega)] at a
        exact (Option.some.inj a).symm
      subst e
      exact ⟨n0, .fine t' sh, fun n hn => by rw [unf2, if_neg hl', g1 n hn]; rfl, .inr (.inr ⟨t', rfl, G⟩)⟩

/-- A text that Open takes is run, of whatever budget. -/
theorem fine_run {fp fo : Nat} {l : List UInt8} {t : T} {sh : List UInt8} (h : openS fp fo l = some (.fine t sh)) (bud : Nat) : ∃ n r, runS n t bud = some r := by
  obtain ⟨_, body, _, _, hp, htr⟩ := fine_parts h
  exact run_tot (tree_parts htr).2.1 (parse_fit hp) bud

end Go.Proofs.YtckhafpejefbbaaGreatDoor.Tw

/- The library's contracts, one more. -/
namespace Go.Proofs.YtckhafpejefbbaaGreatDoor
open Go.ChangeShapes Go.WideShapes Go.ChangeAt Go.RowKit

theorem lib5 : Lib5 := { lib4 with it := fun i hi w => (Tryz.strconv_Itoa_small i hi w).mono fun _ _ ⟨h1, h2⟩ => ⟨h1, h2.symm⟩ }

end Go.Proofs.YtckhafpejefbbaaGreatDoor

/- tailorkeep.General. -/
namespace Go.Proofs.YtckhafpejefbbaaGreatDoor
open Go.RowKit

theorem ofSaid_any (hIt : Said.ItoaSmall) {t : Tw.T} {fuel : Nat} {sh : List UInt8} (hf : Tw.ofS fuel t = some (some sh)) : OfSaid WtS t sh := fun _ _ _ hr => Of_any hIt hr hf

/-- What a round of General meets. -/
theorem gen_round {fo : Nat} {s : ByteArray} {t : Tw.T} {sh : List UInt8} (h : ∀ n, fo ≤ n → Tw.openS 6100 n s.data.toList = some (.fine t sh)) (hs : s.size ≤ 100) (q : Nat) (hq : q < 4) {nf : Nat} {bud : Nat} {r : Int × Nat × List UInt8} (hr : Tw.runS nf t bud = some r) :
    ∃ n0 res, Tw.openS 6100 n0 (Tw.gText q s.data.toList) = some res ∧ ((∃ p, res = .fault 3 p) ∨ res = .fault 10 0 ∨ ∃ t' m, res = .fine t' sh ∧ Tw.ofS m t' = some (some sh) ∧ (q < 3 → Tw.runS (nf + 3) t' bud = some r)) := by
  obtain ⟨n0, res, g, hc⟩ := Tw.gen_open h (by rw [show s.data.toList.length = s.size from Array.length_toList]; exact hs) hq
  refine ⟨n0, res, g n0 (Nat.le_refl _), ?_⟩
  rcases hc with hp | h10 | ⟨t', rfl, G⟩
  · exact .inl hp
  · exact .inr (.inl h10)
  · obtain ⟨_, _, _, _, _, htr⟩ := Tw.fine_parts (g n0 (Nat.le_refl _))
    exact .inr (.inr ⟨t', n0, rfl, (Tw.tree_parts htr).2.2.2, fun h3 => G.run h3 hr⟩)

/-- General's texts as the program puts them together. -/
def gVals (s : ByteArray) : List Value := [.string (⟨#[108, 101, 116, 32, 122, 122, 57, 32, 61, 32]⟩ ++ s ++ ⟨#[32, 105, 110, 32, 122, 122, 57]⟩), .string (⟨#[102, 115, 116, 32, 40, 40]⟩ ++ s ++ ⟨#[41, 44, 32, 49, 41]⟩), .string (⟨#[105, 102, 32, 116, 114, 117, 101, 32, 116, 104, 101, 110, 32]⟩ ++ s ++ ⟨#[32, 101, 108, 115, 101, 32, 40]⟩ ++ s ++ ⟨#[41]⟩), .string (⟨#[115, 110, 100, 32, 40, 49, 44, 32, 40, 102, 117, 110, 32, 122, 122, 57, 32, 45, 62, 32, 122, 122, 57, 41, 32, 40]⟩ ++ s ++ ⟨#[41, 41]⟩)]

theorem gVals_get (s : ByteArray) (q : Nat) (h : q < 4) : ∃ u : ByteArray, (gVals s)[q]'(by simpa [gVals] using h) = .string u ∧ u.data.toList = Tw.gText q s.data.toList := by
  match q, h with
  | 0, _ => exact ⟨_, rfl, by simp [Tw.gText, Tw.gPre, Tw.gPost]⟩
  | 1, _ => exact ⟨_, rfl, by simp [Tw.gText, Tw.gPre, Tw.gPost]⟩
  | 2, _ => exact ⟨_, rfl, by simp [Tw.gText, Tw.gPre, Tw.gPost]⟩
  | 3, _ => exact ⟨_, rfl, by simp [Tw.gText, Tw.gPre, Tw.gPost]⟩

set_option maxRecDepth 100000 in
set_option maxHeartbeats 4000000 in
theorem General_any (L : Lib5) {w : World} (hT : Tab w) (hG : 1 < w.heap.size) (s : ByteArray) (n : Int) :
    Calls Tryz.prog 9 #[.string s, .int .i64 n] w fun e w' => e = .returned (.bool true) ∧ w.grownBy w' none := by
  have HT := hide hT
  obtain ⟨fo, res, hres⟩ := Tw.open_tot s.data.toList
  have HRes := hide (hres fo (Nat.le_refl _))
  have HAll := hide hres
  clear hT hres
  cases res with
  | fault k p =>
    have hk0 : k ≠ 0 := by
      have := unhide HRes
      unfold Tw.openS at this
      split at this
      · cases this; omega
      · exact fault_ne this
    have hki : ¬ (k : Int) = 0 := by omega
    have hkb : ((k : Int) != 0) = true := by simp; omega
    go_enter Tryz.func9, Tryz.ntmps9
    go_wp2_with fail
    refine (awake_any L.toLib4 (unhide HT) hG).mono ?_
    rintro e1 w1 ⟨rfl, hk⟩
    have K1 := hide hk.grown
    clear hk
    go_wp2_with fail
    refine (Open_any L.ib L.pi L.it (unhide HRes) w1).mono ?_
    rintro e1 w2 ⟨rfl, hk⟩
    have K2 := hide (grown_trans (unhide K1) hk.grown)
    clear hk
    go_wp2_with fail
    go_ret
    exact ⟨rfl, unhide K2⟩
  | fine t sh =>
    have hl := (Tw.fine_parts (unhide HRes)).1
    rw [show s.data.toList.length = s.size from Array.length_toList] at hl
    by_cases hlen : 100 < s.size
    · have hli : (100 : Int) < (s.size : Int) := by omega
      go_enter Tryz.func9, Tryz.ntmps9
      go_wp2_with fail
      refine (awake_any L.toLib4 (unhide HT) hG).mono ?_
      rintro e1 w1 ⟨rfl, hk⟩
      have K1 := hide hk.grown
      clear hk
      go_wp2_with fail
      refine (Open_any L.ib L.pi L.it (unhide HRes) w1).mono ?_
      rintro e1 w2 ⟨bt, rfl, _, hk⟩
      have K2 := hide (grown_trans (unhide K1) hk.grown)
      clear hk
      go_wp2_with fail
      go_ret
      exact ⟨rfl, unhide K2⟩
    · have hli : ¬ (100 : Int) < (s.size : Int) := by omega
      have hs100 : s.size ≤ 100 := by omega
      obtain ⟨_, _, _, _, _, htr⟩ := Tw.fine_parts (unhide HRes)
      have HOf := hide (Tw.tree_parts htr).2.2.2
      obtain ⟨nf, ⟨rk, rs, rsh⟩, hrun⟩ := Tw.fine_run (unhide HRes) (budget n)
      have HRun := hide hrun
      have HGen := hide (fun q hq => gen_round (unhide HAll) hs100 q hq hrun)
      clear htr hrun hl hlen HAll
      go_enter Tryz.func9, Tryz.ntmps9
      go_wp2_with fail
      refine (awake_any L.toLib4 (unhide HT) hG).mono ?_
      rintro e1 w1 ⟨rfl, hk⟩
      have K1 := hide hk.grown
      clear hk
      go_wp2_with fail
      refine (Open_any L.ib L.pi L.it (unhide HRes) w1).mono ?_
      rintro e1 w2 ⟨bt, rfl, hX, hk⟩
      have X2 := hide hX
      have K2 := hide (grown_trans (unhide K1) hk.grown)
      clear hk hX HRes
      go_wp2_with fail
      refine (Type_any (S := WtS) (unhide X2) (ofSaid_any L.it (unhide HOf))).mono ?_
      rintro e1 w3 ⟨rfl, hk⟩
      have X3 := hide ((unhide X2).tk (TK.of_grown 0 [] hk.grown) (by decide))
      have K3 := hide (grown_trans (unhide K2) hk.grown)
      clear hk X2 HOf
      go_wp2_with fail
      refine (Run_any L.fi L.fb n (unhide X3) ((unhide HT).tk (TK.of_grown w.heap.size [] (unhide K3)) hG) (by have := (unhide K3).size; omega) (unhide HRun)).mono ?_
      rintro e1 w4 ⟨rfl, hk⟩
      have K4 := hide (grown_trans (unhide K3) hk.grown)
      clear hk X3
      go_wp2_with fail
      have A5 : Hid (w.grownBy (w4.alloc (.cells #[.int .i64 rk, .int .i64 rs, bytesV rsh] 39)) none) := grown_trans (unhide K4) (World.grownBy_alloc _ _ none)
      have C5 : Hid ((w4.alloc (.cells #[.int .i64 rk, .int .i64 rs, bytesV rsh] 39)).heap[w4.heap.size]? = some (.cells #[.int .i64 rk, .int .i64 rs, bytesV rsh] 39 (0, 0))) := new_block w4 _
      generalize w4.alloc (.cells #[.int .i64 rk, .int .i64 rs, bytesV rsh] 39) = w5 at *
      generalize w4.heap.size = r4 at *
      clear K1 K2 K3 K4
      go_loopg [11] 4 (fun j iv wr => ∃ q : Nat, j + q = 4 ∧ q ≤ 4 ∧ iv = .int .i64 q ∧ Hid (w.grownBy wr none) ∧ Hid (wr.heap[r4]? = some (.cells #[.int .i64 rk, .int .i64 rs, bytesV rsh] 39 (0, 0))))
      case atStart => exact ⟨0, by omega, by omega, rfl, A5, C5⟩
      case round =>
        obtain ⟨q, hjq, hq, rfl, KR, CR⟩ := hrel
        by_cases hlt : q < 4
        · have hqi : (q : Int) < 4 := by omega
          obtain ⟨n0, res', hop, hcase⟩ := unhide HGen q hlt
          have HOp := hide hop
          have HCase := hide hcase
          clear hop hcase
          go_wp2_with fail
          obtain ⟨u, hv1, hv2⟩ := gVals_get s q hlt
          simp only [gVals] at hv1
          rw [hv1]
          have HOp' : Hid (Tw.openS 6100 n0 u.data.toList = some res') := by show _ = _; rw [hv2]; exact unhide HOp
          clear hv1 hv2 HOp
          generalize hw6 : wr.alloc _ = w6
          have K6 : Hid (w.grownBy w6 none) := grown_trans (unhide KR) (hw6 ▸ World.grownBy_alloc _ _ none)
          have C6 : Hid (w6.heap[r4]? = some (.cells #[.int .i64 rk, .int .i64 rs, bytesV rsh] 39 (0, 0))) := ((show wr.grownBy w6 none from hw6 ▸ World.grownBy_alloc _ _ none).block r4 (Array.getElem?_eq_some_iff.1 (unhide CR)).1 (by simp)).trans (unhide CR)
          clear hw6 KR CR
          rcases unhide HCase with ⟨p, rfl⟩ | rfl | ⟨t', m, rfl, hof, hrun⟩
          · clear HCase
            refine (Open_any L.ib L.pi L.it (unhide HOp') w6).mono ?_
            rintro e1 w7 ⟨rfl, hk⟩
            have K7 := hide (grown_trans (unhide K6) hk.grown)
            have C7 := hide ((hk.grown.block r4 (Array.getElem?_eq_some_iff.1 (unhide C6)).1 (by simp)).trans (unhide C6))
            clear hk
            go_wp2_with fail
            go_roundg (gk - 1)
            case measure => omega
            case rel => exact ⟨q + 1, by omega, by omega, by go_num, K7, C7⟩
          · clear HCase
            refine (Open_any L.ib L.pi L.it (unhide HOp') w6).mono ?_
            rintro e1 w7 ⟨rfl, hk⟩
            have K7 := hide (grown_trans (unhide K6) hk.grown)
            have C7 := hide ((hk.grown.block r4 (Array.getElem?_eq_some_iff.1 (unhide C6)).1 (by simp)).trans (unhide C6))
            clear hk
            go_wp2_with fail
            go_roundg (gk - 1)
            case measure => omega
            case rel => exact ⟨q + 1, by omega, by omega, by go_num, K7, C7⟩
          · clear HCase
            have HOf := hide hof
            have HRn := hide hrun
            clear hof hrun
            refine (Open_any L.ib L.pi L.it (unhide HOp') w6).mono ?_
            rintro e1 w7 ⟨b7, rfl, hX, hk⟩
            have X7 := hide hX
            have K7 := hide (grown_trans (unhide K6) hk.grown)
            have C7 := hide ((hk.grown.block r4 (Array.getElem?_eq_some_iff.1 (unhide C6)).1 (by simp)).trans (unhide C6))
            clear hk hX HOp' K6 C6
            go_wp2_with fail
            refine (Type_any (S := WtS) (unhide X7) (ofSaid_any L.it (unhide HOf))).mono ?_
            rintro e1 w8 ⟨rfl, hk⟩
            have X8 := hide ((unhide X7).tk (TK.of_grown 0 [] hk.grown) (by decide))
            have K8 := hide (grown_trans (unhide K7) hk.grown)
            have C8 := hide ((hk.grown.block r4 (Array.getElem?_eq_some_iff.1 (unhide C7)).1 (by simp)).trans (unhide C7))
            clear hk X7 K7 C7 HOf
            by_cases h3 : q < 3
            · have h3i : (q : Int) < 3 := by omega
              go_wp2_with fail
              refine (Run_any L.fi L.fb n (unhide X8) ((unhide HT).tk (TK.of_grown w.heap.size [] (unhide K8)) hG) (by have := (unhide K8).size; omega) (unhide HRn h3)).mono ?_
              rintro e1 w9 ⟨rfl, hk⟩
              have K9 := hide (grown_trans (unhide K8) hk.grown)
              have C9 := hide ((hk.grown.block r4 (Array.getElem?_eq_some_iff.1 (unhide C8)).1 (by simp)).trans (unhide C8))
              have lr : r4 < w9.heap.size := (Array.getElem?_eq_some_iff.1 (unhide C9)).1
              clear hk X8 K8 C8 HRn
              obtain ⟨o0, o1, o2, _, _, _⟩ := three_cells (unhide C9)
              go_wp2_with fail
              go_roundg (gk - 1)
              case measure => omega
              case rel => exact ⟨q + 1, by omega, by omega, by go_num, grown_trans (unhide K9) (World.grownBy_alloc _ _ none), ((World.grownBy_alloc w9 (.cells #[.int .i64 rk, .int .i64 rs, bytesV rsh] 39) none).block r4 lr (by simp)).trans (unhide C9)⟩
            · have h3i : ¬ (q : Int) < 3 := by omega
              go_wp2_with fail
              go_roundg (gk - 1)
              case measure => omega
              case rel => exact ⟨q + 1, by omega, by omega, by go_num, K8, C8⟩
        · go_wp2_with fail
          go_ret
          go_light
          exact ⟨rfl, unhide KR⟩

end Go.Proofs.YtckhafpejefbbaaGreatDoor
