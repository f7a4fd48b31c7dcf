/- Texts of the proof, put together: AltRen3. -/
import Derived.Test.YtckhafpejefbbaaGreatDoorB25

/- alter.Rename of a text that was opened. -/
namespace Go.Proofs.YtckhafpejefbbaaGreatDoor
open Go.RowKit

theorem bat_bpl (t : Tw.T) : t.bat = t.bpl := by cases t <;> rfl

theorem Tw.binds_sub {n : Tw.T} : ∀ {t : Tw.T}, n ∈ t.binds → n.places.Sublist t.places ∧ ∀ s ∈ n.spans, s ∈ t.spans
  | .name .., h | .int .., h | .truth .., h | .side .., h => by cases h
  | .bracket _ _ i, h => binds_sub (t := i) h
  | .pair _ _ a b, h => by
    rcases List.mem_append.1 h with h | h
    · exact ⟨(binds_sub h).1.trans (List.sublist_append_left _ _), fun s hs => List.mem_append_left _ ((binds_sub h).2 s hs)⟩
    · exact ⟨(binds_sub h).1.trans (List.sublist_append_right _ _), fun s hs => List.mem_append_right _ ((binds_sub h).2 s hs)⟩
  | .call _ _ a b, h => by
    rcases List.mem_append.1 h with h | h
    · exact ⟨(binds_sub h).1.trans (List.sublist_append_left _ _), fun s hs => List.mem_append_left _ ((binds_sub h).2 s hs)⟩
    · exact ⟨(binds_sub h).1.trans (List.sublist_append_right _ _), fun s hs => List.mem_append_right _ ((binds_sub h).2 s hs)⟩
  | .binary _ _ _ a b, h => by
    rcases List.mem_append.1 h with h | h
    · exact ⟨(binds_sub h).1.trans (List.sublist_append_left _ _), fun s hs => List.mem_append_left _ ((binds_sub h).2 s hs)⟩
    · exact ⟨(binds_sub h).1.trans (List.sublist_append_right _ _), fun s hs => List.mem_append_right _ ((binds_sub h).2 s hs)⟩
  | .cond _ _ a b c, h => by
    rcases List.mem_append.1 h with h | h
    · exact ⟨(binds_sub h).1.trans (List.sublist_append_left _ _), fun s hs => List.mem_append_left _ ((binds_sub h).2 s hs)⟩
    · rcases List.mem_append.1 h with h | h
      · exact ⟨(binds_sub h).1.trans ((List.sublist_append_left _ _).trans (List.sublist_append_right _ _)), fun s hs => List.mem_append_right _ (List.mem_append_left _ ((binds_sub h).2 s hs))⟩
      · exact ⟨(binds_sub h).1.trans ((List.sublist_append_right _ _).trans (List.sublist_append_right _ _)), fun s hs => List.mem_append_right _ (List.mem_append_right _ ((binds_sub h).2 s hs))⟩
  | .fn _ _ _ _ a, h => by
    rcases List.mem_cons.1 h with rfl | h
    · exact ⟨List.Sublist.refl _, fun s hs => hs⟩
    · exact ⟨(binds_sub h).1.trans (List.sublist_cons_self _ _), fun s hs => List.mem_cons_of_mem _ ((binds_sub h).2 s hs)⟩
  | .lett _ _ _ _ _ a b, h => by
    rcases List.mem_cons.1 h with rfl | h
    · exact ⟨List.Sublist.refl _, fun s hs => hs⟩
    · rcases List.mem_append.1 h with h | h
      · exact ⟨(binds_sub h).1.trans ((List.sublist_append_left _ _).trans (List.sublist_cons_self _ _)), fun s hs => List.mem_cons_of_mem _ (List.mem_append_left _ ((binds_sub h).2 s hs))⟩
      · exact ⟨(binds_sub h).1.trans ((List.sublist_append_right _ _).trans (List.sublist_cons_self _ _)), fun s hs => List.mem_cons_of_mem _ (List.mem_append_right _ ((binds_sub h).2 s hs))⟩

theorem Tw.binds_pl : ∀ t : Tw.T, (t.binds.map Tw.T.bpl).Sublist t.places
  | .name .. => List.nil_sublist _
  | .int .. | .truth .. | .side .. => List.Sublist.refl _
  | .bracket _ _ i => binds_pl i
  | .pair _ _ a b => by simp only [T.binds, List.map_append]; exact (binds_pl a).append (binds_pl b)
  | .call _ _ a b => by simp only [T.binds, List.map_append]; exact (binds_pl a).append (binds_pl b)
  | .binary _ _ _ a b => by simp only [T.binds, List.map_append]; exact (binds_pl a).append (binds_pl b)
  | .cond _ _ a b c => by simp only [T.binds, List.map_append]; exact (binds_pl a).append ((binds_pl b).append (binds_pl c))
  | .fn _ _ _ _ a => (binds_pl a).cons_cons _
  | .lett _ _ _ _ _ a b => by simp only [T.binds, List.map_cons, List.map_append]; exact ((binds_pl a).append (binds_pl b)).cons_cons _

theorem bindL_cons (x : TN) (L : List TN) : bindL (x :: L) = if x.bind.isSome then x :: bindL L else bindL L := by
  simp only [bindL, List.filter_cons]

theorem NDL.binds {w : World} {hi : Nat} : ∀ {t : Tw.T} {v : Value} {L : List TN}, NDL w hi t v L → (bindL L).map (·.t) = t.binds
  | .name .., _, _, ⟨_, e⟩ => by subst e; rfl
  | .int .., _, _, ⟨_, e⟩ => by subst e; rfl
  | .truth .., _, _, ⟨_, e⟩ => by subst e; rfl
  | .side .., _, _, ⟨_, e⟩ => by subst e; rfl
  | .bracket .., _, _, ⟨_, _, _, n1, e⟩ => by
    subst e
    rw [bindL_cons, if_neg (by simp [TN.bind]), NDL.binds n1]
    rfl
  | .pair .., _, _, ⟨_, _, _, _, _, n1, n2, e⟩ => by
    subst e
    rw [bindL_cons, if_neg (by simp [TN.bind]), bindL_append, List.map_append, NDL.binds n1, NDL.binds n2]
    rfl
  | .call .., _, _, ⟨_, _, _, _, _, n1, n2, e⟩ => by
    subst e
    rw [bindL_cons, if_neg (by simp [TN.bind]), bindL_append, List.map_append, NDL.binds n1, NDL.binds n2]
    rfl
  | .binary .., _, _, ⟨_, _, _, _, _, n1, n2, e⟩ => by
    subst e
    rw [bindL_cons, if_neg (by simp [TN.bind]), bindL_append, List.map_append, NDL.binds n1, NDL.binds n2]
    rfl
  | .cond .., _, _, ⟨_, _, _, _, _, _, _, n1, n2, n3, e⟩ => by
    subst e
    rw [bindL_cons, if_neg (by simp [TN.bind]), bindL_append, bindL_append, List.map_append, List.map_append, NDL.binds n1, NDL.binds n2, NDL.binds n3]
    rfl
  | .fn .., _, _, ⟨_, _, ⟨b, _, _, hv, _⟩, n1, e⟩ => by
    subst e
    subst hv
    rw [bindL_cons, if_pos (by simp [TN.bind]), List.map_cons, NDL.binds n1]
    rfl
  | .lett .., _, _, ⟨_, _, _, _, ⟨b, _, _, hv, _⟩, n1, n2, e⟩ => by
    subst e
    subst hv
    rw [bindL_cons, if_pos (by simp [TN.bind]), bindL_append, List.map_cons, List.map_append, NDL.binds n1, NDL.binds n2]
    rfl

theorem NL.len {w : World} {hi : Nat} : ∀ {t : Tw.T} {v : Value} {e : Tw.BEn} {L : List NB}, NL w hi t v e L → L.length ≤ t.places.length
  | .name .., _, _, _, ⟨_, _, rfl⟩ => by simp [Tw.T.places]
  | .int .., _, _, _, ⟨_, rfl⟩ => Nat.le_refl _
  | .truth .., _, _, _, ⟨_, rfl⟩ => Nat.le_refl _
  | .side .., _, _, _, ⟨_, rfl⟩ => Nat.le_refl _
  | .bracket _ _ i, _, _, _, ⟨_, _, r1⟩ => NL.len (t := i) r1
  | .pair .., _, _, _, ⟨_, _, _, _, _, r1, r2, rfl⟩ => by have := NL.len r1; have := NL.len r2; simp [Tw.T.places]; omega
  | .call .., _, _, _, ⟨_, _, _, _, _, r1, r2, rfl⟩ => by have := NL.len r1; have := NL.len r2; simp [Tw.T.places]; omega
  | .binary .., _, _, _, ⟨_, _, _, _, _, r1, r2, rfl⟩ => by have := NL.len r1; have := NL.len r2; simp [Tw.T.places]; omega
  | .cond .., _, _, _, ⟨_, _, _, _, _, _, _, r1, r2, r3, rfl⟩ => by have := NL.len r1; have := NL.len r2; have := NL.len r3; simp [Tw.T.places]; omega
  | .fn .., _, _, _, ⟨_, _, _, r1⟩ => by have := NL.len r1; simp [Tw.T.places]; omega
  | .lett .., _, _, _, ⟨_, _, _, _, _, _, r1, r2, rfl⟩ => by have := NL.len r1; have := NL.len r2; simp [Tw.T.places]; omega

theorem inc_len {N : Nat} : ∀ {L : List Nat} {d : Nat}, L.Pairwise (· < ·) → (∀ f ∈ L, d ≤ f ∧ f < N) → d ≤ N → L.length + d ≤ N
  | [], d, _, _, h => by simpa using h
  | f :: L, d, hp, hb, _ => by
    obtain ⟨h1, h2⟩ := hb f (by simp)
    have hp' := List.pairwise_cons.1 hp
    have := inc_len (d := f + 1) hp'.2 (fun g hg => ⟨hp'.1 g hg, (hb g (by simp [hg])).2⟩) h2
    simp only [List.length_cons]
    omega

structure Opened (l : List UInt8) (t : Tw.T) (body : List Tw.Tok) : Prop where
  lex : Tw.Lex 0 l body
  text : Tw.Text l body t
  len : l.length ≤ 300

theorem Opened.nd {l : List UInt8} {t : Tw.T} {body : List Tw.Tok} (h : Opened l t body) : t.places.Nodup := h.text.inc.imp (fun h => Nat.ne_of_lt h)

theorem Opened.sp {l : List UInt8} {t : Tw.T} {body : List Tw.Tok} (h : Opened l t body) : SpOk t := fun s hs => (h.text.ok h.lex s hs).1

theorem Opened.small {l : List UInt8} {t : Tw.T} {body : List Tw.Tok} (h : Opened l t body) : t.places.length ≤ 300 := by
  have := inc_len (N := l.length) (d := 0) h.text.inc (fun f hf => by
    rw [Tw.places_spans] at hf
    obtain ⟨s, hs, rfl⟩ := List.mem_map.1 hf
    obtain ⟨k, hk, _, k1, k2, _⟩ := h.text.span s hs
    have := ((h.lex.toks).1 k hk).lt
    have := ((h.lex.toks).1 k hk).high
    omega) (by omega)
  have := h.len
  omega

theorem Opened.bind {l : List UInt8} {t : Tw.T} {body : List Tw.Tok} (h : Opened l t body) {n : Tw.T} (hn : n ∈ t.binds) : (n.bpl, n.bpl + n.bname.length, n.bname) ∈ t.spans ∧ n.bpl + n.bname.length ≤ 300 := by
  have HP := Tw.hit_props (Tw.hit_of_mem t h.nd n hn)
  obtain ⟨to, hs⟩ := HP.span n.bpl (by simp)
  obtain ⟨a, b⟩ := h.text.ok h.lex _ hs
  simp only at a b
  have := h.len
  exact ⟨by rw [← a]; exact hs, by omega⟩

theorem holds_bind {x : TN} {w : World} {hi : Nat} (hr : Rep w 0 hi x.t x.v) {a : Int} (h : x.t.holds a = true) : x.bind.isSome = true ∧ (x.t.bpl : Int) ≤ a ∧ a < (x.t.bpl : Int) + x.t.bname.length := by
  obtain ⟨t, v⟩ := x
  cases t with
  | fn fr to n k b =>
    obtain ⟨v1, ⟨b, _, _, rfl, _⟩, _⟩ := hr
    simp only [Tw.T.holds, Bool.and_eq_true, decide_eq_true_eq] at h
    exact ⟨by simp [TN.bind], h.1, h.2⟩
  | lett fr to rc n k d b =>
    obtain ⟨v1, v2, ⟨b, _, _, rfl, _⟩, _⟩ := hr
    simp only [Tw.T.holds, Bool.and_eq_true, decide_eq_true_eq] at h
    exact ⟨by simp [TN.bind], h.1, h.2⟩
  | _ => simp [Tw.T.holds] at h

theorem bind_holds2 {x : TN} (h : x.bind.isSome = true) {a : Int} (h1 : (x.t.bpl : Int) ≤ a) (h2 : a < (x.t.bpl : Int) + x.t.bname.length) : x.t.holds a = true := by
  obtain ⟨t, v⟩ := x
  cases t with
  | fn fr to n k b => simp only [Tw.T.holds, Bool.and_eq_true, decide_eq_true_eq]; exact ⟨h1, h2⟩
  | lett fr to rc n k d b => simp only [Tw.T.holds, Bool.and_eq_true, decide_eq_true_eq]; exact ⟨h1, h2⟩
  | _ => simp [TN.bind] at h

theorem inj_of_nodup {α : Type} {f : α → Nat} : ∀ {L : List α}, (L.map f).Nodup → ∀ {x y : α}, x ∈ L → y ∈ L → f x = f y → x = y
  | [], _, _, _, h, _, _ => by cases h
  | a :: L, hn, x, y, hx, hy, e => by
    have hn' := List.nodup_cons.1 hn
    rcases List.mem_cons.1 hx with rfl | hx'
    · rcases List.mem_cons.1 hy with rfl | hy'
      · rfl
      · exact absurd (List.mem_map.2 ⟨y, hy', e.symm⟩) hn'.1
    · rcases List.mem_cons.1 hy with rfl | hy'
      · exact absurd (List.mem_map.2 ⟨x, hx', e⟩) hn'.1
      · exact inj_of_nodup hn'.2 hx' hy' e

theorem hit_mem {l : List UInt8} {t : Tw.T} {body : List Tw.Tok} (h : Opened l t body) {w : World} {hi : Nat} {v : Value} {L : List TN} (hn : NDL w hi t v L) {x : TN} (hx : x ∈ bindL L) {a : Int} (h1 : (x.t.bpl : Int) ≤ a) (h2 : a < (x.t.bpl : Int) + x.t.bname.length) : hitL a L = some x := by
  obtain ⟨hxL, hxb⟩ := List.mem_filter.1 hx
  have hxh := bind_holds2 hxb h1 h2
  have hb := hn.binds
  cases hz : hitL a L with
  | none =>
    have := List.find?_eq_none.1 hz x hxL
    exact absurd hxh this
  | some z =>
    have hzL := List.mem_of_find?_eq_some hz
    have hzh : z.t.holds a = true := List.find?_some (p := fun x : TN => x.t.holds a) hz
    obtain ⟨hzb, z1, z2⟩ := holds_bind (hn.rep.2 z hzL) hzh
    have hzB : z ∈ bindL L := List.mem_filter.2 ⟨hzL, hzb⟩
    have mx : x.t ∈ t.binds := by rw [← hb]; exact List.mem_map_of_mem hx
    have mz : z.t ∈ t.binds := by rw [← hb]; exact List.mem_map_of_mem hzB
    obtain ⟨kx, hkx, _, x3, x4, _⟩ := h.text.span _ (h.bind mx).1
    obtain ⟨kz, hkz, _, z3, z4, _⟩ := h.text.span _ (h.bind mz).1
    simp only at x3 x4 z3 z4
    have e : z.t.bpl = x.t.bpl := by
      rcases Tw.tok_apart h.lex hkx hkz with q | q | q
      · omega
      · omega
      · subst q; omega
    have hnd : ((bindL L).map (fun x => x.t.bpl)).Nodup := by
      have : (bindL L).map (fun x => x.t.bpl) = t.binds.map Tw.T.bpl := by rw [← hb, List.map_map]; rfl
      rw [this]
      exact h.nd.sublist (Tw.binds_pl t)
    rw [inj_of_nodup hnd hzB hx e]

end Go.Proofs.YtckhafpejefbbaaGreatDoor
