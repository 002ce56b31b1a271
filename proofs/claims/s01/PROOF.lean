import PyProof.Rows.All
import Wide.All
import OpenK.AllK
import Wide.FinOn
import PyProof.DictMoreH
import HandS.ForMost
import HandS.Walk
import HandS.TupAny
import HandS.Zip
import HandS.ForSpec
import KE.OsGo
import Open.SpecLaws
import PySem.Challenge.RW_fingercells_s01_answers
/-! Fc, part 1: when a table is sure. The dangling rests, the rounds of the specification, and that sure tables are read in one way. -/
set_option Elab.async false
namespace Fc
open Km344

/-! ### lists -/
theorem nodup_le {α : Type} : ∀ {l S : List α}, l.Nodup → (∀ x ∈ l, x ∈ S) → l.length ≤ S.length
  | [], _, _, _ => Nat.zero_le _
  | x :: l, S, hn, hs => by
    rw [List.nodup_cons] at hn
    have hx : x ∈ S := hs x (List.mem_cons_self ..)
    obtain ⟨A, B, rfl⟩ := List.append_of_mem hx
    have ih := nodup_le (l := l) (S := A ++ B) hn.2 (fun y hy => by
      have h1 := hs y (List.mem_cons_of_mem _ hy)
      rcases List.mem_append.mp h1 with h | h
      · exact List.mem_append_left _ h
      · rcases List.mem_cons.mp h with rfl | h
        · exact absurd hy hn.1
        · exact List.mem_append_right _ h)
    simp only [List.length_append, List.length_cons] at ih ⊢
    omega

theorem app_cases {α : Type} {a b c d : List α} (h : a ++ b = c ++ d) : (∃ r, c = a ++ r ∧ b = r ++ d) ∨ (∃ r, a = c ++ r ∧ d = r ++ b) := by
  rcases List.append_eq_append_iff.mp h with ⟨r, h1, h2⟩ | ⟨r, h1, h2⟩
  · exact .inl ⟨r, h1, h2⟩
  · exact .inr ⟨r, h1, h2⟩

/-! ### the dangling rests of a list of codes -/
inductive Reach (cs : List Cells) : Cells → Prop
  | base {a b d : Cells} (ha : a ∈ cs) (hb : b ∈ cs) (e : a ++ d = b) (hd : d ≠ []) : Reach cs d
  | left {c d r : Cells} (h : Reach cs d) (hc : c ∈ cs) (e : d ++ r = c) : Reach cs r
  | right {c d r : Cells} (h : Reach cs d) (hc : c ∈ cs) (e : c ++ r = d) : Reach cs r

theorem dangling {cs : List Cells} (h0 : ¬ Reach cs []) : ∀ (n : Nat) (d : Cells) (p q : List Cells), p.length + q.length ≤ n → Reach cs d →
    (∀ x ∈ p, x ∈ cs) → (∀ x ∈ q, x ∈ cs) → d ++ p.flatten = q.flatten → False := by
  intro n
  induction n with
  | zero =>
    intro d p q hl hd hp hq e
    have : q = [] := List.length_eq_zero_iff.mp (by omega)
    subst this
    have hd0 : d = [] := by
      have := congrArg List.length e
      simp only [List.length_append, List.flatten_nil, List.length_nil] at this
      exact List.length_eq_zero_iff.mp (by omega)
    exact h0 (hd0 ▸ hd)
  | succ n ih =>
    intro d p q hl hd hp hq e
    cases q with
    | nil =>
      have hd0 : d = [] := by
        have := congrArg List.length e
        simp only [List.length_append, List.flatten_nil, List.length_nil] at this
        exact List.length_eq_zero_iff.mp (by omega)
      exact h0 (hd0 ▸ hd)
    | cons c q =>
      rw [List.flatten_cons] at e
      have hc : c ∈ cs := hq c (List.mem_cons_self ..)
      have hq' : ∀ x ∈ q, x ∈ cs := fun x hx => hq x (List.mem_cons_of_mem _ hx)
      simp only [List.length_cons] at hl
      rcases app_cases e with ⟨r, h1, h2⟩ | ⟨r, h1, h2⟩
      · exact ih r q p (by omega) (.left hd hc h1.symm) hq' hp h2.symm
      · exact ih r p q (by omega) (.right hd hc h1.symm) hp hq' h2.symm

/-- a sure list of codes: rows with the same cells are the same -/
theorem one_row {cs : List Cells} (h0 : ¬ Reach cs []) (hne : ∀ c ∈ cs, c ≠ []) : ∀ (p q : List Cells), (∀ x ∈ p, x ∈ cs) → (∀ x ∈ q, x ∈ cs) → p.flatten = q.flatten → p = q
  | [], [], _, _, _ => rfl
  | [], b :: q, _, hq, e => by
    rw [List.flatten_cons, List.flatten_nil] at e
    have := congrArg List.length e
    simp only [List.length_append, List.length_nil] at this
    exact absurd (List.length_eq_zero_iff.mp (by omega)) (hne b (hq b (List.mem_cons_self ..)))
  | a :: p, [], hp, _, e => by
    rw [List.flatten_cons, List.flatten_nil] at e
    have := congrArg List.length e
    simp only [List.length_append, List.length_nil] at this
    exact absurd (List.length_eq_zero_iff.mp (by omega)) (hne a (hp a (List.mem_cons_self ..)))
  | a :: p, b :: q, hp, hq, e => by
    rw [List.flatten_cons, List.flatten_cons] at e
    have ha : a ∈ cs := hp a (List.mem_cons_self ..)
    have hb : b ∈ cs := hq b (List.mem_cons_self ..)
    have hp' : ∀ x ∈ p, x ∈ cs := fun x hx => hp x (List.mem_cons_of_mem _ hx)
    have hq' : ∀ x ∈ q, x ∈ cs := fun x hx => hq x (List.mem_cons_of_mem _ hx)
    rcases app_cases e with ⟨r, h1, h2⟩ | ⟨r, h1, h2⟩
    · by_cases hr : r = []
      · subst hr
        rw [List.append_nil] at h1
        subst h1
        rw [one_row h0 hne p q hp' hq' h2]
      · exact (dangling h0 _ r q p (Nat.le_refl _) (.base ha hb h1.symm hr) hq' hp' h2.symm).elim
    · by_cases hr : r = []
      · subst hr
        rw [List.append_nil] at h1
        subst h1
        rw [one_row h0 hne p q hp' hq' h2.symm]
      · exact (dangling h0 _ r p q (Nat.le_refl _) (.base hb ha h1.symm hr) hp' hq' h2.symm).elim

/-! ### the specification's rests -/
theorem rest_iff {a b d : Cells} (h : rest a b = some d) : a ++ d = b ∨ b ++ d = a := by
  unfold rest at h
  split at h
  · rename_i hp
    left
    have hp := List.isPrefixOf_iff_prefix.mp hp
    obtain ⟨r, rfl⟩ := hp
    have := Option.some.inj h
    rw [List.drop_left] at this
    rw [this]
  · split at h
    · rename_i hp
      right
      have hp := List.isPrefixOf_iff_prefix.mp hp
      obtain ⟨r, rfl⟩ := hp
      have := Option.some.inj h
      rw [List.drop_left] at this
      rw [this]
    · cases h
theorem rest_of {a d : Cells} : rest a (a ++ d) = some d := by
  unfold rest
  rw [if_pos (List.isPrefixOf_iff_prefix.mpr ⟨d, rfl⟩), List.drop_left]
theorem rest_of' {b d : Cells} : rest (b ++ d) b = some d := by
  unfold rest
  by_cases hd : d = []
  · subst hd
    rw [List.append_nil, if_pos (List.isPrefixOf_iff_prefix.mpr (List.prefix_refl _)), List.drop_length]
  · rw [if_neg, if_pos (List.isPrefixOf_iff_prefix.mpr ⟨d, rfl⟩), List.drop_left]
    intro h
    obtain ⟨r, hr⟩ := List.isPrefixOf_iff_prefix.mp h
    have := congrArg List.length hr
    simp only [List.length_append] at this
    exact hd (List.length_eq_zero_iff.mp (by omega))

inductive RS (t : Table) : Cells → Prop
  | base {a b : Entry} {d : Cells} (ha : a ∈ t) (hb : b ∈ t) (hab : a ≠ b) (e : rest a.cells b.cells = some d) : RS t d
  | step {c : Entry} {d r : Cells} (h : RS t d) (hc : c ∈ t) (e : rest c.cells d = some r) : RS t r

theorem mem_news {old : List Cells} {x : Cells} : ∀ {l : List Cells}, x ∈ news old l ↔ x ∈ l ∧ x ∉ old
  | [] => by simp [news]
  | y :: l => by
    have ih := mem_news (old := old) (x := x) (l := l)
    unfold news
    dsimp only
    split
    · rename_i h
      rw [ih, List.mem_cons]
      constructor
      · exact fun z => ⟨.inr z.1, z.2⟩
      · rintro ⟨rfl | z, w⟩
        · rw [Bool.or_eq_true, List.contains_iff_mem, List.contains_iff_mem] at h
          rcases h with h | h
          · exact absurd h w
          · exact ih.mp h
        · exact ⟨z, w⟩
    · rename_i h
      rw [Bool.or_eq_true, List.contains_iff_mem, List.contains_iff_mem, not_or] at h
      rw [List.mem_cons, ih, List.mem_cons]
      constructor
      · rintro (rfl | z)
        · exact ⟨.inl rfl, h.1⟩
        · exact ⟨.inr z.1, z.2⟩
      · rintro ⟨rfl | z, w⟩
        · exact .inl rfl
        · exact .inr ⟨z, w⟩
theorem nodup_news {old : List Cells} : ∀ {l : List Cells}, (news old l).Nodup
  | [] => List.nodup_nil
  | y :: l => by
    have ih := nodup_news (old := old) (l := l)
    unfold news
    dsimp only
    split
    · exact ih
    · rename_i h
      rw [Bool.or_eq_true, List.contains_iff_mem, List.contains_iff_mem, not_or] at h
      exact List.nodup_cons.mpr ⟨h.2, ih⟩

def kids (t : Table) (l : List Cells) : List Cells := l.flatMap fun d => t.filterMap fun e => rest e.cells d
theorem mem_kids {t : Table} {l : List Cells} {x : Cells} : x ∈ kids t l ↔ ∃ d ∈ l, ∃ e ∈ t, rest e.cells d = some x := by
  unfold kids
  rw [List.mem_flatMap]
  constructor
  · rintro ⟨d, hd, h⟩
    obtain ⟨e, he, q⟩ := List.mem_filterMap.mp h
    exact ⟨d, hd, e, he, q⟩
  · rintro ⟨d, hd, e, he, q⟩
    exact ⟨d, hd, List.mem_filterMap.mpr ⟨e, he, q⟩⟩

/-- the ends of the entries' cells -/
def ends (t : Table) : List Cells := [] :: t.flatMap fun e => (List.range e.cells.length).map fun i => e.cells.drop i
theorem mem_ends {t : Table} {d : Cells} {e : Entry} (he : e ∈ t) (h : d <:+ e.cells) : d ∈ ends t := by
  obtain ⟨p, hp⟩ := h
  by_cases hd : d = []
  · subst hd
    exact List.mem_cons_self ..
  · refine List.mem_cons_of_mem _ (List.mem_flatMap.mpr ⟨e, he, List.mem_map.mpr ⟨p.length, List.mem_range.mpr ?_, ?_⟩⟩)
    · rw [← hp, List.length_append]
      have : 0 < d.length := List.length_pos_iff.mpr hd
      omega
    · rw [← hp, List.drop_left]
theorem ends_length {t : Table} (h : ∀ e ∈ t, e.cells.length ≤ 6) : (ends t).length ≤ 6 * t.length + 1 := by
  unfold ends
  rw [List.length_cons]
  have : ∀ t : Table, (∀ e ∈ t, e.cells.length ≤ 6) → (t.flatMap fun e => (List.range e.cells.length).map fun i => e.cells.drop i).length ≤ 6 * t.length := by
    intro t
    induction t with
    | nil => intro _; exact Nat.le_refl _
    | cons e t ih =>
      intro h
      have h1 := ih fun x hx => h x (List.mem_cons_of_mem _ hx)
      have h2 := h e (List.mem_cons_self ..)
      rw [List.flatMap_cons, List.length_append, List.length_map, List.length_range, List.length_cons]
      omega
  have := this t h
  omega
theorem rest_suffix {a b d : Cells} (h : rest a b = some d) : d <:+ a ∨ d <:+ b := by
  rcases rest_iff h with rfl | rfl
  · exact .inr ⟨a, rfl⟩
  · exact .inl ⟨b, rfl⟩
theorem RS.suffix {t : Table} {d : Cells} (h : RS t d) : ∃ e ∈ t, d <:+ e.cells := by
  induction h with
  | base ha hb _ e =>
    rcases rest_suffix e with h | h
    · exact ⟨_, ha, h⟩
    · exact ⟨_, hb, h⟩
  | step _ hc e ih =>
    rcases rest_suffix e with h | h
    · exact ⟨_, hc, h⟩
    · obtain ⟨x, hx, z⟩ := ih
      exact ⟨x, hx, h.trans z⟩

/-- the rounds come to an end: behind them all rests are there -/
theorem remainders_all {t : Table} (h6 : ∀ e ∈ t, e.cells.length ≤ 6) : ∀ (n : Nat) (old last : List Cells), old.Nodup → (∀ d ∈ old, RS t d) → (∀ d ∈ last, d ∈ old) →
    (∀ d ∈ old, d ∉ last → ∀ e ∈ t, ∀ r, rest e.cells d = some r → r ∈ old) → (last = [] ∨ 6 * t.length + 2 ≤ n + old.length) →
    (∀ d ∈ remainders t n old last, RS t d) ∧ (∀ d ∈ old, d ∈ remainders t n old last) ∧
      ∀ d ∈ remainders t n old last, ∀ e ∈ t, ∀ r, rest e.cells d = some r → r ∈ remainders t n old last := by
  intro n
  induction n with
  | zero =>
    intro old last hn hr hl hk hf
    have hlast : last = [] := by
      rcases hf with h | h
      · exact h
      · exfalso
        have h1 : old.length ≤ (ends t).length := nodup_le hn fun d hd => by
          obtain ⟨e, he, z⟩ := (hr d hd).suffix
          exact mem_ends he z
        have h2 := ends_length h6
        omega
    subst hlast
    show (∀ d ∈ old, RS t d) ∧ (∀ d ∈ old, d ∈ old) ∧ _
    exact ⟨hr, fun _ z => z, fun d hd e he r q => hk d hd (by simp) e he r q⟩
  | succ n ih =>
    intro old last hn hr hl hk hf
    unfold remainders
    by_cases he : last = []
    · subst he
      rw [if_pos (by rfl)]
      exact ⟨hr, fun _ z => z, fun d hd e he r q => hk d hd (by simp) e he r q⟩
    · rw [if_neg (by simpa using he)]
      dsimp only
      have hkids : (last.flatMap fun d => t.filterMap fun e => rest e.cells d) = kids t last := rfl
      rw [hkids]
      have hmem : ∀ x, x ∈ news old (kids t last) ↔ x ∈ kids t last ∧ x ∉ old := fun x => mem_news
      have key := ih (old ++ news old (kids t last)) (news old (kids t last)) ?_ ?_ ?_ ?_ ?_
      · refine ⟨key.1, fun d hd => key.2.1 d (List.mem_append_left _ hd), key.2.2⟩
      · refine List.nodup_append.mpr ⟨hn, nodup_news, fun a ha b hb e => ?_⟩
        subst e
        exact ((hmem _).mp hb).2 ha
      · intro d hd
        rcases List.mem_append.mp hd with hd | hd
        · exact hr d hd
        · obtain ⟨x, hx, e, he', q⟩ := mem_kids.mp ((hmem _).mp hd).1
          exact .step (hr x (hl x hx)) he' q
      · exact fun d hd => List.mem_append_right _ hd
      · intro d hd hnot e he' r q
        rcases List.mem_append.mp hd with hd | hd
        · by_cases hdl : d ∈ last
          · by_cases hro : r ∈ old
            · exact List.mem_append_left _ hro
            · exact List.mem_append_right _ ((hmem _).mpr ⟨mem_kids.mpr ⟨d, hdl, e, he', q⟩, hro⟩)
          · exact List.mem_append_left _ (hk d hd hdl e he' r q)
        · exact absurd hd hnot
      · by_cases hz : news old (kids t last) = []
        · exact .inl hz
        · right
          have : 0 < (news old (kids t last)).length := List.length_pos_iff.mpr hz
          rw [List.length_append]
          rcases hf with h | h
          · exact absurd h he
          · omega

theorem mem_firstRests {t : Table} {d : Cells} : d ∈ firstRests t ↔ ∃ a ∈ t, ∃ b ∈ t, a ≠ b ∧ rest a.cells b.cells = some d := by
  unfold firstRests
  rw [mem_news, List.mem_flatMap]
  constructor
  · rintro ⟨⟨a, ha, h⟩, _⟩
    obtain ⟨b, hb, q⟩ := List.mem_filterMap.mp h
    split at q
    · cases q
    · rename_i hne
      exact ⟨a, ha, b, hb, hne, q⟩
  · rintro ⟨a, ha, b, hb, hne, q⟩
    exact ⟨⟨a, ha, List.mem_filterMap.mpr ⟨b, hb, by rw [if_neg hne]; exact q⟩⟩, by simp⟩

theorem sure_iff_RS {t : Table} (h6 : ∀ e ∈ t, e.cells.length ≤ 6) : t.sure = true ↔ ¬ RS t [] := by
  have hf : ∀ d ∈ firstRests t, RS t d := fun d hd => by
    obtain ⟨a, ha, b, hb, hne, q⟩ := mem_firstRests.mp hd
    exact .base ha hb hne q
  have key := remainders_all h6 (6 * t.length + 1) (firstRests t) (firstRests t) nodup_news hf (fun _ z => z) (fun d hd hnd => absurd hd hnd) (by
    by_cases hz : firstRests t = []
    · exact .inl hz
    · right
      have : 0 < (firstRests t).length := List.length_pos_iff.mpr hz
      omega)
  have all : ∀ d, RS t d → d ∈ remainders t (6 * t.length + 1) (firstRests t) (firstRests t) := by
    intro d h
    induction h with
    | base ha hb hne e => exact key.2.1 _ (mem_firstRests.mpr ⟨_, ha, _, hb, hne, e⟩)
    | step _ hc e ih => exact key.2.2 _ ih _ hc _ e
  unfold Table.sure
  rw [Bool.not_eq_true', Bool.eq_false_iff, ne_eq, List.contains_iff_mem]
  exact not_congr ⟨fun h => key.1 _ h, fun h => all _ h⟩

/-! ### the specification's word by codes -/
theorem cells_inj {t : Table} (h : (t.map Entry.cells).Nodup) {a b : Entry} (ha : a ∈ t) (hb : b ∈ t) (e : a.cells = b.cells) : a = b := by
  induction t with
  | nil => cases ha
  | cons x t ih =>
    rw [List.map_cons, List.nodup_cons] at h
    have no : ∀ y ∈ t, x.cells ≠ y.cells := fun y hy e => h.1 (List.mem_map.mpr ⟨y, hy, e.symm⟩)
    rcases List.mem_cons.mp ha with h1 | h1
    · rcases List.mem_cons.mp hb with h2 | h2
      · rw [h1, h2]
      · exact absurd (h1 ▸ e) (no b h2)
    · rcases List.mem_cons.mp hb with h2 | h2
      · exact absurd (h2 ▸ e).symm (no a h1)
      · exact ih h.2 h1 h2

theorem sure_codes {t : Table} (h6 : ∀ e ∈ t, e.cells.length ≤ 6) (hd : t.Nodup) : t.sure = true ↔ (t.map Entry.cells).Nodup ∧ ¬ Reach (t.map Entry.cells) [] := by
  rw [sure_iff_RS h6]
  constructor
  · intro h
    have hn : (t.map Entry.cells).Nodup := by
      apply Classical.byContradiction
      intro hn
      apply h
      have : ∃ a ∈ t, ∃ b ∈ t, a ≠ b ∧ a.cells = b.cells := by
        clear h h6
        induction t with
        | nil => exact absurd List.nodup_nil hn
        | cons x t ih =>
          rw [List.nodup_cons] at hd
          by_cases hx : x.cells ∈ t.map Entry.cells
          · obtain ⟨b, hb, e⟩ := List.mem_map.mp hx
            exact ⟨x, List.mem_cons_self .., b, List.mem_cons_of_mem _ hb, fun z => hd.1 (z ▸ hb), e.symm⟩
          · obtain ⟨a, ha, b, hb, q⟩ := ih hd.2 fun z => hn (by rw [List.map_cons]; exact List.nodup_cons.mpr ⟨hx, z⟩)
            exact ⟨a, List.mem_cons_of_mem _ ha, b, List.mem_cons_of_mem _ hb, q⟩
      obtain ⟨a, ha, b, hb, hne, e⟩ := this
      refine .base ha hb hne ?_
      rw [← e]
      have := rest_of (a := a.cells) (d := [])
      rwa [List.append_nil] at this
    refine ⟨hn, fun hr => h ?_⟩
    have : ∀ d, Reach (t.map Entry.cells) d → RS t d := by
      intro d hr
      induction hr with
      | base ha hb e hne =>
        obtain ⟨x, hx, rfl⟩ := List.mem_map.mp ha
        obtain ⟨y, hy, ey⟩ := List.mem_map.mp hb
        refine .base hx hy ?_ (by rw [ey, ← e]; exact rest_of)
        rintro rfl
        rw [ey] at e
        have := congrArg List.length e
        rw [List.length_append] at this
        exact hne (List.length_eq_zero_iff.mp (by omega))
      | left _ hc e ih =>
        obtain ⟨x, hx, rfl⟩ := List.mem_map.mp hc
        exact .step ih hx (by rw [← e]; exact rest_of')
      | right _ hc e ih =>
        obtain ⟨x, hx, rfl⟩ := List.mem_map.mp hc
        exact .step ih hx (by rw [← e]; exact rest_of)
    exact this _ hr
  · rintro ⟨hn, h0⟩ h
    have : ∀ d, RS t d → Reach (t.map Entry.cells) d := by
      intro d h
      induction h with
      | @base a b d ha hb hne e =>
        have hd0 : d ≠ [] := by
          rintro rfl
          rcases rest_iff e with z | z
          · rw [List.append_nil] at z
            exact hne (cells_inj hn ha hb z)
          · rw [List.append_nil] at z
            exact hne (cells_inj hn ha hb z.symm)
        rcases rest_iff e with z | z
        · exact .base (List.mem_map.mpr ⟨a, ha, rfl⟩) (List.mem_map.mpr ⟨b, hb, rfl⟩) z hd0
        · exact .base (List.mem_map.mpr ⟨b, hb, rfl⟩) (List.mem_map.mpr ⟨a, ha, rfl⟩) z hd0
      | @step c d r _ hc e ih =>
        rcases rest_iff e with z | z
        · exact .right ih (List.mem_map.mpr ⟨c, hc, rfl⟩) z
        · exact .left ih (List.mem_map.mpr ⟨c, hc, rfl⟩) z
    exact h0 (this _ h)
end Fc

/-! Fc, part 2: rows of entries. The program's fewest row against the specification's ways and readings. -/
set_option Elab.async false
namespace Fc
open Km344

/-! ### the program's table of counts and steps, end by end, the whole first -/
section
variable (K : List Nat → Option (List Nat)) (L : Nat)
def turn (w : List Nat) (t : List (Option Nat × Nat)) (s : Option Nat × Nat) (i : Nat) : Option Nat × Nat :=
  match K (w.take (i + 1)), (t.getD i (none, 0)).1 with
  | some v, some b => match s.1 with
    | none => (some (v.length + b), i + 1)
    | some c => if v.length + b ≤ c then (some (v.length + b), i + 1) else s
  | _, _ => s
def inner (w : List Nat) (t : List (Option Nat × Nat)) : Option Nat × Nat := (List.range (min L w.length)).foldl (turn K w t) (none, 0)
def fw : List Nat → List (Option Nat × Nat)
  | [] => [(some 0, 0)]
  | x :: r => let t := fw r
    inner K L (x :: r) t :: t
def fh (w : List Nat) : Option Nat × Nat := (fw K L w).headD (none, 0)
end
section
variable {K : List Nat → Option (List Nat)} {L : Nat}
theorem fw_length : ∀ (w : List Nat), (fw K L w).length = w.length + 1
  | [] => rfl
  | x :: r => by
    show (fw K L r).length + 1 = _
    rw [fw_length r]
    rfl
theorem fw_get : ∀ (w : List Nat) (i : Nat), i ≤ w.length → (fw K L w)[i]? = some (fh K L (w.drop i))
  | [], 0, _ => rfl
  | [], i + 1, h => by simp at h
  | x :: r, 0, _ => rfl
  | x :: r, i + 1, h => by
    show (fw K L r)[i]? = some (fh K L (r.drop i))
    exact fw_get r i (by simpa using h)
theorem fw_getD {w : List Nat} {i : Nat} (h : i ≤ w.length) : (fw K L w).getD i (none, 0) = fh K L (w.drop i) := by
  rw [List.getD_eq_getElem?_getD, fw_get w i h]
  rfl
theorem fh_nil : fh K L [] = (some 0, 0) := rfl
theorem fh_cons (x : Nat) (r : List Nat) : fh K L (x :: r) = inner K L (x :: r) (fw K L r) := rfl

/-- a first step of i + 1 signs that leads to the end, its cost -/
def Cand (K : List Nat → Option (List Nat)) (L : Nat) (w : List Nat) (s c : Nat) : Prop :=
  1 ≤ s ∧ s ≤ L ∧ s ≤ w.length ∧ ∃ v b, K (w.take s) = some v ∧ (fh K L (w.drop s)).1 = some b ∧ c = v.length + b

theorem turn_fold {w : List Nat} {x : Nat} {r : List Nat} (hw : w = x :: r) : ∀ n, n ≤ min L w.length →
    ((List.range n).foldl (turn K w (fw K L r)) (none, 0) = (none, 0) ∧ ∀ s c, s ≤ n → ¬ Cand K L w s c) ∨
    ∃ c s, (List.range n).foldl (turn K w (fw K L r)) (none, 0) = (some c, s) ∧ s ≤ n ∧ Cand K L w s c ∧ ∀ s' c', s' ≤ n → Cand K L w s' c' → c < c' ∨ c = c' ∧ s' ≤ s := by
  intro n
  induction n with
  | zero =>
    intro _
    exact .inl ⟨rfl, fun s c hs hc => by have := hc.1; omega⟩
  | succ n ih =>
    intro hn
    rw [List.range_succ, List.foldl_append]
    have hdrop : w.drop (n + 1) = r.drop n := by rw [hw]; rfl
    have hlen : n ≤ r.length := by
      have : w.length = r.length + 1 := by rw [hw]; rfl
      omega
    have hg : ((fw K L r).getD n (none, 0)).1 = (fh K L (w.drop (n + 1))).1 := by rw [fw_getD hlen, hdrop]
    show (turn K w (fw K L r) ((List.range n).foldl (turn K w (fw K L r)) (none, 0)) n = (none, 0) ∧ _) ∨ ∃ c s, turn K w (fw K L r) ((List.range n).foldl (turn K w (fw K L r)) (none, 0)) n = (some c, s) ∧ _
    cases hK : K (w.take (n + 1)) with
    | none =>
      have e : ∀ st, turn K w (fw K L r) st n = st := fun st => by unfold turn; rw [hK]
      rw [e]
      have no : ∀ c, ¬ Cand K L w (n + 1) c := by
        rintro c ⟨_, _, _, v, b, h1, _⟩
        rw [hK] at h1
        cases h1
      rcases ih (by omega) with ⟨h1, h2⟩ | ⟨c, s, h1, h2, h3, h4⟩
      · refine .inl ⟨h1, fun s c hs hc => ?_⟩
        by_cases hsn : s = n + 1
        · subst hsn; exact no c hc
        · exact h2 s c (by omega) hc
      · refine .inr ⟨c, s, h1, by omega, h3, fun s' c' hs hc => ?_⟩
        by_cases hsn : s' = n + 1
        · subst hsn; exact (no c' hc).elim
        · exact h4 s' c' (by omega) hc
    | some v =>
      cases hb : (fh K L (w.drop (n + 1))).1 with
      | none =>
        have e : ∀ st, turn K w (fw K L r) st n = st := fun st => by unfold turn; rw [hK, hg, hb]
        rw [e]
        have no : ∀ c, ¬ Cand K L w (n + 1) c := by
          rintro c ⟨_, _, _, v, b, _, h1, _⟩
          rw [hb] at h1
          cases h1
        rcases ih (by omega) with ⟨h1, h2⟩ | ⟨c, s, h1, h2, h3, h4⟩
        · refine .inl ⟨h1, fun s c hs hc => ?_⟩
          by_cases hsn : s = n + 1
          · subst hsn; exact no c hc
          · exact h2 s c (by omega) hc
        · refine .inr ⟨c, s, h1, by omega, h3, fun s' c' hs hc => ?_⟩
          by_cases hsn : s' = n + 1
          · subst hsn; exact (no c' hc).elim
          · exact h4 s' c' (by omega) hc
      | some b =>
        have me : Cand K L w (n + 1) (v.length + b) := ⟨by omega, by omega, by omega, v, b, hK, hb, rfl⟩
        have uniq : ∀ c, Cand K L w (n + 1) c → c = v.length + b := by
          rintro c ⟨_, _, _, v', b', h1, h2, h3⟩
          rw [hK] at h1
          rw [hb] at h2
          cases h1
          cases h2
          exact h3
        right
        rcases ih (by omega) with ⟨h1, h2⟩ | ⟨c, s, h1, h2, h3, h4⟩
        · refine ⟨v.length + b, n + 1, ?_, Nat.le_refl _, me, fun s' c' hs hc => ?_⟩
          · rw [h1]
            unfold turn
            rw [hK, hg, hb]
          · by_cases hsn : s' = n + 1
            · subst hsn; exact .inr ⟨(uniq _ hc).symm, Nat.le_refl _⟩
            · exact absurd hc (h2 s' c' (by omega))
        · rw [h1]
          by_cases hle : v.length + b ≤ c
          · refine ⟨v.length + b, n + 1, ?_, Nat.le_refl _, me, fun s' c' hs hc => ?_⟩
            · unfold turn
              rw [hK, hg, hb]
              exact if_pos hle
            · by_cases hsn : s' = n + 1
              · subst hsn; exact .inr ⟨(uniq _ hc).symm, Nat.le_refl _⟩
              · rcases h4 s' c' (by omega) hc with h | ⟨h, h'⟩
                · left; omega
                · by_cases heq : v.length + b = c
                  · right; omega
                  · left; omega
          · refine ⟨c, s, ?_, by omega, h3, fun s' c' hs hc => ?_⟩
            · unfold turn
              rw [hK, hg, hb]
              exact if_neg hle
            · by_cases hsn : s' = n + 1
              · subst hsn
                have := uniq _ hc
                left; omega
              · exact h4 s' c' (by omega) hc

/-- what stands at a beginning that is no end: the cheapest first step, of several the longest; or none leads on -/
theorem fh_spec {w : List Nat} (hw : w ≠ []) : (fh K L w = (none, 0) ∧ ∀ s c, ¬ Cand K L w s c) ∨
    ∃ c s, fh K L w = (some c, s) ∧ Cand K L w s c ∧ ∀ s' c', Cand K L w s' c' → c < c' ∨ c = c' ∧ s' ≤ s := by
  cases w with
  | nil => exact absurd rfl hw
  | cons x r =>
    rw [fh_cons]
    have hb : ∀ s c, Cand K L (x :: r) s c → s ≤ min L (x :: r).length := fun s c h => Nat.le_min.mpr ⟨h.2.1, h.2.2.1⟩
    rcases turn_fold (K := K) (L := L) (w := x :: r) rfl (min L (x :: r).length) (Nat.le_refl _) with ⟨h1, h2⟩ | ⟨c, s, h1, _, h3, h4⟩
    · exact .inl ⟨h1, fun s c hc => h2 s c (hb s c hc) hc⟩
    · exact .inr ⟨c, s, h1, h3, fun s' c' hc => h4 s' c' (hb s' c' hc) hc⟩

/-- the row by the steps -/
def rowBy (K : List Nat → Option (List Nat)) (L : Nat) : Nat → List Nat → List (List Nat)
  | 0, _ => []
  | n + 1, w => if w = [] then [] else let s := (fh K L w).2
    w.take s :: rowBy K L n (w.drop s)
def row (K : List Nat → Option (List Nat)) (L : Nat) (w : List Nat) : List (List Nat) := rowBy K L w.length w
theorem fh_step {w : List Nat} (hw : w ≠ []) (h : (fh K L w).1 ≠ none) : ∃ c, Cand K L w (fh K L w).2 c ∧ (fh K L w).1 = some c := by
  rcases fh_spec (K := K) (L := L) hw with ⟨h1, _⟩ | ⟨c, s, h1, h2, _⟩
  · rw [h1] at h
    exact absurd rfl h
  · rw [h1]
    exact ⟨c, h2, rfl⟩
theorem rowBy_more : ∀ (n m : Nat) (w : List Nat), w.length ≤ n → w.length ≤ m → (fh K L w).1 ≠ none → rowBy K L n w = rowBy K L m w
  | 0, m, w, hn, _, _ => by
    have : w = [] := List.length_eq_zero_iff.mp (by omega)
    subst this
    cases m <;> simp [rowBy]
  | n + 1, 0, w, _, hm, _ => by
    have : w = [] := List.length_eq_zero_iff.mp (by omega)
    subst this
    simp [rowBy]
  | n + 1, m + 1, w, hn, hm, h => by
    unfold rowBy
    by_cases hw : w = []
    · rw [if_pos hw, if_pos hw]
    · rw [if_neg hw, if_neg hw]
      dsimp only
      obtain ⟨c, ⟨h1, h2, h3, v, b, h4, h5, h6⟩, _⟩ := fh_step hw h
      rw [rowBy_more n m (w.drop (fh K L w).2) (by rw [List.length_drop]; omega) (by rw [List.length_drop]; omega) (by rw [h5]; exact fun z => by cases z)]
theorem row_nil : row K L [] = [] := rfl
theorem row_cons {w : List Nat} (hw : w ≠ []) (h : (fh K L w).1 ≠ none) : row K L w = w.take (fh K L w).2 :: row K L (w.drop (fh K L w).2) := by
  obtain ⟨c, ⟨h1, h2, h3, v, b, h4, h5, h6⟩, _⟩ := fh_step hw h
  have hl : 0 < w.length := List.length_pos_iff.mpr hw
  unfold row
  rw [rowBy_more w.length ((w.length - 1) + 1) w (Nat.le_refl _) (by omega) h]
  show (if w = [] then [] else w.take (fh K L w).2 :: rowBy K L (w.length - 1) (w.drop (fh K L w).2)) = _
  rw [if_neg hw, rowBy_more (w.length - 1) (w.drop (fh K L w).2).length _ (by rw [List.length_drop]; omega) (Nat.le_refl _) (by rw [h5]; exact fun z => by cases z)]

/-- a row of known pieces -/
def IsRow (K : List Nat → Option (List Nat)) (L : Nat) (p : List (List Nat)) : Prop := ∀ x ∈ p, (∃ v, K x = some v) ∧ 1 ≤ x.length ∧ x.length ≤ L
theorem row_is : ∀ (n : Nat) (w : List Nat), w.length ≤ n → (fh K L w).1 ≠ none → IsRow K L (row K L w) ∧ (row K L w).flatten = w := by
  intro n
  induction n with
  | zero =>
    intro w hn h
    have : w = [] := List.length_eq_zero_iff.mp (by omega)
    subst this
    exact ⟨(fun x hx => by cases hx), rfl⟩
  | succ n ih =>
    intro w hn h
    by_cases hw : w = []
    · subst hw
      exact ⟨(fun x hx => by cases hx), rfl⟩
    · obtain ⟨c, ⟨h1, h2, h3, v, b, h4, h5, h6⟩, _⟩ := fh_step hw h
      have := ih (w.drop (fh K L w).2) (by rw [List.length_drop]; omega) (by rw [h5]; exact fun z => by cases z)
      rw [row_cons hw h]
      refine ⟨fun x hx => ?_, ?_⟩
      · rcases List.mem_cons.mp hx with rfl | hx
        · refine ⟨⟨v, h4⟩, ?_, ?_⟩ <;> rw [List.length_take] <;> omega
        · exact this.1 x hx
      · rw [List.flatten_cons, this.2, List.take_append_drop]
theorem some_of_row : ∀ (p : List (List Nat)), IsRow K L p → (fh K L p.flatten).1 ≠ none
  | [], _ => by
    show (fh K L []).1 ≠ none
    rw [fh_nil]
    exact fun z => by cases z
  | x :: p, h => by
    obtain ⟨⟨v, hv⟩, h1, h2⟩ := h x (List.mem_cons_self ..)
    have ih := some_of_row p fun y hy => h y (List.mem_cons_of_mem _ hy)
    rw [List.flatten_cons]
    have hne : x ++ p.flatten ≠ [] := fun z => by
      have := congrArg List.length z
      simp only [List.length_append, List.length_nil] at this
      omega
    obtain ⟨b, hb⟩ : ∃ b, (fh K L p.flatten).1 = some b := by
      cases q : (fh K L p.flatten).1 with
      | none => exact absurd q ih
      | some b => exact ⟨b, rfl⟩
    have me : Cand K L (x ++ p.flatten) x.length (v.length + b) := ⟨h1, h2, by rw [List.length_append]; omega, v, b, by rw [List.take_left]; exact hv, by rw [List.drop_left]; exact hb, rfl⟩
    rcases fh_spec (K := K) (L := L) hne with ⟨_, h⟩ | ⟨c, s, h, _⟩
    · exact absurd me (h _ _)
    · rw [h]
      exact fun z => by cases z
end

/-! ### the specification's ways -/
def cellsAt (t : Table) (w : List Nat) : Option (List Nat) := (t.find? fun e => decide (e.text = w)).map Entry.cells
def textAt (t : Table) (w : List Nat) : Option (List Nat) := (t.find? fun e => decide (e.cells = w)).map Entry.text
theorem text_inj {t : Table} (h : (t.map Entry.text).Nodup) {a b : Entry} (ha : a ∈ t) (hb : b ∈ t) (e : a.text = b.text) : a = b := by
  induction t with
  | nil => cases ha
  | cons x t ih =>
    rw [List.map_cons, List.nodup_cons] at h
    have no : ∀ y ∈ t, x.text ≠ y.text := fun y hy e => h.1 (List.mem_map.mpr ⟨y, hy, e.symm⟩)
    rcases List.mem_cons.mp ha with h1 | h1
    · rcases List.mem_cons.mp hb with h2 | h2
      · rw [h1, h2]
      · exact absurd (h1 ▸ e) (no b h2)
    · rcases List.mem_cons.mp hb with h2 | h2
      · exact absurd (h2 ▸ e).symm (no a h1)
      · exact ih h.2 h1 h2
theorem cellsAt_some {t : Table} (h : (t.map Entry.text).Nodup) {w v : List Nat} : cellsAt t w = some v ↔ ∃ e ∈ t, e.text = w ∧ e.cells = v := by
  unfold cellsAt
  constructor
  · intro q
    cases f : t.find? fun e => decide (e.text = w) with
    | none => rw [f] at q; cases q
    | some e =>
      rw [f] at q
      exact ⟨e, List.mem_of_find?_eq_some f, by simpa using List.find?_some f, Option.some.inj q⟩
  · rintro ⟨e, he, rfl, rfl⟩
    cases f : t.find? fun x => decide (x.text = e.text) with
    | none => exact (by simpa using List.find?_eq_none.mp f e he : False).elim
    | some x =>
      have := text_inj h (List.mem_of_find?_eq_some f) he (by simpa using List.find?_some f)
      rw [this]
      rfl
theorem textAt_some {t : Table} (h : (t.map Entry.cells).Nodup) {w v : List Nat} : textAt t w = some v ↔ ∃ e ∈ t, e.cells = w ∧ e.text = v := by
  unfold textAt
  constructor
  · intro q
    cases f : t.find? fun e => decide (e.cells = w) with
    | none => rw [f] at q; cases q
    | some e =>
      rw [f] at q
      exact ⟨e, List.mem_of_find?_eq_some f, by simpa using List.find?_some f, Option.some.inj q⟩
  · rintro ⟨e, he, rfl, rfl⟩
    cases f : t.find? fun x => decide (x.cells = e.cells) with
    | none => exact (by simpa using List.find?_eq_none.mp f e he : False).elim
    | some x =>
      have := cells_inj h (List.mem_of_find?_eq_some f) he (by simpa using List.find?_some f)
      rw [this]
      rfl

/-- a way's first text's length -/
def hd (a : Way) : Nat := (a.2.head?.map fun e => e.text.length).getD 0
theorem better_iff {a b : Way} : better a b = true ↔ a.1 < b.1 ∨ a.1 = b.1 ∧ hd b < hd a := by
  unfold better hd
  simp only [Bool.or_eq_true, Bool.and_eq_true, decide_eq_true_eq]
theorem best_mem : ∀ {l : List Way}, l ≠ [] → best l ∈ l
  | [], h => absurd rfl h
  | [a], _ => List.mem_cons_self ..
  | a :: b :: l, _ => by
    have ih := best_mem (l := b :: l) (by simp)
    show (if better (best (b :: l)) a = true then best (b :: l) else a) ∈ _
    split
    · exact List.mem_cons_of_mem _ ih
    · exact List.mem_cons_self ..
theorem best_le : ∀ {l : List Way} {x : Way}, x ∈ l → (best l).1 < x.1 ∨ (best l).1 = x.1 ∧ hd x ≤ hd (best l)
  | [a], x, h => by
    rcases List.mem_cons.mp h with rfl | h
    · exact .inr ⟨rfl, Nat.le_refl _⟩
    · cases h
  | a :: b :: l, x, h => by
    have ih := fun h => best_le (l := b :: l) (x := x) h
    show (if better (best (b :: l)) a = true then best (b :: l) else a).1 < _ ∨ (if better (best (b :: l)) a = true then best (b :: l) else a).1 = _ ∧ hd x ≤ hd (if better (best (b :: l)) a = true then best (b :: l) else a)
    by_cases hb : better (best (b :: l)) a = true
    · rw [if_pos hb]
      rcases List.mem_cons.mp h with rfl | h
      · rcases better_iff.mp hb with z | z
        · exact .inl z
        · exact .inr ⟨z.1, Nat.le_of_lt z.2⟩
      · exact ih h
    · rw [if_neg hb]
      have hb := fun z => hb (better_iff.mpr z)
      rcases List.mem_cons.mp h with rfl | h
      · exact .inr ⟨rfl, Nat.le_refl _⟩
      · have h1 := ih h
        have h2 : ¬ (best (b :: l)).1 < a.1 := fun z => hb (.inl z)
        have h3 : (best (b :: l)).1 = a.1 → ¬ hd a < hd (best (b :: l)) := fun z w => hb (.inr ⟨z, w⟩)
        omega
def wh (t : Table) (w : List Nat) : Way := (ways t w).headD (0, [])
theorem ways_get {t : Table} : ∀ (w : List Nat) (i : Nat), i ≤ w.length → (ways t w)[i]? = some (wh t (w.drop i))
  | [], 0, _ => rfl
  | [], i + 1, h => by simp at h
  | x :: r, 0, _ => rfl
  | x :: r, i + 1, h => by
    show (ways t r)[i]? = some (wh t (r.drop i))
    exact ways_get r i (by simpa using h)
theorem ways_getD {t : Table} {w : List Nat} {i : Nat} (h : i ≤ w.length) : (ways t w).getD i (0, []) = wh t (w.drop i) := by
  rw [List.getD_eq_getElem?_getD, ways_get w i h]
  rfl
def wcand (t : Table) (c : Nat) (r : List Nat) : List Way := (t.filter fun e => e.text.isPrefixOf (c :: r)).map fun e =>
  (e.cells.length + ((ways t r).getD (e.text.length - 1) (0, [])).1, e :: ((ways t r).getD (e.text.length - 1) (0, [])).2)
theorem wh_cons {t : Table} (c : Nat) (r : List Nat) : wh t (c :: r) = best (wcand t c r) := rfl

/-- a table as the program takes it -/
structure Tab (t : Table) : Prop where
  good : ∀ e ∈ t, e.good = true
  texts : (t.map Entry.text).Nodup
  letters : ∀ x, 33 ≤ x → x ≤ 126 → ∃ e ∈ t, e.text = [x]
theorem good_iff {e : Entry} : e.good = true ↔ 1 ≤ e.text.length ∧ e.text.length ≤ 12 ∧ 1 ≤ e.cells.length ∧ e.cells.length ≤ 6 ∧ (∀ x ∈ e.text, isLetter x = true) ∧ ∀ c ∈ e.cells, 1 ≤ c ∧ c ≤ 63 := by
  unfold Entry.good
  simp only [Bool.and_eq_true, decide_eq_true_eq, List.all_eq_true]
theorem Tab.nodup {t : Table} (h : Tab t) : t.Nodup := by
  have := h.texts
  rw [List.Nodup, List.pairwise_map] at this
  exact this.imp fun h e => h (congrArg _ e)

/-- the program's row is the specification's: for words of letters -/
theorem ways_fw {t : Table} (T : Tab t) : ∀ (n : Nat) (w : List Nat), w.length ≤ n → (∀ x ∈ w, isLetter x = true) →
    (fh (cellsAt t) 12 w).1 = some (wh t w).1 ∧ row (cellsAt t) 12 w = (wh t w).2.map Entry.text ∧ (∀ e ∈ (wh t w).2, e ∈ t) ∧ ((wh t w).2.flatMap Entry.text) = w ∧ (w ≠ [] → hd (wh t w) = (fh (cellsAt t) 12 w).2) := by
  intro n
  induction n with
  | zero =>
    intro w hn _
    have : w = [] := List.length_eq_zero_iff.mp (by omega)
    subst this
    exact ⟨rfl, rfl, (fun e he => by cases he), rfl, fun z => absurd rfl z⟩
  | succ n ih =>
    intro w hn hl
    cases w with
    | nil => exact ⟨rfl, rfl, (fun e he => by cases he), rfl, fun z => absurd rfl z⟩
    | cons c r =>
      have hne : c :: r ≠ [] := by simp
      -- the candidates of both sides
      have tail : ∀ s, 1 ≤ s → s ≤ (c :: r).length → (fh (cellsAt t) 12 ((c :: r).drop s)).1 = some (wh t ((c :: r).drop s)).1 ∧ row (cellsAt t) 12 ((c :: r).drop s) = (wh t ((c :: r).drop s)).2.map Entry.text ∧
          (∀ e ∈ (wh t ((c :: r).drop s)).2, e ∈ t) ∧ ((wh t ((c :: r).drop s)).2.flatMap Entry.text) = (c :: r).drop s := fun s h1 h2 => by
        have := ih ((c :: r).drop s) (by rw [List.length_drop]; omega) fun x hx => hl x (List.mem_of_mem_drop hx)
        exact ⟨this.1, this.2.1, this.2.2.1, this.2.2.2.1⟩
      have wc : ∀ a, a ∈ wcand t c r → ∃ e ∈ t, e.text.isPrefixOf (c :: r) = true ∧ a = (e.cells.length + (wh t ((c :: r).drop e.text.length)).1, e :: (wh t ((c :: r).drop e.text.length)).2) := fun a ha => by
        obtain ⟨e, he, rfl⟩ := List.mem_map.mp ha
        rw [List.mem_filter] at he
        refine ⟨e, he.1, he.2, ?_⟩
        have g := good_iff.mp (T.good e he.1)
        have hp := (List.isPrefixOf_iff_prefix.mp he.2).length_le
        rw [List.length_cons] at hp
        have hd : (c :: r).drop e.text.length = r.drop (e.text.length - 1) := by
          obtain ⟨m, hm⟩ : ∃ m, e.text.length = m + 1 := ⟨e.text.length - 1, by omega⟩
          rw [hm]
          rfl
        rw [ways_getD (by omega), hd]
      have cw : ∀ e ∈ t, e.text.isPrefixOf (c :: r) = true → (e.cells.length + (wh t ((c :: r).drop e.text.length)).1, e :: (wh t ((c :: r).drop e.text.length)).2) ∈ wcand t c r := fun e he hp => by
        refine List.mem_map.mpr ⟨e, List.mem_filter.mpr ⟨he, hp⟩, ?_⟩
        have g := good_iff.mp (T.good e he)
        have hp := (List.isPrefixOf_iff_prefix.mp hp).length_le
        rw [List.length_cons] at hp
        have hd : (c :: r).drop e.text.length = r.drop (e.text.length - 1) := by
          obtain ⟨m, hm⟩ : ∃ m, e.text.length = m + 1 := ⟨e.text.length - 1, by omega⟩
          rw [hm]
          rfl
        rw [ways_getD (by omega), hd]
      have cand : ∀ e ∈ t, e.text.isPrefixOf (c :: r) = true → Cand (cellsAt t) 12 (c :: r) e.text.length (e.cells.length + (wh t ((c :: r).drop e.text.length)).1) := fun e he hp => by
        have g := good_iff.mp (T.good e he)
        have hpre := List.isPrefixOf_iff_prefix.mp hp
        have hlen := hpre.length_le
        refine ⟨g.1, g.2.1, hlen, e.cells, (wh t ((c :: r).drop e.text.length)).1, ?_, (tail _ g.1 hlen).1, rfl⟩
        refine (cellsAt_some T.texts).mpr ⟨e, he, ?_, rfl⟩
        obtain ⟨m, hm⟩ := hpre
        rw [← hm, List.take_left]
      have dnac : ∀ s k, Cand (cellsAt t) 12 (c :: r) s k → ∃ e ∈ t, e.text.isPrefixOf (c :: r) = true ∧ e.text = (c :: r).take s ∧ s = e.text.length ∧ k = e.cells.length + (wh t ((c :: r).drop e.text.length)).1 := by
        rintro s k ⟨h1, h2, h3, v, b, h4, h5, h6⟩
        obtain ⟨e, he, e1, e2⟩ := (cellsAt_some T.texts).mp h4
        have hs : s = e.text.length := by
          rw [e1, List.length_take]
          omega
        refine ⟨e, he, ?_, e1, hs, ?_⟩
        · rw [List.isPrefixOf_iff_prefix, e1]
          exact List.take_prefix _ _
        · rw [← hs, e2, h6]
          have := (tail s h1 h3).1
          rw [h5] at this
          rw [Option.some.inj this]
      -- there is one: the first letter alone
      obtain ⟨e0, he0, ht0⟩ := T.letters c (by
        have := hl c (List.mem_cons_self ..)
        unfold isLetter at this
        simp only [Bool.and_eq_true, decide_eq_true_eq] at this
        exact this.1) (by
        have := hl c (List.mem_cons_self ..)
        unfold isLetter at this
        simp only [Bool.and_eq_true, decide_eq_true_eq] at this
        exact this.2)
      have hp0 : e0.text.isPrefixOf (c :: r) = true := by
        rw [List.isPrefixOf_iff_prefix, ht0]
        exact ⟨r, rfl⟩
      rcases fh_spec (K := cellsAt t) (L := 12) hne with ⟨_, h⟩ | ⟨k, s, h1, h2, h3⟩
      · exact absurd (cand e0 he0 hp0) (h _ _)
      · have hbm := best_mem (l := wcand t c r) fun z => by
          have := cw e0 he0 hp0
          rw [z] at this
          cases this
        obtain ⟨eb, heb, hpb, hb⟩ := wc _ hbm
        obtain ⟨ek, hek, hpk, htk, hsk, hk⟩ := dnac s k h2
        have hhd : hd (best (wcand t c r)) = eb.text.length := by rw [hb]; rfl
        have c1 := best_le (cw ek hek hpk)
        have c2 := h3 _ _ (cand eb heb hpb)
        have hb1 : (best (wcand t c r)).1 = eb.cells.length + (wh t ((c :: r).drop eb.text.length)).1 := by rw [hb]
        have hhk : hd (ek.cells.length + (wh t ((c :: r).drop ek.text.length)).1, ek :: (wh t ((c :: r).drop ek.text.length)).2) = ek.text.length := rfl
        rw [hhd, hhk] at c1
        dsimp only at c1
        have hlen : eb.text.length = s := by omega
        have hcost : (best (wcand t c r)).1 = k := by omega
        have heq : eb = ek := text_inj T.texts heb hek (by
          rw [htk]
          obtain ⟨m, hm⟩ := List.isPrefixOf_iff_prefix.mp hpb
          rw [← hm, ← hlen, List.take_left])
        have tl := tail s h2.1 h2.2.2.1
        rw [wh_cons, h1]
        refine ⟨by rw [hcost], ?_, ?_, ?_, fun _ => by rw [hhd, hlen]⟩
        · rw [row_cons hne (by rw [h1]; exact fun z => by cases z), h1]
          dsimp only
          rw [tl.2.1, hb, ← htk, heq, ← hsk]
          rfl
        · rw [hb]
          intro e he
          rcases List.mem_cons.mp he with rfl | he
          · exact heb
          · rw [hlen] at he
            exact tl.2.2.1 e he
        · rw [hb]
          show (eb :: (wh t ((c :: r).drop eb.text.length)).2).flatMap Entry.text = c :: r
          rw [List.flatMap_cons, hlen, tl.2.2.2, heq, htk, List.take_append_drop]
theorem row_entries {t : Table} (T : Tab t) {w : List Nat} (hl : ∀ x ∈ w, isLetter x = true) : (fh (cellsAt t) 12 w).1 ≠ none ∧ row (cellsAt t) 12 w = (entriesOf t w).map Entry.text ∧ (∀ e ∈ entriesOf t w, e ∈ t) ∧ (entriesOf t w).flatMap Entry.text = w := by
  have := ways_fw T w.length w (Nat.le_refl _) hl
  exact ⟨(by rw [this.1]; exact fun z => by cases z), this.2.1, this.2.2.1, this.2.2.2.1⟩

/-! ### the specification's readings -/
theorem readings_get {t : Table} : ∀ (w : List Nat) (i : Nat), i ≤ w.length → (readings t w)[i]? = some (reading t (w.drop i))
  | [], 0, _ => rfl
  | [], i + 1, h => by simp at h
  | x :: r, 0, _ => rfl
  | x :: r, i + 1, h => by
    show (readings t r)[i]? = some (reading t (r.drop i))
    exact readings_get r i (by simpa using h)
theorem readings_getD {t : Table} {w : List Nat} {i : Nat} (h : i ≤ w.length) : (readings t w).getD i none = reading t (w.drop i) := by
  rw [List.getD_eq_getElem?_getD, readings_get w i h]
  rfl
theorem reading_cons {t : Table} (c : Nat) (r : List Nat) : reading t (c :: r) = t.findSome? fun e => if e.cells.isPrefixOf (c :: r) = true then ((readings t r).getD (e.cells.length - 1) none).map fun l => e.text ++ l else none := rfl
theorem reading_drop {t : Table} (T : Tab t) {c : Nat} {r : List Nat} {e : Entry} (he : e ∈ t) (hp : e.cells.isPrefixOf (c :: r) = true) : (readings t r).getD (e.cells.length - 1) none = reading t ((c :: r).drop e.cells.length) := by
  have g := good_iff.mp (T.good e he)
  have hp := (List.isPrefixOf_iff_prefix.mp hp).length_le
  rw [List.length_cons] at hp
  have hd : (c :: r).drop e.cells.length = r.drop (e.cells.length - 1) := by
    obtain ⟨m, hm⟩ : ∃ m, e.cells.length = m + 1 := ⟨e.cells.length - 1, by omega⟩
    rw [hm]
    rfl
  rw [readings_getD (by omega), hd]
theorem reading_some {t : Table} (T : Tab t) : ∀ (n : Nat) (w l : List Nat), w.length ≤ n → reading t w = some l → ∃ es : List Entry, (∀ e ∈ es, e ∈ t) ∧ es.flatMap Entry.cells = w ∧ es.flatMap Entry.text = l := by
  intro n
  induction n with
  | zero =>
    intro w l hn h
    have : w = [] := List.length_eq_zero_iff.mp (by omega)
    subst this
    have : l = [] := (Option.some.inj h).symm
    subst this
    exact ⟨[], (fun e he => by cases he), rfl, rfl⟩
  | succ n ih =>
    intro w l hn h
    cases w with
    | nil =>
      have : l = [] := (Option.some.inj h).symm
      subst this
      exact ⟨[], (fun e he => by cases he), rfl, rfl⟩
    | cons c r =>
      rw [reading_cons] at h
      obtain ⟨e, he, q⟩ := List.exists_of_findSome?_eq_some h
      split at q
      · rename_i hp
        rw [reading_drop T he hp] at q
        have g := good_iff.mp (T.good e he)
        cases f : reading t ((c :: r).drop e.cells.length) with
        | none => rw [f] at q; cases q
        | some l' =>
          rw [f] at q
          obtain ⟨es, h1, h2, h3⟩ := ih _ _ (by rw [List.length_drop]; omega) f
          refine ⟨e :: es, fun x hx => ?_, ?_, ?_⟩
          · rcases List.mem_cons.mp hx with rfl | hx
            · exact he
            · exact h1 x hx
          · rw [List.flatMap_cons, h2]
            obtain ⟨m, hm⟩ := List.isPrefixOf_iff_prefix.mp hp
            rw [← hm, List.drop_left]
          · rw [List.flatMap_cons, h3]
            exact Option.some.inj q
      · cases q
theorem reading_of {t : Table} (T : Tab t) : ∀ (es : List Entry), (∀ e ∈ es, e ∈ t) → reading t (es.flatMap Entry.cells) ≠ none
  | [], _ => by
    show reading t [] ≠ none
    exact fun z => by cases z
  | e :: es, h => by
    have he := h e (List.mem_cons_self ..)
    have ih := reading_of T es fun x hx => h x (List.mem_cons_of_mem _ hx)
    have g := good_iff.mp (T.good e he)
    rw [List.flatMap_cons]
    cases hw : e.cells ++ es.flatMap Entry.cells with
    | nil =>
      have := congrArg List.length hw
      simp only [List.length_append, List.length_nil] at this
      omega
    | cons c r =>
      rw [reading_cons]
      intro z
      have q := List.findSome?_eq_none_iff.mp z e he
      have hp : e.cells.isPrefixOf (c :: r) = true := by
        rw [List.isPrefixOf_iff_prefix, ← hw]
        exact ⟨_, rfl⟩
      rw [if_pos hp, reading_drop T he hp, ← hw, List.drop_left] at q
      cases f : reading t (es.flatMap Entry.cells) with
      | none => exact ih f
      | some l => rw [f] at q; cases q
theorem row_of_entries {t : Table} (T : Tab t) (hc : (t.map Entry.cells).Nodup) : ∀ (p : List (List Nat)), IsRow (textAt t) 6 p → ∃ es : List Entry, (∀ e ∈ es, e ∈ t) ∧ es.map Entry.cells = p
  | [], _ => ⟨[], (fun e he => by cases he), rfl⟩
  | x :: p, h => by
    obtain ⟨es, h1, h2⟩ := row_of_entries T hc p fun y hy => h y (List.mem_cons_of_mem _ hy)
    obtain ⟨⟨v, hv⟩, _, _⟩ := h x (List.mem_cons_self ..)
    obtain ⟨e, he, e1, _⟩ := (textAt_some hc).mp hv
    refine ⟨e :: es, fun y hy => ?_, by rw [List.map_cons, h2, e1]⟩
    rcases List.mem_cons.mp hy with rfl | hy
    · exact he
    · exact h1 y hy
theorem entries_row {t : Table} (T : Tab t) (hc : (t.map Entry.cells).Nodup) {es : List Entry} (h : ∀ e ∈ es, e ∈ t) : IsRow (textAt t) 6 (es.map Entry.cells) := fun x hx => by
  obtain ⟨e, he, rfl⟩ := List.mem_map.mp hx
  have g := good_iff.mp (T.good e (h e he))
  exact ⟨⟨e.text, (textAt_some hc).mpr ⟨e, h e he, rfl, rfl⟩⟩, g.2.2.1, g.2.2.2.1⟩
theorem flat_cells (es : List Entry) : (es.map Entry.cells).flatten = es.flatMap Entry.cells := by
  rw [List.flatMap_def]
/-- the program's reading is the specification's -/
theorem reading_row {t : Table} (T : Tab t) (hs : t.sure = true) (w : List Nat) :
    ((fh (textAt t) 6 w).1 = none ∧ reading t w = none) ∨
    ((fh (textAt t) 6 w).1 ≠ none ∧ ∃ es : List Entry, (∀ e ∈ es, e ∈ t) ∧ row (textAt t) 6 w = es.map Entry.cells ∧ reading t w = some (es.flatMap Entry.text)) := by
  have h6 : ∀ e ∈ t, e.cells.length ≤ 6 := fun e he => (good_iff.mp (T.good e he)).2.2.2.1
  obtain ⟨hc, h0⟩ := (sure_codes h6 T.nodup).mp hs
  have hne : ∀ c ∈ t.map Entry.cells, c ≠ [] := fun c hc z => by
    obtain ⟨e, he, rfl⟩ := List.mem_map.mp hc
    have := (good_iff.mp (T.good e he)).2.2.1
    rw [z] at this
    simp at this
  cases q : (fh (textAt t) 6 w).1 with
  | none =>
    left
    refine ⟨rfl, ?_⟩
    cases f : reading t w with
    | none => rfl
    | some l =>
      obtain ⟨es, h1, h2, _⟩ := reading_some T w.length w l (Nat.le_refl _) f
      have := some_of_row _ (entries_row T hc h1)
      rw [flat_cells, h2] at this
      exact absurd q this
  | some b =>
    right
    refine ⟨(fun z => by cases z), ?_⟩
    obtain ⟨r1, r2⟩ := row_is (K := textAt t) (L := 6) w.length w (Nat.le_refl _) (by rw [q]; exact fun z => by cases z)
    obtain ⟨es, h1, h2⟩ := row_of_entries T hc _ r1
    refine ⟨es, h1, h2.symm, ?_⟩
    have hw : es.flatMap Entry.cells = w := by rw [← flat_cells, h2, r2]
    cases f : reading t w with
    | none =>
      rw [← hw] at f
      exact absurd f (reading_of T es h1)
    | some l =>
      obtain ⟨fs, g1, g2, g3⟩ := reading_some T w.length w l (Nat.le_refl _) f
      have := one_row h0 hne (es.map Entry.cells) (fs.map Entry.cells) (fun x hx => by
          obtain ⟨e, he, rfl⟩ := List.mem_map.mp hx
          exact List.mem_map.mpr ⟨e, h1 e he, rfl⟩) (fun x hx => by
          obtain ⟨e, he, rfl⟩ := List.mem_map.mp hx
          exact List.mem_map.mpr ⟨e, g1 e he, rfl⟩) (by rw [flat_cells, flat_cells, hw, g2])
      have same : ∀ (es fs : List Entry), (∀ e ∈ es, e ∈ t) → (∀ e ∈ fs, e ∈ t) → es.map Entry.cells = fs.map Entry.cells → es = fs := by
        intro es
        induction es with
        | nil =>
          intro fs _ _ e
          cases fs with
          | nil => rfl
          | cons y fs => cases e
        | cons x es ih =>
          intro fs a b e
          cases fs with
          | nil => cases e
          | cons y fs =>
            rw [List.map_cons, List.map_cons] at e
            have e1 := (List.cons.inj e).1
            have e2 := (List.cons.inj e).2
            rw [cells_inj hc (a x (List.mem_cons_self ..)) (b y (List.mem_cons_self ..)) e1, ih fs (fun z hz => a z (List.mem_cons_of_mem _ hz)) (fun z hz => b z (List.mem_cons_of_mem _ hz)) e2]
      rw [same es fs h1 g1 this, g3]

/-! ### parts, joined -/
theorem parts_nil (b : Nat) : parts b [] = [[]] := rfl
theorem parts_ne {b : Nat} : ∀ (l : List Nat), parts b l ≠ []
  | [] => by simp [parts]
  | x :: l => by
    unfold parts
    cases h : parts b l with
    | nil => simp
    | cons p r =>
      dsimp only
      split <;> simp
theorem parts_mark {b : Nat} (l : List Nat) : parts b (b :: l) = [] :: parts b l := by
  show (match parts b l with
    | [] => [[]]
    | p :: r => if b = b then [] :: p :: r else (b :: p) :: r) = _
  cases h : parts b l with
  | nil => exact absurd h (parts_ne l)
  | cons p r => simp
theorem parts_other {b x : Nat} (l : List Nat) (hx : x ≠ b) : ∃ p r, parts b l = p :: r ∧ parts b (x :: l) = (x :: p) :: r := by
  cases h : parts b l with
  | nil => exact absurd h (parts_ne l)
  | cons p r =>
    refine ⟨p, r, rfl, ?_⟩
    show (match parts b l with
      | [] => [[]]
      | p :: r => if x = b then [] :: p :: r else (x :: p) :: r) = _
    rw [h]
    exact if_neg hx
theorem parts_cut {b : Nat} : ∀ (xs ys : List Nat), b ∉ xs → parts b (xs ++ b :: ys) = xs :: parts b ys
  | [], ys, _ => parts_mark ys
  | x :: xs, ys, h => by
    rw [List.mem_cons, not_or] at h
    obtain ⟨p, r, h1, h2⟩ := parts_other (b := b) (x := x) (xs ++ b :: ys) fun z => h.1 z.symm
    rw [parts_cut xs ys h.2] at h1
    rw [List.cons_append, h2, ← (List.cons.inj h1).1, ← (List.cons.inj h1).2]
theorem parts_whole {b : Nat} : ∀ (xs : List Nat), b ∉ xs → parts b xs = [xs]
  | [], _ => rfl
  | x :: xs, h => by
    rw [List.mem_cons, not_or] at h
    obtain ⟨p, r, h1, h2⟩ := parts_other (b := b) (x := x) xs fun z => h.1 z.symm
    rw [parts_whole xs h.2] at h1
    rw [h2, ← (List.cons.inj h1).1, ← (List.cons.inj h1).2]
theorem mem_parts {b : Nat} : ∀ (l : List Nat), ∀ p ∈ parts b l, ∀ x ∈ p, x ∈ l ∧ x ≠ b
  | [], p, hp, x, hx => by
    rw [parts_nil, List.mem_singleton] at hp
    subst hp
    cases hx
  | y :: l, p, hp, x, hx => by
    have ih := mem_parts (b := b) l
    by_cases hy : y = b
    · subst hy
      rw [parts_mark] at hp
      rcases List.mem_cons.mp hp with rfl | hp
      · cases hx
      · exact ⟨List.mem_cons_of_mem _ (ih p hp x hx).1, (ih p hp x hx).2⟩
    · obtain ⟨q, r, h1, h2⟩ := parts_other (b := b) (x := y) l hy
      rw [h2] at hp
      rw [h1] at ih
      rcases List.mem_cons.mp hp with rfl | hp
      · rcases List.mem_cons.mp hx with rfl | hx
        · exact ⟨List.mem_cons_self .., hy⟩
        · have := ih q (List.mem_cons_self ..) x hx
          exact ⟨List.mem_cons_of_mem _ this.1, this.2⟩
      · have := ih p (List.mem_cons_of_mem _ hp) x hx
        exact ⟨List.mem_cons_of_mem _ this.1, this.2⟩
/-- how long the parts are together, with a mark behind each -/
theorem parts_length {b : Nat} : ∀ (l : List Nat), ((parts b l).map fun p => p.length + 1).sum = l.length + 1
  | [] => rfl
  | y :: l => by
    have ih := parts_length (b := b) l
    by_cases hy : y = b
    · subst hy
      rw [parts_mark, List.map_cons, List.sum_cons, ih]
      simp
      omega
    · obtain ⟨q, r, h1, h2⟩ := parts_other (b := b) (x := y) l hy
      rw [h1, List.map_cons, List.sum_cons] at ih
      rw [h2, List.map_cons, List.sum_cons, List.length_cons, List.length_cons]
      omega
theorem joined_snoc {b : Nat} : ∀ (l : List (List Nat)) (p : List Nat), l ≠ [] → joined b (l ++ [p]) = joined b l ++ b :: p
  | [], _, h => absurd rfl h
  | [a], p, _ => rfl
  | a :: c :: l, p, _ => by
    have ih := joined_snoc (b := b) (c :: l) p (by simp)
    show a ++ b :: joined b ((c :: l) ++ [p]) = (a ++ b :: joined b (c :: l)) ++ b :: p
    rw [ih]
    simp
theorem allSome_none {l : List (Option (List Nat))} (h : none ∈ l) : allSome l = none := by
  induction l with
  | nil => cases h
  | cons x l ih =>
    cases x with
    | none => rfl
    | some x =>
      rcases List.mem_cons.mp h with h | h
      · cases h
      · show (allSome l).map _ = none
        rw [ih h]
        rfl
theorem allSome_map {α : Type} {f : α → Option (List Nat)} {g : α → List Nat} : ∀ {l : List α}, (∀ x ∈ l, f x = some (g x)) → allSome (l.map f) = some (l.map g)
  | [], _ => rfl
  | x :: l, h => by
    rw [List.map_cons, h x (List.mem_cons_self ..)]
    show (allSome (l.map f)).map _ = _
    rw [allSome_map fun y hy => h y (List.mem_cons_of_mem _ hy)]
    rfl
end Fc

/-! Fc: words laid on lines. The program's records of entries against the specification's marks. -/
set_option Elab.async false
namespace Fc
open Km344
/-- an entry on its line: the place of its first letter, itself, its first cell -/
abbrev Rec := Nat × Entry × Nat
def rcells (x : Rec) : Line := x.2.1.cells.map fun c => (c, some x.1)
/-- a line up to a cell -/
def pend (l : Line) (cell : Nat) : Line := l ++ if cell = l.length then [] else [(0, none)]
def mark1 (acc : Line) (x : Rec) : Line := pend acc x.2.2 ++ rcells x
def marks (l : List Rec) : Line := l.foldl mark1 []
theorem marks_nil : marks [] = [] := rfl
theorem marks_snoc (l : List Rec) (x : Rec) : marks (l ++ [x]) = pend (marks l) x.2.2 ++ rcells x := by
  unfold marks
  rw [List.foldl_append]
  rfl
/-- where the next entry may begin -/
def Next (l : List Rec) (cell : Nat) : Prop := cell = (marks l).length ∨ (l ≠ [] ∧ cell = (marks l).length + 1)
inductive GL : List Rec → Prop
  | nil : GL []
  | snoc {l : List Rec} {x : Rec} (h : GL l) (hc : Next l x.2.2) (h1 : 1 ≤ x.2.1.cells.length) : GL (l ++ [x])
theorem pend_length {l : List Rec} {cell : Nat} (h : Next l cell) : (pend (marks l) cell).length = cell := by
  unfold pend
  rcases h with h | ⟨_, h⟩
  · rw [if_pos h, List.append_nil, h]
  · rw [if_neg (by omega), List.length_append, h]
    rfl
theorem marks_snoc_length {l : List Rec} {x : Rec} (h : Next l x.2.2) : (marks (l ++ [x])).length = x.2.2 + x.2.1.cells.length := by
  rw [marks_snoc, List.length_append, pend_length h]
  unfold rcells
  rw [List.length_map]
/-- where a word begins behind a line -/
def cellFor (l : List Rec) : Nat := match l.getLast? with
  | none => 0
  | some x => x.2.2 + x.2.1.cells.length + 1
theorem cellFor_nil : cellFor [] = 0 := rfl
theorem cellFor_snoc (l : List Rec) (x : Rec) : cellFor (l ++ [x]) = x.2.2 + x.2.1.cells.length + 1 := by
  unfold cellFor
  rw [List.getLast?_append]
  rfl
theorem cellFor_of {l : List Rec} (h : GL l) (hl : l ≠ []) : cellFor l = (marks l).length + 1 := by
  cases h with
  | nil => exact absurd rfl hl
  | snoc h hc h1 => rw [cellFor_snoc, marks_snoc_length hc]
theorem marks_ne {l : List Rec} (h : GL l) (hl : l ≠ []) : marks l ≠ [] := by
  cases h with
  | nil => exact absurd rfl hl
  | snoc h hc h1 =>
    intro z
    have := marks_snoc_length hc
    rw [z, List.length_nil] at this
    omega

/-! ### one word -/
/-- the lines that are full, the open one, where the next entry begins -/
abbrev LS := List (List Rec) × List Rec × Nat
def stepC (width : Nat) (s : LS) (x : Nat × Entry) : LS :=
  if width < s.2.2 + x.2.cells.length then (s.1 ++ [s.2.1], [(x.1, x.2, 0)], x.2.cells.length) else (s.1, s.2.1 ++ [(x.1, x.2, s.2.2)], s.2.2 + x.2.cells.length)
def placed : Nat → List Entry → List (Nat × Entry)
  | _, [] => []
  | p, e :: l => (p, e) :: placed (p + e.text.length) l
theorem units_placed : ∀ (p : Nat) (es : List Entry), units p es = (placed p es).map fun x => x.2.cells.map fun c => (c, some x.1)
  | _, [] => rfl
  | p, e :: l => by
    show _ :: units (p + e.text.length) l = _ :: _
    rw [units_placed]
theorem placed_length : ∀ (p : Nat) (es : List Entry), (placed p es).length = es.length
  | _, [] => rfl
  | p, e :: l => congrArg (· + 1) (placed_length (p + e.text.length) l)
theorem mem_placed : ∀ {p : Nat} {es : List Entry} {x : Nat × Entry}, x ∈ placed p es → x.2 ∈ es
  | _, _ :: _, _, h => by
    rcases List.mem_cons.mp h with rfl | h
    · exact List.mem_cons_self ..
    · exact List.mem_cons_of_mem _ (mem_placed h)
def begun (width n : Nat) (done : List (List Rec)) (cur : List Rec) : LS := if 0 < cellFor cur ∧ width < cellFor cur + n then (done ++ [cur], [], 0) else (done, cur, cellFor cur)
def wordCells (es : List Entry) : Nat := (es.map fun e => e.cells.length).sum
/-- the program's word -/
def layW (width p : Nat) (es : List Entry) (done : List (List Rec)) (cur : List Rec) : LS := (placed p es).foldl (stepC width) (begun width (wordCells es) done cur)

/-- entries on lines, one behind another -/
theorem fill_step {width : Nat} (hw : 6 ≤ width) : ∀ (us : List (Nat × Entry)) (done : List (List Rec)) (cur : List Rec) (cell : Nat), (∀ x ∈ us, 1 ≤ x.2.cells.length ∧ x.2.cells.length ≤ 6) → GL cur → (∀ l ∈ done, GL l) → cell = (marks cur).length →
    fill width (done.map marks) (marks cur) (us.map fun x => x.2.cells.map fun c => (c, some x.1)) = ((us.foldl (stepC width) (done, cur, cell)).1.map marks, marks (us.foldl (stepC width) (done, cur, cell)).2.1) ∧
      GL (us.foldl (stepC width) (done, cur, cell)).2.1 ∧ ∀ l ∈ (us.foldl (stepC width) (done, cur, cell)).1, GL l
  | [], done, cur, cell, _, g, gd, _ => ⟨rfl, g, gd⟩
  | x :: us, done, cur, cell, hu, g, gd, hc => by
    have hx := hu x (List.mem_cons_self ..)
    have hu' := fun y hy => hu y (List.mem_cons_of_mem _ hy)
    have hn : Next cur cell := .inl hc
    rw [List.map_cons, List.foldl_cons]
    unfold fill stepC
    dsimp only
    by_cases h : width < cell + x.2.cells.length
    · rw [if_pos h, if_neg (by rw [List.length_map]; omega)]
      have g1 : GL [(x.1, x.2, 0)] := GL.snoc (l := []) (x := (x.1, x.2, 0)) .nil (.inl rfl) hx.1
      have m1 : marks [(x.1, x.2, 0)] = x.2.cells.map fun c => (c, some x.1) := by
        have := marks_snoc [] (x.1, x.2, 0)
        rw [List.nil_append] at this
        rw [this]
        rfl
      have l1 : x.2.cells.length = (marks [(x.1, x.2, 0)]).length := by rw [m1, List.length_map]
      have ih := fill_step hw us (done ++ [cur]) [(x.1, x.2, 0)] x.2.cells.length hu' g1 (fun l hl => (List.mem_append.mp hl).elim (gd l) fun hl => by rw [List.mem_singleton.mp hl]; exact g) l1
      rw [m1, List.map_append] at ih
      exact ih
    · rw [if_neg h, if_pos (by rw [List.length_map]; omega)]
      have g1 : GL (cur ++ [(x.1, x.2, cell)]) := GL.snoc g hn hx.1
      have m1 : marks (cur ++ [(x.1, x.2, cell)]) = marks cur ++ x.2.cells.map fun c => (c, some x.1) := by
        rw [marks_snoc]
        unfold pend
        rw [if_pos hc, List.append_nil]
        rfl
      have ih := fill_step hw us done (cur ++ [(x.1, x.2, cell)]) (cell + x.2.cells.length) hu' g1 gd (by rw [m1, List.length_append, List.length_map, ← hc])
      rw [m1] at ih
      exact ih
/-- a word that fits on the line -/
theorem fit_step {width : Nat} : ∀ (us : List (Nat × Entry)) (done : List (List Rec)) (cur : List Rec) (cell : Nat), (∀ x ∈ us, 1 ≤ x.2.cells.length ∧ x.2.cells.length ≤ 6) → GL cur → Next cur cell → cell + (us.map fun x => x.2.cells.length).sum ≤ width →
    (us.foldl (stepC width) (done, cur, cell)).1 = done ∧ GL (us.foldl (stepC width) (done, cur, cell)).2.1 ∧ (us ≠ [] → marks (us.foldl (stepC width) (done, cur, cell)).2.1 = pend (marks cur) cell ++ (us.map fun x => x.2.cells.map fun c => (c, some x.1)).flatten)
  | [], done, cur, cell, _, g, _, _ => ⟨rfl, g, fun z => absurd rfl z⟩
  | x :: us, done, cur, cell, hu, g, hn, hs => by
    have hx := hu x (List.mem_cons_self ..)
    have hu' := fun y hy => hu y (List.mem_cons_of_mem _ hy)
    rw [List.map_cons, List.sum_cons] at hs
    rw [List.foldl_cons]
    unfold stepC
    dsimp only
    rw [if_neg (by omega)]
    have g1 : GL (cur ++ [(x.1, x.2, cell)]) := GL.snoc g hn hx.1
    have hl := marks_snoc_length (l := cur) (x := (x.1, x.2, cell)) hn
    have n1 : Next (cur ++ [(x.1, x.2, cell)]) (cell + x.2.cells.length) := .inl hl.symm
    have ih := fit_step (width := width) us done (cur ++ [(x.1, x.2, cell)]) (cell + x.2.cells.length) hu' g1 n1 (by omega)
    refine ⟨ih.1, ih.2.1, fun _ => ?_⟩
    have m1 : marks (cur ++ [(x.1, x.2, cell)]) = pend (marks cur) cell ++ x.2.cells.map fun c => (c, some x.1) := marks_snoc _ _
    rw [List.map_cons, List.flatten_cons]
    by_cases hz : us = []
    · subst hz
      show marks (cur ++ [(x.1, x.2, cell)]) = _
      rw [m1]
      simp
    · have := ih.2.2 hz
      unfold pend at this
      rw [if_pos hl.symm, List.append_nil, m1] at this
      rw [List.append_assoc] at this
      exact this
theorem sum_placed : ∀ (es : List Entry) (p : Nat), ((placed p es).map fun x => x.2.cells.length).sum = wordCells es
  | [], _ => rfl
  | e :: es, p => by
    have ih := sum_placed es (p + e.text.length)
    show e.cells.length + ((placed (p + e.text.length) es).map fun x => x.2.cells.length).sum = e.cells.length + wordCells es
    rw [ih]
theorem sum_units : ∀ (es : List Entry) (p : Nat), ((units p es).map List.length).sum = wordCells es
  | [], _ => rfl
  | e :: es, p => by
    have ih := sum_units es (p + e.text.length)
    show (e.cells.map fun c => (c, some p)).length + ((units (p + e.text.length) es).map List.length).sum = e.cells.length + wordCells es
    rw [ih, List.length_map]
/-- the program's word is the specification's -/
theorem put_layW {t : Table} {width p : Nat} {wd : List Nat} {done : List (List Rec)} {cur : List Rec} (hw : 6 ≤ width) (he : ∀ e ∈ entriesOf t wd, 1 ≤ e.cells.length ∧ e.cells.length ≤ 6) (hne : entriesOf t wd ≠ []) (g : GL cur) (gd : ∀ l ∈ done, GL l) :
    put t width (done.map marks, marks cur) (p, wd) = ((layW width p (entriesOf t wd) done cur).1.map marks, marks (layW width p (entriesOf t wd) done cur).2.1) ∧ GL (layW width p (entriesOf t wd) done cur).2.1 ∧ ∀ l ∈ (layW width p (entriesOf t wd) done cur).1, GL l := by
  have hu : ∀ x ∈ placed p (entriesOf t wd), 1 ≤ x.2.cells.length ∧ x.2.cells.length ≤ 6 := fun x hx => he _ (mem_placed hx)
  have hpne : placed p (entriesOf t wd) ≠ [] := fun z => hne (by
    have := placed_length p (entriesOf t wd)
    rw [z] at this
    exact List.length_eq_zero_iff.mp this.symm)
  unfold put layW
  dsimp only
  rw [sum_units, units_placed]
  by_cases hc : cur = []
  · subst hc
    rw [marks_nil, if_pos (by rfl)]
    have hb : begun width (wordCells (entriesOf t wd)) done [] = (done, [], 0) := by
      unfold begun
      rw [cellFor_nil, if_neg (by omega)]
    rw [hb]
    exact fill_step hw _ done [] 0 hu .nil gd rfl
  · have hm := marks_ne g hc
    rw [if_neg (by simpa using hm)]
    have hcf := cellFor_of g hc
    by_cases hfit : (marks cur).length + 1 + wordCells (entriesOf t wd) ≤ width
    · rw [if_pos hfit]
      have hb : begun width (wordCells (entriesOf t wd)) done cur = (done, cur, (marks cur).length + 1) := by
        unfold begun
        rw [hcf, if_neg (by omega)]
      rw [hb]
      have := fit_step (width := width) (placed p (entriesOf t wd)) done cur ((marks cur).length + 1) hu g (.inr ⟨hc, rfl⟩) (by rw [sum_placed]; omega)
      refine ⟨?_, this.2.1, by rw [this.1]; exact gd⟩
      rw [this.1, this.2.2 hpne]
      unfold pend
      rw [if_neg (by omega), List.append_assoc]
      rfl
    · rw [if_neg hfit]
      have hb : begun width (wordCells (entriesOf t wd)) done cur = (done ++ [cur], [], 0) := by
        unfold begun
        rw [hcf, if_pos ⟨by omega, by omega⟩]
      rw [hb]
      have := fill_step hw (placed p (entriesOf t wd)) (done ++ [cur]) [] 0 hu .nil (fun l hl => (List.mem_append.mp hl).elim (gd l) fun hl => by rw [List.mem_singleton.mp hl]; exact g) rfl
      rw [List.map_append] at this
      exact this

/-! ### a paragraph, a book -/
/-- a word at a place, or nothing -/
def layP (t : Table) (width : Nat) (s : List (List Rec) × List Rec) (x : Nat × List Nat) : List (List Rec) × List Rec := if x.2 = [] then s else ((layW width x.1 (entriesOf t x.2) s.1 s.2).1, (layW width x.1 (entriesOf t x.2) s.1 s.2).2.1)
/-- parts with their places -/
def sited : Nat → List (List Nat) → List (Nat × List Nat)
  | _, [] => []
  | p, w :: l => (p, w) :: sited (p + w.length + 1) l
def parR (t : Table) (width p : Nat) (text : List Nat) : List (List Rec) := let s := (sited p (parts 32 text)).foldl (layP t width) ([], [])
  s.1 ++ [s.2]
theorem par_step {t : Table} {width : Nat} (hw : 6 ≤ width) : ∀ (l : List (List Nat)) (p : Nat) (s : List (List Rec) × List Rec), (∀ wd ∈ l, (∀ e ∈ entriesOf t wd, 1 ≤ e.cells.length ∧ e.cells.length ≤ 6) ∧ (wd ≠ [] → entriesOf t wd ≠ [])) → GL s.2 → (∀ x ∈ s.1, GL x) →
    (words p l).foldl (put t width) (s.1.map marks, marks s.2) = (((sited p l).foldl (layP t width) s).1.map marks, marks ((sited p l).foldl (layP t width) s).2) ∧ GL ((sited p l).foldl (layP t width) s).2 ∧ ∀ x ∈ ((sited p l).foldl (layP t width) s).1, GL x
  | [], _, _, _, g, gd => ⟨rfl, g, gd⟩
  | wd :: l, p, s, h, g, gd => by
    have h0 := h wd (List.mem_cons_self ..)
    have h' := fun y hy => h y (List.mem_cons_of_mem _ hy)
    show ((if wd.isEmpty = true then [] else [(p, wd)]) ++ words (p + wd.length + 1) l).foldl (put t width) (s.1.map marks, marks s.2) = (((sited (p + wd.length + 1) l).foldl (layP t width) (layP t width s (p, wd))).1.map marks, marks ((sited (p + wd.length + 1) l).foldl (layP t width) (layP t width s (p, wd))).2) ∧ _
    by_cases hz : wd = []
    · subst hz
      have e1 : layP t width s (p, []) = s := if_pos rfl
      have e2 : (sited p ([] :: l)).foldl (layP t width) s = (sited (p + ([] : List Nat).length + 1) l).foldl (layP t width) s := by
        show (sited (p + ([] : List Nat).length + 1) l).foldl (layP t width) (layP t width s (p, [])) = _
        rw [e1]
      rw [e1, e2]
      exact par_step hw l (p + ([] : List Nat).length + 1) s h' g gd
    · rw [if_neg (by simpa using hz), List.foldl_append]
      have e1 : layP t width s (p, wd) = ((layW width p (entriesOf t wd) s.1 s.2).1, (layW width p (entriesOf t wd) s.1 s.2).2.1) := if_neg hz
      have e2 : (sited p (wd :: l)).foldl (layP t width) s = (sited (p + wd.length + 1) l).foldl (layP t width) (layP t width s (p, wd)) := rfl
      have := put_layW (t := t) (p := p) hw h0.1 (h0.2 hz) g gd
      rw [e2, e1]
      show (words (p + wd.length + 1) l).foldl (put t width) (put t width (s.1.map marks, marks s.2) (p, wd)) = _ ∧ _
      rw [this.1]
      exact par_step hw l (p + wd.length + 1) (_, _) h' this.2.1 this.2.2
theorem paragraph_parR {t : Table} {width p : Nat} {text : List Nat} (hw : 6 ≤ width) (T : Tab t) (hl : ∀ x ∈ text, isLetter x = true ∨ x = 32) : paragraph t width p text = (parR t width p text).map marks ∧ ∀ x ∈ parR t width p text, GL x := by
  have h : ∀ wd ∈ parts 32 text, (∀ e ∈ entriesOf t wd, 1 ≤ e.cells.length ∧ e.cells.length ≤ 6) ∧ (wd ≠ [] → entriesOf t wd ≠ []) := fun wd hwd => by
    have hlw : ∀ x ∈ wd, isLetter x = true := fun x hx => by
      have := mem_parts text wd hwd x hx
      exact (hl x this.1).resolve_right this.2
    have := row_entries T hlw
    refine ⟨fun e he => ?_, fun hz z => ?_⟩
    · have g := good_iff.mp (T.good e (this.2.2.1 e he))
      exact ⟨g.2.2.1, g.2.2.2.1⟩
    · have e2 := this.2.2.2
      rw [z] at e2
      exact hz e2.symm
  have := par_step (t := t) hw (parts 32 text) p ([], []) h .nil fun x hx => by cases hx
  unfold paragraph parR
  dsimp only
  have e : (([] : List (List Rec)).map marks, marks []) = (([], []) : List Line × Line) := rfl
  rw [e] at this
  rw [this.1]
  refine ⟨by rw [List.map_append]; rfl, fun x hx => ?_⟩
  rcases List.mem_append.mp hx with hx | hx
  · exact this.2.2 x hx
  · rw [List.mem_singleton.mp hx]
    exact this.2.1
def bookR (t : Table) (width : Nat) (text : List Nat) : List (List Rec) := (sited 0 (parts 10 text)).flatMap fun x => parR t width x.1 x.2
theorem paragraphs_book {t : Table} {width : Nat} (hw : 6 ≤ width) (T : Tab t) : ∀ (l : List (List Nat)) (p : Nat), (∀ text ∈ l, ∀ x ∈ text, isLetter x = true ∨ x = 32) →
    paragraphs t width p l = ((sited p l).flatMap fun x => parR t width x.1 x.2).map marks ∧ ∀ y ∈ (sited p l).flatMap fun x => parR t width x.1 x.2, GL y
  | [], _, _ => ⟨rfl, fun y hy => by cases hy⟩
  | x :: l, p, h => by
    have h1 := paragraph_parR (t := t) (p := p) hw T (h x (List.mem_cons_self ..))
    have ih := paragraphs_book hw T l (p + x.length + 1) fun y hy => h y (List.mem_cons_of_mem _ hy)
    show paragraph t width p x ++ paragraphs t width (p + x.length + 1) l = ((parR t width p x) ++ ((sited (p + x.length + 1) l).flatMap fun x => parR t width x.1 x.2)).map marks ∧ _
    rw [h1.1, ih.1, List.map_append]
    refine ⟨rfl, fun y hy => ?_⟩
    rcases List.mem_append.mp (show y ∈ (parR t width p x) ++ ((sited (p + x.length + 1) l).flatMap fun x => parR t width x.1 x.2) from hy) with hy | hy
    · exact h1.2 y hy
    · exact ih.2 y hy
theorem lay_book {t : Table} {width : Nat} {text : List Nat} (hw : 6 ≤ width) (T : Tab t) (hl : ∀ x ∈ text, isLetter x = true ∨ x = 32 ∨ x = 10) : lay t width text = (bookR t width text).map marks ∧ ∀ y ∈ bookR t width text, GL y := by
  refine paragraphs_book hw T (parts 10 text) 0 fun p hp x hx => ?_
  have := mem_parts text p hp x hx
  rcases hl x this.1 with h | h | h
  · exact .inl h
  · exact .inr h
  · exact absurd h this.2
end Fc

/-! Fc: touched and found. What the specification says of marks, in the words of records. -/
set_option Elab.async false
namespace Fc
open Km344

/-! ### touch: the record whose cells are there -/
def covC (c : Nat) (x : Rec) : Bool := decide (x.2.2 ≤ c) && decide (c < x.2.2 + x.2.1.cells.length)
theorem GL.ends {l : List Rec} (g : GL l) : ∀ x ∈ l, x.2.2 + x.2.1.cells.length ≤ (marks l).length := by
  induction g with
  | nil => intro x hx; cases hx
  | @snoc l y h hc h1 ih =>
    intro x hx
    rw [marks_snoc_length hc]
    rcases List.mem_append.mp hx with hx | hx
    · have := ih x hx
      rcases hc with hc | ⟨_, hc⟩ <;> omega
    · rw [List.mem_singleton.mp hx]
      exact Nat.le_refl _
theorem mark_at {l : List Rec} (g : GL l) (c : Nat) : ((marks l)[c]?).bind Prod.snd = (l.find? (covC c)).map Prod.fst := by
  induction g with
  | nil => rfl
  | @snoc l y h hc h1 ih =>
    have hl := pend_length hc
    rw [marks_snoc, List.find?_append]
    by_cases hcl : c < y.2.2
    · -- ahead of the last record
      have hy : ([y].find? (covC c)) = none := by
        rw [List.find?_cons]
        have : covC c y = false := by
          unfold covC
          rw [decide_eq_false (by omega : ¬ y.2.2 ≤ c), Bool.false_and]
        rw [this]
        rfl
      rw [hy, List.getElem?_append_left (by rw [hl]; exact hcl), Option.or_none, ← ih]
      unfold pend
      by_cases hcm : c < (marks l).length
      · rw [List.getElem?_append_left hcm]
      · have e2 : (marks l)[c]? = none := List.getElem?_eq_none (by omega)
        rw [List.getElem?_append_right (by omega), e2]
        rcases hc with hc | ⟨_, hc⟩
        · rw [if_pos hc]
          rfl
        · rw [if_neg (by omega), show c - (marks l).length = 0 by omega]
          rfl
    · have hno : l.find? (covC c) = none := by
        rw [List.find?_eq_none]
        intro x hx
        have := h.ends x hx
        unfold covC
        rw [Bool.and_eq_true, decide_eq_true_eq, decide_eq_true_eq]
        rcases hc with hc | ⟨_, hc⟩ <;> omega
      rw [hno, Option.none_or, List.getElem?_append_right (by omega), hl, List.find?_cons]
      unfold rcells
      rw [List.getElem?_map]
      by_cases hin : c < y.2.2 + y.2.1.cells.length
      · have : covC c y = true := by
          unfold covC
          rw [decide_eq_true (by omega : y.2.2 ≤ c), decide_eq_true hin]
          rfl
        rw [this, List.getElem?_eq_getElem (by omega)]
        rfl
      · have : covC c y = false := by
          unfold covC
          rw [decide_eq_false hin, Bool.and_false]
        rw [this, List.getElem?_eq_none (by omega)]
        rfl

/-! ### the records of a book, in the text's order -/
def proj (x : Rec) : Nat × Entry := (x.1, x.2.1)
theorem steps_proj {width : Nat} : ∀ (us : List (Nat × Entry)) (s : LS), (((us.foldl (stepC width) s).1 ++ [(us.foldl (stepC width) s).2.1]).flatten).map proj = ((s.1 ++ [s.2.1]).flatten).map proj ++ us
  | [], s => by simp
  | x :: us, s => by
    rw [List.foldl_cons, steps_proj us]
    have : (((stepC width s x).1 ++ [(stepC width s x).2.1]).flatten).map proj = ((s.1 ++ [s.2.1]).flatten).map proj ++ [x] := by
      unfold stepC
      split
      · simp [proj]
      · simp [proj]
    rw [this, List.append_assoc]
    rfl
theorem begun_proj {width n : Nat} {done : List (List Rec)} {cur : List Rec} : (((begun width n done cur).1 ++ [(begun width n done cur).2.1]).flatten).map proj = ((done ++ [cur]).flatten).map proj := by
  unfold begun
  split
  · simp
  · rfl
theorem layW_proj {width p : Nat} {es : List Entry} {done : List (List Rec)} {cur : List Rec} : (((layW width p es done cur).1 ++ [(layW width p es done cur).2.1]).flatten).map proj = ((done ++ [cur]).flatten).map proj ++ placed p es := by
  unfold layW
  rw [steps_proj, begun_proj]
theorem layP_proj {t : Table} {width : Nat} : ∀ (l : List (Nat × List Nat)) (s : List (List Rec) × List Rec), (((l.foldl (layP t width) s).1 ++ [(l.foldl (layP t width) s).2]).flatten).map proj = ((s.1 ++ [s.2]).flatten).map proj ++ l.flatMap fun x => placed x.1 (entriesOf t x.2)
  | [], s => by simp
  | x :: l, s => by
    rw [List.foldl_cons, layP_proj l, List.flatMap_cons, ← List.append_assoc]
    congr 1
    unfold layP
    split
    · rename_i h
      rw [h]
      have : entriesOf t [] = [] := rfl
      rw [this]
      show _ = _ ++ []
      rw [List.append_nil]
    · exact layW_proj
def parP (t : Table) (p : Nat) (text : List Nat) : List (Nat × Entry) := (sited p (parts 32 text)).flatMap fun x => placed x.1 (entriesOf t x.2)
def bookP (t : Table) (text : List Nat) : List (Nat × Entry) := (sited 0 (parts 10 text)).flatMap fun x => parP t x.1 x.2
theorem parR_proj {t : Table} {width p : Nat} {text : List Nat} : ((parR t width p text).flatten).map proj = parP t p text := by
  unfold parR parP
  dsimp only
  rw [layP_proj]
  simp
theorem bookR_proj {t : Table} {width : Nat} {text : List Nat} : ((bookR t width text).flatten).map proj = bookP t text := by
  unfold bookR bookP
  induction sited 0 (parts 10 text) with
  | nil => rfl
  | cons x l ih =>
    rw [List.flatMap_cons, List.flatten_append, List.map_append, ih, List.flatMap_cons, parR_proj]

/-! ### they lie on the text's letters just so -/
/-- B lies on the letters of l, which stands at p -/
structure Cov (B : List (Nat × Entry)) (p : Nat) (l : List Nat) : Prop where
  lo : ∀ x ∈ B, p ≤ x.1 ∧ x.1 + x.2.text.length ≤ p + l.length ∧ 1 ≤ x.2.text.length
  ord : B.Pairwise fun a b => a.1 + a.2.text.length ≤ b.1
  on : ∀ i, (∃ x ∈ B, x.1 ≤ i ∧ i < x.1 + x.2.text.length) ↔ p ≤ i ∧ i < p + l.length ∧ isLetter (l.getD (i - p) 0) = true
theorem cov_placed {t : Table} (T : Tab t) : ∀ (es : List Entry) (p : Nat), (∀ e ∈ es, e ∈ t) → Cov (placed p es) p (es.flatMap Entry.text)
  | [], p, _ => ⟨(fun x hx => by cases hx), List.Pairwise.nil, fun i => ⟨(fun ⟨x, hx, _⟩ => by cases hx), (fun ⟨h1, h2, _⟩ => by simp at h2; omega)⟩⟩
  | e :: es, p, h => by
    have ih := cov_placed T es (p + e.text.length) fun x hx => h x (List.mem_cons_of_mem _ hx)
    have g := good_iff.mp (T.good e (h e (List.mem_cons_self ..)))
    have hp : placed p (e :: es) = (p, e) :: placed (p + e.text.length) es := rfl
    rw [hp, List.flatMap_cons]
    refine ⟨fun x hx => ?_, ?_, fun i => ?_⟩
    · rw [List.length_append]
      rcases List.mem_cons.mp hx with rfl | hx
      · exact ⟨Nat.le_refl _, by dsimp only; omega, g.1⟩
      · have := ih.lo x hx
        omega
    · exact List.pairwise_cons.mpr ⟨fun x hx => (ih.lo x hx).1, ih.ord⟩
    · rw [List.length_append]
      constructor
      · rintro ⟨x, hx, h1, h2⟩
        rcases List.mem_cons.mp hx with rfl | hx
        · dsimp only at h1 h2
          refine ⟨h1, by omega, ?_⟩
          rw [List.getD_eq_getElem?_getD, List.getElem?_append_left (by omega)]
          have hlt : i - p < e.text.length := by omega
          rw [List.getElem?_eq_getElem hlt]
          exact g.2.2.2.2.1 _ (List.getElem_mem hlt)
        · have := (ih.on i).mp ⟨x, hx, h1, h2⟩
          refine ⟨by omega, by omega, ?_⟩
          rw [List.getD_eq_getElem?_getD, List.getElem?_append_right (by omega), show i - p - e.text.length = i - (p + e.text.length) by omega, ← List.getD_eq_getElem?_getD]
          exact this.2.2
      · rintro ⟨h1, h2, h3⟩
        by_cases hi : i < p + e.text.length
        · exact ⟨(p, e), List.mem_cons_self .., h1, hi⟩
        · rw [List.getD_eq_getElem?_getD, List.getElem?_append_right (by omega), show i - p - e.text.length = i - (p + e.text.length) by omega, ← List.getD_eq_getElem?_getD] at h3
          obtain ⟨x, hx, h4⟩ := (ih.on i).mpr ⟨by omega, by omega, h3⟩
          exact ⟨x, List.mem_cons_of_mem _ hx, h4⟩
theorem cov_join {b : Nat} (hb : isLetter b = false) {f : Nat → List Nat → List (Nat × Entry)} : ∀ (ps : List (List Nat)) (p : Nat), ps ≠ [] → (∀ w ∈ ps, ∀ q, Cov (f q w) q w) → Cov ((sited p ps).flatMap fun x => f x.1 x.2) p (joined b ps)
  | [], _, h, _ => absurd rfl h
  | [w], p, _, h => by
    have := h w (List.mem_cons_self ..) p
    show Cov (f p w ++ []) p w
    rw [List.append_nil]
    exact this
  | w :: v :: ps, p, _, h => by
    have ih := cov_join hb (v :: ps) (p + w.length + 1) (by simp) fun x hx => h x (List.mem_cons_of_mem _ hx)
    have hw := h w (List.mem_cons_self ..) p
    have e1 : ((sited p (w :: v :: ps)).flatMap fun x => f x.1 x.2) = f p w ++ ((sited (p + w.length + 1) (v :: ps)).flatMap fun x => f x.1 x.2) := rfl
    have e2 : joined b (w :: v :: ps) = w ++ b :: joined b (v :: ps) := rfl
    rw [e1, e2]
    have hl : (w ++ b :: joined b (v :: ps)).length = w.length + 1 + (joined b (v :: ps)).length := by
      rw [List.length_append, List.length_cons]
      omega
    refine ⟨fun x hx => ?_, ?_, fun i => ?_⟩
    · rw [hl]
      rcases List.mem_append.mp hx with hx | hx
      · have := hw.lo x hx
        omega
      · have := ih.lo x hx
        omega
    · refine List.pairwise_append.mpr ⟨hw.ord, ih.ord, fun x hx y hy => ?_⟩
      have h1 := hw.lo x hx
      have h2 := ih.lo y hy
      omega
    · rw [hl]
      constructor
      · rintro ⟨x, hx, h1, h2⟩
        rcases List.mem_append.mp hx with hx | hx
        · have := (hw.on i).mp ⟨x, hx, h1, h2⟩
          refine ⟨this.1, by omega, ?_⟩
          rw [List.getD_eq_getElem?_getD, List.getElem?_append_left (by omega), ← List.getD_eq_getElem?_getD]
          exact this.2.2
        · have := (ih.on i).mp ⟨x, hx, h1, h2⟩
          refine ⟨by omega, by omega, ?_⟩
          rw [List.getD_eq_getElem?_getD, List.getElem?_append_right (by omega), show i - p - w.length = (i - (p + w.length + 1)) + 1 by omega, List.getElem?_cons_succ, ← List.getD_eq_getElem?_getD]
          exact this.2.2
      · rintro ⟨h1, h2, h3⟩
        by_cases hi : i < p + w.length
        · rw [List.getD_eq_getElem?_getD, List.getElem?_append_left (by omega), ← List.getD_eq_getElem?_getD] at h3
          obtain ⟨x, hx, h4⟩ := (hw.on i).mpr ⟨h1, hi, h3⟩
          exact ⟨x, List.mem_append_left _ hx, h4⟩
        · by_cases hm : i = p + w.length
          · rw [List.getD_eq_getElem?_getD, List.getElem?_append_right (by omega), show i - p - w.length = 0 by omega, List.getElem?_cons_zero] at h3
            rw [show (some b).getD 0 = b from rfl, hb] at h3
            cases h3
          · rw [List.getD_eq_getElem?_getD, List.getElem?_append_right (by omega), show i - p - w.length = (i - (p + w.length + 1)) + 1 by omega, List.getElem?_cons_succ, ← List.getD_eq_getElem?_getD] at h3
            obtain ⟨x, hx, h4⟩ := (ih.on i).mpr ⟨by omega, by omega, h3⟩
            exact ⟨x, List.mem_append_right _ hx, h4⟩
theorem joined_cons {b : Nat} (x : Nat) : ∀ (p : List Nat) (r : List (List Nat)), joined b ((x :: p) :: r) = x :: joined b (p :: r)
  | _, [] => rfl
  | _, _ :: _ => rfl
theorem joined_parts {b : Nat} : ∀ (l : List Nat), joined b (parts b l) = l
  | [] => rfl
  | x :: l => by
    have ih := joined_parts (b := b) l
    by_cases hx : x = b
    · subst hx
      rw [parts_mark]
      cases h : parts x l with
      | nil => exact absurd h (parts_ne l)
      | cons p r =>
        rw [h] at ih
        show [] ++ x :: joined x (p :: r) = x :: l
        rw [ih]
        rfl
    · obtain ⟨p, r, h1, h2⟩ := parts_other (b := b) l hx
      rw [h2, joined_cons, ← h1, ih]
theorem cov_par {t : Table} (T : Tab t) {text : List Nat} (hl : ∀ x ∈ text, isLetter x = true ∨ x = 32) (p : Nat) : Cov (parP t p text) p text := by
  have := cov_join (b := 32) (by decide) (f := fun q w => placed q (entriesOf t w)) (parts 32 text) p (parts_ne _) fun w hw q => by
    have hlw : ∀ x ∈ w, isLetter x = true := fun x hx => by
      have := mem_parts text w hw x hx
      exact (hl x this.1).resolve_right this.2
    have e := row_entries T hlw
    have := cov_placed T (entriesOf t w) q e.2.2.1
    rw [e.2.2.2] at this
    exact this
  rw [joined_parts] at this
  exact this
theorem cov_book {t : Table} (T : Tab t) {text : List Nat} (hl : ∀ x ∈ text, isLetter x = true ∨ x = 32 ∨ x = 10) : Cov (bookP t text) 0 text := by
  have := cov_join (b := 10) (by decide) (f := fun q w => parP t q w) (parts 10 text) 0 (parts_ne _) fun w hw q => cov_par T (fun x hx => by
    have := mem_parts text w hw x hx
    rcases hl x this.1 with h | h | h
    · exact .inl h
    · exact .inr h
    · exact absurd h this.2) q
  rw [joined_parts] at this
  exact this
end Fc

/-! Fc: a letter's entry found again, from the specification's side. -/
set_option Elab.async false
namespace Fc
open Km344

/-- the cells of a line's records stand apart -/
theorem GL.apart {l : List Rec} (g : GL l) : l.Pairwise fun a b => a.2.2 + a.2.1.cells.length ≤ b.2.2 := by
  induction g with
  | nil => exact List.Pairwise.nil
  | @snoc l y h hc h1 ih =>
    refine List.pairwise_append.mpr ⟨ih, List.pairwise_singleton .., fun a ha b hb => ?_⟩
    rw [List.mem_singleton.mp hb]
    have := h.ends a ha
    rcases hc with hc | ⟨_, hc⟩ <;> omega
theorem GL.full {l : List Rec} (g : GL l) : ∀ x ∈ l, 1 ≤ x.2.1.cells.length := by
  induction g with
  | nil => intro x hx; cases hx
  | @snoc l y h hc h1 ih =>
    intro x hx
    rcases List.mem_append.mp hx with hx | hx
    · exact ih x hx
    · rw [List.mem_singleton.mp hx]
      exact h1
/-- of a list that is apart, only one thing is at a spot -/
theorem apart_one {α : Type} {lo hi : α → Nat} : ∀ {l : List α}, (l.Pairwise fun a b => hi a ≤ lo b) → ∀ x ∈ l, ∀ y ∈ l, ∀ i, lo x ≤ i → i < hi x → lo y ≤ i → i < hi y → x = y
  | [], _, x, hx, _, _, _, _, _, _, _ => by cases hx
  | a :: l, h, x, hx, y, hy, i, h1, h2, h3, h4 => by
    rw [List.pairwise_cons] at h
    rcases List.mem_cons.mp hx with e1 | hx' <;> rcases List.mem_cons.mp hy with e2 | hy'
    · rw [e1, e2]
    · subst e1
      have := h.1 y hy'
      omega
    · subst e2
      have := h.1 x hx'
      omega
    · exact apart_one h.2 x hx' y hy' i h1 h2 h3 h4
theorem first_at {α : Type} {f : Nat → Option α} {v : α} {n i : Nat} (h1 : ∀ c, c < i → f c = none) (h2 : f i = some v) (h3 : i < n) : (List.range n).findSome? f = some v := by
  have e : List.range n = List.range i ++ (List.range' i (n - i)) := by
    have := List.range'_append_1 (s := 0) (m := i) (n := n - i)
    rw [Nat.zero_add, show i + (n - i) = n by omega] at this
    rw [List.range_eq_range', List.range_eq_range', this]
  have h0 : (List.range i).findSome? f = none := by
    rw [List.findSome?_eq_none_iff]
    intro c hc
    exact h1 c (List.mem_range.mp hc)
  rw [e, List.findSome?_append, h0, Option.none_or]
  have e2 : List.range' i (n - i) = i :: List.range' (i + 1) (n - i - 1) := by
    rw [show n - i = (n - i - 1) + 1 by omega, List.range'_succ]
    congr 1
  rw [e2, List.findSome?_cons, h2]
/-- the mark at a cell, as whereIs looks at it -/
def lookAt (q k : Nat) (l : Line) (c : Nat) : Option (Nat × Nat) := match (l.getD c (0, none)).2 with
  | none => none
  | some q' => if q' = q then some (k, c) else none
theorem look_mark {l : List Rec} (g : GL l) (q k c : Nat) : lookAt q k (marks l) c = match l.find? (covC c) with
    | none => none
    | some x => if x.1 = q then some (k, c) else none := by
  have h := mark_at g c
  unfold lookAt
  rw [List.getD_eq_getElem?_getD]
  cases h1 : (marks l)[c]? with
  | none =>
    rw [h1] at h
    cases h2 : l.find? (covC c) with
    | none => rfl
    | some x =>
      rw [h2] at h
      cases h
  | some m =>
    rw [h1] at h
    obtain ⟨v, o⟩ := m
    change o = _ at h
    subst h
    cases h2 : l.find? (covC c) with
    | none => rfl
    | some x => rfl
theorem cov_is {c : Nat} {x : Rec} : covC c x = true ↔ x.2.2 ≤ c ∧ c < x.2.2 + x.2.1.cells.length := by
  unfold covC
  rw [Bool.and_eq_true, decide_eq_true_eq, decide_eq_true_eq]
theorem look_none {l : List Rec} (g : GL l) {q : Nat} (k : Nat) (h : ∀ x ∈ l, x.1 ≠ q) (n : Nat) : (List.range n).findSome? (lookAt q k (marks l)) = none := by
  rw [List.findSome?_eq_none_iff]
  intro c _
  rw [look_mark g]
  cases h2 : l.find? (covC c) with
  | none => rfl
  | some x => exact if_neg (h x (List.mem_of_find?_eq_some h2))
theorem look_some {l : List Rec} (g : GL l) {q : Nat} (k : Nat) {x : Rec} (hx : x ∈ l) (hq : x.1 = q) (h : ∀ y ∈ l, y.1 = q → y = x) : (List.range (marks l).length).findSome? (lookAt q k (marks l)) = some (k, x.2.2) := by
  have h1 := g.full x hx
  have h2 := g.ends x hx
  refine first_at (i := x.2.2) (fun c hc => ?_) ?_ (by omega)
  · rw [look_mark g]
    cases h3 : l.find? (covC c) with
    | none => rfl
    | some y =>
      refine if_neg fun hy => ?_
      have e := h y (List.mem_of_find?_eq_some h3) hy
      have := cov_is.mp (List.find?_some h3)
      subst e
      omega
  · rw [look_mark g]
    cases h3 : l.find? (covC x.2.2) with
    | none =>
      rw [List.find?_eq_none] at h3
      exact absurd (cov_is.mpr ⟨Nat.le_refl _, by omega⟩) (h3 x hx)
    | some y =>
      have e := cov_is.mp (List.find?_some h3)
      have e2 : y = x := apart_one (lo := fun a : Rec => a.2.2) (hi := fun a : Rec => a.2.2 + a.2.1.cells.length) g.apart y (List.mem_of_find?_eq_some h3) x hx x.2.2 e.1 e.2 (Nat.le_refl _) (by omega)
      subst e2
      exact if_pos hq

/-! ### the whole book -/
/-- L is the book that the specification lays -/
structure Bk (s : Abs) (L : List (List Rec)) : Prop where
  lines : s.lines = L.map marks
  gl : ∀ l ∈ L, GL l
  ok : Cov (L.flatten.map proj) 0 s.text
theorem Bk.blank {t : Table} {w : Nat} : Bk ⟨t, w, [], []⟩ [] := ⟨rfl, (fun l hl => by cases hl), ⟨(fun x hx => by cases hx), List.Pairwise.nil, fun i => ⟨(fun ⟨x, hx, _⟩ => by cases hx), (fun ⟨_, h2, _⟩ => by simp at h2)⟩⟩⟩
theorem Bk.laid {t : Table} (T : Tab t) {w : Nat} {text : List Nat} (hl : ∀ x ∈ text, isLetter x = true ∨ x = 32 ∨ x = 10) (hw : lay t w text = (bookR t w text).map marks ∧ ∀ l ∈ bookR t w text, GL l) : Bk ⟨t, w, text, lay t w text⟩ (bookR t w text) :=
  ⟨hw.1, hw.2, by rw [bookR_proj]; exact cov_book T hl⟩
/-- places of records go up -/
theorem Bk.up {s : Abs} {L : List (List Rec)} (h : Bk s L) : L.flatten.Pairwise fun a b => a.1 + a.2.1.text.length ≤ b.1 := by
  have := h.ok.ord
  rw [List.pairwise_map] at this
  exact this
theorem Bk.pos {s : Abs} {L : List (List Rec)} (h : Bk s L) : ∀ x ∈ L.flatten, x.1 + x.2.1.text.length ≤ s.text.length ∧ 1 ≤ x.2.1.text.length := fun x hx => by
  have := h.ok.lo (proj x) (List.mem_map_of_mem hx)
  have e1 : (proj x).1 = x.1 := rfl
  have e2 : (proj x).2 = x.2.1 := rfl
  rw [e1, e2] at this
  omega
theorem Bk.on {s : Abs} {L : List (List Rec)} (h : Bk s L) (i : Nat) : (∃ x ∈ L.flatten, x.1 ≤ i ∧ i < x.1 + x.2.1.text.length) ↔ isLetter (s.text.getD i 0) = true := by
  have := h.ok.on i
  constructor
  · rintro ⟨x, hx, h1, h2⟩
    exact (this.mp ⟨proj x, List.mem_map_of_mem hx, h1, h2⟩).2.2
  · intro h3
    have hlt : i < 0 + s.text.length := by
      rcases Nat.lt_or_ge i s.text.length with h4 | h4
      · omega
      · rw [List.getD_eq_getElem?_getD, List.getElem?_eq_none h4] at h3
        cases h3
    obtain ⟨y, hy, h1, h2⟩ := this.mpr ⟨Nat.zero_le _, hlt, h3⟩
    obtain ⟨x, hx, rfl⟩ := List.mem_map.mp hy
    exact ⟨x, hx, h1, h2⟩
theorem Bk.one {s : Abs} {L : List (List Rec)} (h : Bk s L) : ∀ x ∈ L.flatten, ∀ y ∈ L.flatten, x.1 = y.1 → x = y := fun x hx y hy e => by
  have h1 := h.pos x hx
  have h2 := h.pos y hy
  exact apart_one (lo := fun a : Rec => a.1) (hi := fun a : Rec => a.1 + a.2.1.text.length) h.up x hx y hy x.1 (Nat.le_refl _) (by omega) (by omega) (by omega)

/-! ### the entry's first letter -/
def firstF (p : Nat) (b : Option Nat) (q : Nat) : Option Nat := if q ≤ p ∧ (b.getD 0 ≤ q ∨ b = none) then some q else b
theorem first_fold {p : Nat} : ∀ (l : List Nat) (b : Option Nat), (∀ m, b = some m → m ≤ p) →
    (∀ m, l.foldl (firstF p) b = some m → m ≤ p ∧ (m ∈ l ∨ b = some m)) ∧
    (∀ m, b = some m → ∃ r, l.foldl (firstF p) b = some r ∧ m ≤ r) ∧
    (∀ q ∈ l, q ≤ p → ∃ r, l.foldl (firstF p) b = some r ∧ q ≤ r)
  | [], b, hb => ⟨fun m h => ⟨hb m h, .inr h⟩, fun m h => ⟨m, h, Nat.le_refl _⟩, fun q hq => by cases hq⟩
  | x :: l, b, hb => by
    have hx : ∀ m, firstF p b x = some m → m ≤ p := by
      intro m h
      unfold firstF at h
      split at h
      · next h1 =>
        cases h
        exact h1.1
      · exact hb m h
    obtain ⟨i1, i2, i3⟩ := first_fold l (firstF p b x) hx
    rw [List.foldl_cons]
    refine ⟨fun m h => ?_, fun m h => ?_, fun q hq hqp => ?_⟩
    · have := i1 m h
      refine ⟨this.1, ?_⟩
      rcases this.2 with h2 | h2
      · exact .inl (List.mem_cons_of_mem _ h2)
      · unfold firstF at h2
        split at h2
        · cases h2
          exact .inl (List.mem_cons_self ..)
        · exact .inr h2
    · subst h
      have : ∃ r, firstF p (some m) x = some r ∧ m ≤ r := by
        unfold firstF
        split
        · next h1 =>
          refine ⟨x, rfl, ?_⟩
          rcases h1.2 with h2 | h2
          · exact h2
          · cases h2
        · exact ⟨m, rfl, Nat.le_refl _⟩
      obtain ⟨r, h1, h2⟩ := this
      obtain ⟨r2, h3, h4⟩ := i2 r h1
      exact ⟨r2, h3, Nat.le_trans h2 h4⟩
    · rcases List.mem_cons.mp hq with rfl | hq
      · have : ∃ r, firstF p b q = some r ∧ q ≤ r := by
          unfold firstF
          split
          · exact ⟨q, rfl, Nat.le_refl _⟩
          · next h1 =>
            cases b with
            | none => exact absurd ⟨hqp, .inr rfl⟩ h1
            | some m =>
              refine ⟨m, rfl, ?_⟩
              rcases Nat.lt_or_ge m q with h2 | h2
              · exact absurd ⟨hqp, .inl (Nat.le_of_lt h2)⟩ h1
              · exact h2
        obtain ⟨r, h1, h2⟩ := this
        obtain ⟨r2, h3, h4⟩ := i2 r h1
        exact ⟨r2, h3, Nat.le_trans h2 h4⟩
      · exact i3 q hq hqp
theorem pend_places (l : Line) (c : Nat) : (pend l c).filterMap Prod.snd = l.filterMap Prod.snd := by
  unfold pend
  rw [List.filterMap_append]
  split <;> exact List.append_nil _
theorem mem_places {l : List Rec} (g : GL l) (q : Nat) : q ∈ (marks l).filterMap Prod.snd ↔ ∃ x ∈ l, x.1 = q := by
  induction g with
  | nil => simp [marks_nil]
  | @snoc l y h hc h1 ih =>
    rw [marks_snoc, List.filterMap_append, pend_places, List.mem_append, ih]
    have e : q ∈ (rcells y).filterMap Prod.snd ↔ y.1 = q := by
      unfold rcells
      rw [List.mem_filterMap]
      constructor
      · rintro ⟨m, hm, h2⟩
        obtain ⟨c, _, rfl⟩ := List.mem_map.mp hm
        cases h2
        rfl
      · intro h2
        cases hc2 : y.2.1.cells with
        | nil =>
          rw [hc2] at h1
          simp at h1
        | cons c cs => exact ⟨(c, some y.1), List.mem_map_of_mem (List.mem_cons_self ..), by rw [← h2]⟩
    rw [e]
    constructor
    · rintro (⟨x, hx, h2⟩ | h2)
      · exact ⟨x, List.mem_append_left _ hx, h2⟩
      · exact ⟨y, List.mem_append_right _ (List.mem_singleton.mpr rfl), h2⟩
    · rintro ⟨x, hx, h2⟩
      rcases List.mem_append.mp hx with hx | hx
      · exact .inl ⟨x, hx, h2⟩
      · rw [List.mem_singleton.mp hx] at h2
        exact .inr h2
theorem Bk.places {s : Abs} {L : List (List Rec)} (h : Bk s L) (q : Nat) : q ∈ s.lines.flatten.filterMap Prod.snd ↔ ∃ x ∈ L.flatten, x.1 = q := by
  rw [h.lines]
  constructor
  · intro hq
    obtain ⟨m, hm, h2⟩ := List.mem_filterMap.mp hq
    obtain ⟨l, hl, hml⟩ := List.mem_flatten.mp hm
    obtain ⟨r, hr, rfl⟩ := List.mem_map.mp hl
    obtain ⟨x, hx, h3⟩ := (mem_places (h.gl r hr) q).mp (List.mem_filterMap.mpr ⟨m, hml, h2⟩)
    exact ⟨x, List.mem_flatten.mpr ⟨r, hr, hx⟩, h3⟩
  · rintro ⟨x, hx, h3⟩
    obtain ⟨r, hr, hxr⟩ := List.mem_flatten.mp hx
    obtain ⟨m, hm, h2⟩ := List.mem_filterMap.mp ((mem_places (h.gl r hr) q).mpr ⟨x, hxr, h3⟩)
    exact List.mem_filterMap.mpr ⟨m, List.mem_flatten.mpr ⟨_, List.mem_map_of_mem hr, hm⟩, h2⟩
theorem Bk.first {s : Abs} {L : List (List Rec)} (h : Bk s L) {x : Rec} (hx : x ∈ L.flatten) {p : Nat} (h1 : x.1 ≤ p) (h2 : p < x.1 + x.2.1.text.length) : s.firstOf p = some x.1 := by
  obtain ⟨i1, _, i3⟩ := first_fold (p := p) (s.lines.flatten.filterMap Prod.snd) none (fun m e => by cases e)
  obtain ⟨r, hr, hle⟩ := i3 x.1 ((h.places x.1).mpr ⟨x, hx, rfl⟩) h1
  have e : s.firstOf p = some r := hr
  rw [e]
  obtain ⟨h3, h4⟩ := i1 r hr
  obtain ⟨y, hy, h5⟩ := (h.places r).mp (h4.resolve_right fun e => by cases e)
  by_cases hlt : x.1 = r
  · rw [hlt]
  · -- y begins behind x, but inside of x
    have hp := h.pos y hy
    have := apart_one (lo := fun a : Rec => a.1) (hi := fun a : Rec => a.1 + a.2.1.text.length) h.up x hx y hy y.1 (by omega) (by omega) (Nat.le_refl _) (by omega)
    rw [this, h5]
theorem Bk.whereIs {s : Abs} {L : List (List Rec)} (h : Bk s L) {k : Nat} {l : List Rec} (hk : L[k]? = some l) {x : Rec} (hx : x ∈ l) : s.whereIs x.1 = some (k, x.2.2) := by
  have hlt : k < L.length := by
    rcases Nat.lt_or_ge k L.length with h1 | h1
    · exact h1
    · rw [List.getElem?_eq_none h1] at hk
      cases hk
  have hm : ∀ {j : Nat} {r : List Rec}, L[j]? = some r → r ∈ L := fun e => List.mem_of_getElem? e
  have hf : ∀ {r : List Rec}, r ∈ L → ∀ y ∈ r, y ∈ L.flatten := fun hr y hy => List.mem_flatten.mpr ⟨_, hr, hy⟩
  unfold Abs.whereIs
  refine first_at (i := k) (fun c hc => ?_) ?_ (by rw [h.lines, List.length_map]; exact hlt)
  · dsimp only
    obtain ⟨r, hr⟩ : ∃ r, L[c]? = some r := ⟨L[c]'(by omega), List.getElem?_eq_getElem _⟩
    have e : s.lines.getD c [] = marks r := by
      rw [List.getD_eq_getElem?_getD, h.lines, List.getElem?_map, hr]
      rfl
    rw [e]
    refine look_none (h.gl r (hm hr)) c (fun y hy hq => ?_) _
    -- y is in an earlier line
    have hup := h.up
    rw [List.pairwise_flatten] at hup
    have h2 := List.pairwise_iff_getElem.mp hup.2 c k (by omega) hlt hc
    rw [List.getElem?_eq_getElem (by omega)] at hr
    rw [List.getElem?_eq_getElem hlt] at hk
    cases hr
    cases hk
    have h3 := h2 y hy x hx
    have := h.pos y (hf (List.getElem_mem _) y hy)
    omega
  · dsimp only
    have e : s.lines.getD k [] = marks l := by
      rw [List.getD_eq_getElem?_getD, h.lines, List.getElem?_map, hk]
      rfl
    rw [e]
    exact look_some (h.gl l (hm hk)) k hx rfl fun y hy hq => h.one y (hf (hm hk) y hy) x (hf (hm hk) x hx) hq

/-! ### the calls -/
theorem Bk.place_is {s : Abs} {L : List (List Rec)} (h : Bk s L) {k : Nat} {l : List Rec} (hk : L[k]? = some l) {x : Rec} (hx : x ∈ l) {p : Nat} (h1 : x.1 ≤ p) (h2 : p < x.1 + x.2.1.text.length) : act s (.place p) = (s, { value := 0, out := [k, x.2.2] }) := by
  have hf : x ∈ L.flatten := List.mem_flatten.mpr ⟨l, List.mem_of_getElem? hk, hx⟩
  have e := (h.on p).mp ⟨x, hf, h1, h2⟩
  have e3 := h.first hf h1 h2
  unfold act
  dsimp only
  rw [if_neg (by rw [e]; decide), e3, Option.bind_some, h.whereIs hk hx]
theorem Bk.place_no {s : Abs} {L : List (List Rec)} (h : Bk s L) {p : Nat} (hn : ∀ x ∈ L.flatten, ¬ (x.1 ≤ p ∧ p < x.1 + x.2.1.text.length)) : act s (.place p) = (s, only (-2)) := by
  have e : isLetter (s.text.getD p 0) = false := by
    rw [← Bool.not_eq_true, ← h.on p]
    rintro ⟨x, hx, h1⟩
    exact hn x hx h1
  unfold act
  dsimp only
  rw [if_pos e]
theorem Bk.touch_is {s : Abs} {L : List (List Rec)} (h : Bk s L) (k c : Nat) : act s (.touch k c) = (s, match ((L[k]?.getD []).find? (covC c)) with
    | none => only (-2)
    | some x => number x.1) := by
  have e : s.lines.getD k [] = marks (L[k]?.getD []) := by
    rw [List.getD_eq_getElem?_getD, h.lines, List.getElem?_map]
    cases L[k]? <;> rfl
  have g : GL (L[k]?.getD []) := by
    cases e2 : L[k]? with
    | none => exact GL.nil
    | some l => exact h.gl l (List.mem_of_getElem? e2)
  have hm := mark_at g c
  unfold act
  dsimp only
  rw [e, List.getD_eq_getElem?_getD]
  cases h2 : (L[k]?.getD []).find? (covC c) with
  | none =>
    rw [h2] at hm
    cases h1 : (marks (L[k]?.getD []))[c]? with
    | none => rfl
    | some m =>
      rw [h1] at hm
      obtain ⟨v, o⟩ := m
      change o = _ at hm
      subst hm
      rfl
  | some x =>
    rw [h2] at hm
    cases h1 : (marks (L[k]?.getD []))[c]? with
    | none =>
      rw [h1] at hm
      cases hm
    | some m =>
      rw [h1] at hm
      obtain ⟨v, o⟩ := m
      change o = _ at hm
      subst hm
      rfl
theorem Bk.line_is {s : Abs} {L : List (List Rec)} (h : Bk s L) (k : Nat) : act s (.line k) = (s, match L[k]? with
    | none => only (-2)
    | some l => { value := ((marks l).length : Int), out := shown (marks l) }) := by
  unfold act
  dsimp only
  rw [h.lines, List.getElem?_map]
  cases L[k]? <;> rfl
end Fc

/-! Fc: how wide lines are, what's shown of them, where something stands. -/
set_option Elab.async false
namespace Fc
open Km344

/-! ### lines are no wider than the width -/
structure LeW (width : Nat) (s : List Line × Line) : Prop where
  done : ∀ l ∈ s.1, l.length ≤ width
  cur : s.2.length ≤ width
theorem LeW.close {width : Nat} {s : List Line × Line} (h : LeW width s) : ∀ l ∈ s.1 ++ [s.2], l.length ≤ width := fun l hl => by
  rcases List.mem_append.mp hl with hl | hl
  · exact h.done l hl
  · rw [List.mem_singleton.mp hl]
    exact h.cur
theorem fill_le {width : Nat} : ∀ (us : List Line) (done : List Line) (cur : Line), LeW width (done, cur) → (∀ u ∈ us, u.length ≤ width) → LeW width (fill width done cur us)
  | [], _, _, h, _ => h
  | u :: us, done, cur, h, hu => by
    unfold fill
    split
    · next h1 => exact fill_le us done (cur ++ u) ⟨h.done, by show (cur ++ u).length ≤ width; rw [List.length_append]; exact h1⟩ fun v hv => hu v (List.mem_cons_of_mem _ hv)
    · exact fill_le us (done ++ [cur]) u ⟨h.close, hu u (List.mem_cons_self ..)⟩ fun v hv => hu v (List.mem_cons_of_mem _ hv)
theorem units_le {width : Nat} : ∀ (es : List Entry) (p : Nat), (∀ e ∈ es, e.cells.length ≤ width) → ∀ u ∈ units p es, u.length ≤ width
  | [], _, _, u, hu => by cases hu
  | e :: es, p, h, u, hu => by
    rcases List.mem_cons.mp (show u ∈ (e.cells.map fun c => (c, some p)) :: units (p + e.text.length) es from hu) with e1 | hu
    · rw [e1, List.length_map]
      exact h e (List.mem_cons_self ..)
    · exact units_le es _ (fun x hx => h x (List.mem_cons_of_mem _ hx)) u hu
theorem put_le {t : Table} {width : Nat} {s : List Line × Line} {w : Nat × List Nat} (h : LeW width s) (he : ∀ e ∈ entriesOf t w.2, e.cells.length ≤ width) : LeW width (put t width s w) := by
  have hu := units_le (entriesOf t w.2) w.1 he
  unfold put
  dsimp only
  split
  · exact fill_le _ _ _ ⟨h.done, Nat.zero_le _⟩ hu
  · split
    · next h2 =>
      refine ⟨h.done, ?_⟩
      show (s.2 ++ (0, none) :: (units w.1 (entriesOf t w.2)).flatten).length ≤ width
      rw [List.length_append, List.length_cons, List.length_flatten]
      omega
    · exact fill_le _ _ _ ⟨h.close, Nat.zero_le _⟩ hu
theorem puts_le {t : Table} {width : Nat} : ∀ (l : List (Nat × List Nat)) (s : List Line × Line), LeW width s → (∀ w ∈ l, ∀ e ∈ entriesOf t w.2, e.cells.length ≤ width) → LeW width (l.foldl (put t width) s)
  | [], _, h, _ => h
  | w :: l, s, h, he => puts_le l (put t width s w) (put_le h (he w (List.mem_cons_self ..))) fun x hx => he x (List.mem_cons_of_mem _ hx)
theorem mem_words : ∀ (l : List (List Nat)) (p : Nat), ∀ w ∈ words p l, w.2 ∈ l
  | [], _, w, h => by cases h
  | x :: l, p, w, h => by
    rcases List.mem_append.mp (show w ∈ (if x.isEmpty = true then [] else [(p, x)]) ++ words (p + x.length + 1) l from h) with h | h
    · split at h
      · cases h
      · rw [List.mem_singleton.mp h]
        exact List.mem_cons_self ..
    · exact List.mem_cons_of_mem _ (mem_words l _ w h)
theorem paragraph_le {t : Table} {width p : Nat} {text : List Nat} (he : ∀ w ∈ parts 32 text, ∀ e ∈ entriesOf t w, e.cells.length ≤ width) : ∀ l ∈ paragraph t width p text, l.length ≤ width :=
  (puts_le (words p (parts 32 text)) ([], []) ⟨(fun l hl => by cases hl), Nat.zero_le _⟩ fun w hw e h => he w.2 (mem_words _ _ w hw) e h).close
theorem paragraphs_le {t : Table} {width : Nat} : ∀ (ps : List (List Nat)) (p : Nat), (∀ x ∈ ps, ∀ w ∈ parts 32 x, ∀ e ∈ entriesOf t w, e.cells.length ≤ width) → ∀ l ∈ paragraphs t width p ps, l.length ≤ width
  | [], _, _, l, hl => by cases hl
  | x :: ps, p, h, l, hl => by
    rcases List.mem_append.mp (show l ∈ paragraph t width p x ++ paragraphs t width (p + x.length + 1) ps from hl) with hl | hl
    · exact paragraph_le (h x (List.mem_cons_self ..)) l hl
    · exact paragraphs_le ps _ (fun y hy => h y (List.mem_cons_of_mem _ hy)) l hl
theorem lay_le {t : Table} {width : Nat} {text : List Nat} (hw : 6 ≤ width) (T : Tab t) (hl : ∀ x ∈ text, isLetter x = true ∨ x = 32 ∨ x = 10) : ∀ l ∈ lay t width text, l.length ≤ width := by
  refine paragraphs_le (parts 10 text) 0 fun x hx w hwx e he => ?_
  have hlw : ∀ y ∈ w, isLetter y = true := fun y hy => by
    have h1 := mem_parts x w hwx y hy
    have h2 := mem_parts text x hx y h1.1
    rcases hl y h2.1 with h | h | h
    · exact h
    · exact absurd h h1.2
    · exact absurd h h2.2
  have g := good_iff.mp (T.good e ((row_entries T hlw).2.2.1 e he))
  exact Nat.le_trans g.2.2.2.1 hw

/-! ### what's shown of a line -/
/-- a line's cells -/
def lcells (l : List Rec) : List Nat := (marks l).map Prod.fst
theorem lcells_length (l : List Rec) : (lcells l).length = (marks l).length := List.length_map ..
theorem lcells_nil : lcells [] = [] := rfl
theorem lcells_snoc {l : List Rec} {x : Rec} (h : Next l x.2.2) : lcells (l ++ [x]) = lcells l ++ List.replicate (x.2.2 - (lcells l).length) 0 ++ x.2.1.cells := by
  unfold lcells
  rw [List.length_map, marks_snoc, List.map_append]
  have e1 : (rcells x).map Prod.fst = x.2.1.cells := by
    unfold rcells
    rw [List.map_map]
    exact List.map_id' _
  rw [e1]
  congr 1
  unfold pend
  rcases h with h | ⟨_, h⟩
  · rw [if_pos h, List.append_nil, show x.2.2 - (marks l).length = 0 by omega]
    exact (List.append_nil _).symm
  · rw [if_neg (by omega), show x.2.2 - (marks l).length = 1 by omega, List.map_append]
    rfl
theorem lcells_ends {l : List Rec} {x : Rec} (h : Next l x.2.2) : (lcells (l ++ [x])).length = x.2.2 + x.2.1.cells.length := by
  rw [lcells_length]
  exact marks_snoc_length h
theorem GL.last {a : List Rec} {x : Rec} (h : GL (a ++ [x])) : GL a ∧ Next a x.2.2 ∧ 1 ≤ x.2.1.cells.length := by
  generalize e : a ++ [x] = l at h
  cases h with
  | nil => exact absurd e (by simp)
  | @snoc l' y' h hc h1 =>
    have := List.append_inj' e rfl
    rw [this.1]
    injection this.2 with e2
    rw [e2]
    exact ⟨h, hc, h1⟩
/-- a beginning of a line is a line -/
theorem GL.begins : ∀ (b : List Rec) {a : List Rec}, GL (a ++ b) → GL a
  | [], a, h => by rwa [List.append_nil] at h
  | x :: b, a, h => by
    have e : a ++ x :: b = (a ++ [x]) ++ b := by simp
    rw [e] at h
    exact (GL.begins b h).last.1
theorem shown_is {l : List Rec} (h : (marks l).length ≤ 48) : shown (marks l) = lcells l ++ List.replicate (48 - (lcells l).length) 0 := by
  rw [lcells_length]
  unfold shown
  rw [List.take_append, List.take_of_length_le (by rw [List.length_map]; exact h), List.take_replicate, List.length_map]
  show _ ++ List.replicate (min (48 - (marks l).length) 48) 0 = _
  rw [Nat.min_eq_left (by omega)]
  rfl

/-! ### where something stands -/
theorem stands_is {text what : List Nat} {p : Nat} : standsAt text what p = true ↔ (text.drop p).take what.length = what := by
  unfold standsAt
  rw [List.isPrefixOf_iff_prefix, List.prefix_iff_eq_take]
  exact eq_comm
theorem stands_fits {text what : List Nat} {p : Nat} (h : standsAt text what p = true) (h0 : what ≠ []) : p + what.length ≤ text.length := by
  have := congrArg List.length (stands_is.mp h)
  rw [List.length_take, List.length_drop] at this
  have : 1 ≤ what.length := List.length_pos_iff.mpr h0
  omega
theorem found_at {text what : List Nat} {b p : Nat} (h1 : b ≤ p) (h2 : p < text.length) (h3 : standsAt text what p = true) (h4 : ∀ q, b ≤ q → q < p → standsAt text what q = false) :
    ((List.range text.length).find? fun p => decide (b ≤ p) && standsAt text what p) = some p := by
  rw [List.find?_range_eq_some]
  refine ⟨?_, List.mem_range.mpr h2, fun q hq => ?_⟩
  · rw [decide_eq_true h1, h3]
    rfl
  · by_cases hb : b ≤ q
    · rw [h4 q hb hq, Bool.and_false]
      rfl
    · rw [decide_eq_false hb, Bool.false_and]
      rfl
theorem found_no {text what : List Nat} {b : Nat} (h : ∀ q, b ≤ q → q < text.length → standsAt text what q = false) :
    ((List.range text.length).find? fun p => decide (b ≤ p) && standsAt text what p) = none := by
  rw [List.find?_eq_none]
  intro q hq
  by_cases hb : b ≤ q
  · rw [h q hb (List.mem_range.mp hq), Bool.and_false]
    exact Bool.false_ne_true
  · rw [decide_eq_false hb, Bool.false_and]
    exact Bool.false_ne_true
end Fc

set_option Elab.async false
set_option linter.all false
set_option maxRecDepth 100000
set_option maxHeartbeats 2000000
/-! Rules that the layer lacks: list.extend(tuple), enumerate of a list or tuple, slices of a list or tuple, setdefault with tuple keys. -/
namespace FcR
open PySem PySem.Spec PyProof.Rows L2
open AutoSeq1 (wpAny_loadPart')

/-! ### list.extend(tuple) -/
theorem extend_tuple (l : Addr) (items : Array Value) (n : Nat) (b : Addr) (items2 : Array Value) (n2 : Nat) (dct : Option Addr) (sl : Array (Option Value)) (hs0 : ¬(!items.isEmpty && Builtin.List.listTooLong (items.size + items2.size)) = true) (hs1 : items.size ≤ sizeLine) (hs2 : items.size + items2.size ≤ sizeLine + 1) :
    Meets (Builtin.«list.extend» ⟨[.ref l, .ref b], []⟩) (fun _ R s => s.heap.get? l = some { cls := .type "list", dict := none, data := .seq items n, slots := #[] } ∧ s.heap.get? b = some { cls := .type "tuple", dict := dct, data := .seq items2 n2, slots := sl } ∧ R (.ok (.ret Value.none)) { s with heap := s.heap.update l (Obj.mapSeq fun x => x ++ items2), toks := s.toks }) :=
  .of_wp fun prog w A R s h => by
    obtain ⟨hp, g, d, tk, os⟩ := s; obtain ⟨hl, hb, h⟩ := h; have f1 := AutoSeq1.idx_int; have f2 := AutoSeq1.sub_tuple_tuple; have f3 := AutoSeq1.sub_list_list; have f4 := AutoSeq1.sub_tuple_list; have f5 := AutoSeq1.sub_list_tuple;
    have hz' : (items ++ items2).size ≤ sizeLine + 1 := by rw [Array.size_append]; exact hs2
    wp_walk using (wpAny_updateSeq hl rfl (hz := hs1) (_hz' := hz')), wpAny_loadPart' hl, wpAny_loadPart' hb; exact ⟨_, rfl, h⟩
section
variable {X : Cx}
def rExtendT (K : PySem.W.Frag) : V → List V → Hp → VK → Prop := fun x vs H Q => ∃ l b xs zs, x = .ref l ∧ vs = [.ref b] ∧ H l = some (.lst xs) ∧ SqT K H b zs ∧ xs.length + zs.length ≤ sizeLine ∧ Q .non (upd H l (.lst (xs ++ zs)))
theorem mt_extendT : MtM X "list.extend" (rExtendT X.K) := by
  intro pins s σ H x vs v us Q I rx rv h
  obtain ⟨l, b, xs, zs, rfl, rfl, hH, hB, hz, q⟩ := h
  cases rx
  obtain ⟨u, rfl, ru⟩ := rv.one
  cases ru
  obtain ⟨z, its, n, r, hl, e⟩ := I.lstM hH
  obtain ⟨its2, r2, p2, _⟩ := I.tuple hB
  obtain ⟨⟨cls2, dd2, data2, sl2⟩, e2, hc2, n2, hd2⟩ := p2
  simp only at hc2 hd2
  subst hc2 hd2
  have h2 := r2.length
  have hsz : its.toArray.size + its2.toArray.size ≤ sizeLine := by rw [List.size_toArray, List.size_toArray]; omega
  have hlong : ¬ (!its.toArray.isEmpty && Builtin.List.listTooLong (its.toArray.size + its2.toArray.size)) = true := by
    rw [notLongL hsz, Bool.and_false]
    exact Bool.false_ne_true
  refine call_meets F.slot_list_extend ⟨_, e, rfl⟩ F.entry_list_extend (F.args_list_extend_2 _ _)
    (extend_tuple l its.toArray n b its2.toArray n2 dd2 sl2 hlong (by rw [List.size_toArray]; omega) (by omega)) ⟨e, e2, ?_⟩
  refine ⟨.non, _, I.lset (its' := its ++ its2) hH e (by simp) (r.append r2) ?_, rfl, q⟩
  rw [List.length_append]
  omega
end

/-! ### enumerate(tuple) -/
section
variable {prog : Program} {w : World} {A : Around} {E : Value → Shared → Prop} {s : Shared}
theorem draws_tuple {it a : Addr} {items : Array Value} (hh : A.handled = none) (hne : a ≠ it) : Draws prog w A it [it, a] items.size (fun i x => items[i]? = some x) (fun i h => h.IsTupleIter it a i ∧ IsTup h a items) where
  live := fun i h st => let ⟨o, ho, _⟩ := st.1; ⟨o, ho⟩
  frame := fun i h h' st k => by
    obtain ⟨⟨o, ho, r⟩, ⟨o2, ho2, r2⟩⟩ := st
    exact ⟨⟨o, k it (by simp) o ho, r⟩, ⟨o2, k a (by simp) o2 ho2, r2⟩⟩
  item := fun i s Q E hi st hQ => by
    refine RZ.nextOf_tuple_item st.1 st.2 (x := items[i]) (by simp [hi]) fun h' hit hs => ?_
    exact hQ _ h' s.toks (by simp [hi]) ⟨hit, st.2.extBut hs.extBut hne⟩ hs
  done := fun s Q E st hE => RZ.nextOf_tuple_end hh st.1 st.2 (by simp) hE
theorem pyNext_enumT_end {e it l : Addr} {i : Nat} {items : Array Value} {old : Value} {Q : Option Value → Shared → Prop} (hh : A.handled = none)
    (he : IsEnum s.heap e it i old) (hit : s.heap.IsTupleIter it l i) (hl : IsTup s.heap l items) (hx : items[i]? = none)
    (hQ : ∀ h', Heap.ExtBut it s.heap h' → Q none { s with heap := h' }) : wpAny (model prog w) A (pyNext (.ref e)) Q E s := by
  have hT : s.TypeIs (.ref e) "enumerate" := ⟨_, he, rfl⟩
  unfold pyNext
  refine wpAny_bind (wpAny_attempt (wpAny_callSpecial?_slot (name := Str.ofString "__next__") hT F.slot_enumerate_next
    (wpAny_call_entry F.slot_enumerate_next hT F.entry_enumerate_next ?_ (F.args_enumerate_next_1 _))))
  show wpAny _ _ (field (.ref e) 2 >>= _) _ _ _
  refine wpAny_bind (wpAny_field he rfl (x := .ref it) rfl ?_)
  refine wpAny_bind (RZ.nextOf_tuple_end hh hit hl hx fun h' x he' hx' => ?_)
  obtain ⟨o, ho, hc⟩ := hx'
  refine wpAny_bind (wpAny_isInstance (T := "StopIteration") (b := true) ⟨o, ho, hc⟩ isSubtype_stop ?_)
  exact wpAny_pure (hQ _ he')
theorem meets_enumerate_newT (l : Addr) (items : Array Value) (n : Nat) (dct : Option Addr) (sl : Array (Option Value)) :
    Meets (Builtin.«enumerate.__new__» ⟨[.type "enumerate", .ref l], []⟩) (fun _ R s => s.heap.get? l = some { cls := .type "tuple", dict := dct, data := .seq items n, slots := sl } ∧
      R (.ok (.ret (.ref (s.heap.push { cls := .type "tuple_iterator", data := .fields #[.ref l, .int 0 0] }).objs.size)))
        { s with heap := (s.heap.push { cls := .type "tuple_iterator", data := .fields #[.ref l, .int 0 0] }).push { cls := .type "enumerate", data := .fields #[.none, .bool false, .ref s.heap.objs.size, rawInt 0, .none, .none] } }) :=
  .of_wp fun prog w A R s h => by
    obtain ⟨hp, g, d, tk, os⟩ := s; obtain ⟨hl, h⟩ := h
    have hsub := sub_enumerate
    have hL : Heap.IsTuple (Shared.heap ⟨hp, g, d, tk, os⟩) l items := ⟨_, hl, rfl, n, rfl⟩
    wp_walk using wpAny_loadPart' hl
    refine wpAny_stack_any fun st => wpAny_pure ?_
    split
    · rename_i c _ _ _ _ _
      cases (c == Value.type "enumerate")
      · wp_walk using wpAny_loadPart' hl, wpAny_pyIter_tuple hL
        exact ⟨_, rfl, h⟩
      · wp_walk using wpAny_loadPart' hl, wpAny_pyIter_tuple hL
        exact ⟨_, rfl, h⟩
    · wp_walk using wpAny_loadPart' hl, wpAny_pyIter_tuple hL
      exact ⟨_, rfl, h⟩
theorem call_enumerate_tuple {l : Addr} {items : Array Value} {Q : Value → Shared → Prop} (hL : IsTup s.heap l items)
    (h : ∀ h', IsEnum h' (s.heap.objs.size + 1) s.heap.objs.size 0 .none → h'.IsTupleIter s.heap.objs.size l 0 → h'.objs.size = s.heap.objs.size + 2 →
      (∀ b o, s.heap.get? b = some o → h'.get? b = some o) → Q (.ref (s.heap.objs.size + 1)) { s with heap := h' }) :
    wpAny (model prog w) A (call (.type "enumerate") [.ref l]) Q E s := by
  obtain ⟨⟨c, dct, dt, sl⟩, hl, hc, n, hd⟩ := hL
  replace hc : c = .type "tuple" := hc
  replace hd : dt = .seq items n := hd
  subst hc hd
  refine callType_new F.called_enumerate (by decide) (F.typeCall_enumerate_1 _) (F.newCall_enumerate_1 _) (fun obj => F.args_object_init_2 obj _) F.entry_enumerate_new
    (meets_enumerate_newT l items n dct sl) ⟨hl, ?_⟩
  have hz : (s.heap.push { cls := .type "tuple_iterator", data := .fields #[.ref l, .int 0 0] }).objs.size = s.heap.objs.size + 1 := Heap.size_push ..
  show _ ∧ _
  rw [hz]
  have he : IsEnum ((s.heap.push { cls := .type "tuple_iterator", data := .fields #[.ref l, .int 0 0] }).push
      { cls := .type "enumerate", data := .fields #[.none, .bool false, .ref s.heap.objs.size, rawInt 0, .none, .none] }) (s.heap.objs.size + 1) s.heap.objs.size 0 .none := by
    have := Heap.get?_push_size (s.heap.push { cls := .type "tuple_iterator", data := .fields #[.ref l, .int 0 0] })
      (o := { cls := .type "enumerate", data := .fields #[.none, .bool false, .ref s.heap.objs.size, rawInt 0, .none, .none] }) rfl
    rw [hz] at this; exact this
  refine ⟨⟨_, he, rfl⟩, h _ he ⟨_, Heap.get?_push_of_some _ (Heap.get?_push_size _ rfl), rfl, rfl⟩ (by rw [Heap.size_push, hz]) fun b o x => Heap.get?_push_of_some _ (Heap.get?_push_of_some _ x)⟩
end
/-- the tuple at a, each item in a new pair -/
def IteT (K : PySem.W.Frag) (a : Addr) : It :=
  ⟨fun i H => ∃ (xs : List V) (x : V), SqT K H a xs ∧ xs[i]? = some x, fun i H v H' => ∃ T x, v = .ref T ∧ H T = none ∧ H' = upd H T (.tup [.int (i : Nat), x]) ∧ ∀ xs, SqT K H a xs → xs[i]? = some x, fun i H => ∃ xs : List V, SqT K H a xs ∧ xs.length ≤ i⟩
theorem tupIter_at {h h' : Heap} {it a : Addr} {i : Nat} (x : h.IsTupleIter it a i) (k : ∀ o, h.get? it = some o → h'.get? it = some o) : h'.IsTupleIter it a i := let ⟨o, ho, r⟩ := x; ⟨o, k o ho, r⟩
theorem turn_enumT {P : Program} {w : World} {K : PySem.W.Frag} {elts : List Expr} {kk : Nat} {tpos : Pos} (a e it : Addr) :
    Turn P w K (.Tuple elts kk tpos) (IteT K a) [e, it] e (fun i h => (∃ old, IsEnum h e it ((i : Nat) : Int) old) ∧ h.IsTupleIter it a i ∧ e ≠ it ∧ a ≠ it ∧ a ≠ e) where
  mem := by simp
  obj := fun i h st b hb => by
    obtain ⟨⟨old, he⟩, ⟨o, ho, hc, hd⟩, _⟩ := st
    have e' : b = e ∨ b = it := by simpa using hb
    rcases e' with z | z
    · rw [z]; exact ⟨_, he, fun v q => nomatch q⟩
    · rw [z]; exact ⟨o, ho, fun v q => by rw [hd] at q; cases q⟩
  keep := fun i h h' st k => let ⟨⟨old, he⟩, hi, hne⟩ := st; ⟨⟨old, k e (by simp) _ he⟩, tupIter_at hi fun o q => k it (by simp) o q, hne⟩
  item := by
    intro X hP hw hK hc i pins s σ H E I hf st hg
    subst hP hw hK
    obtain ⟨⟨old, he⟩, hit, hne, hai, hae⟩ := st
    obtain ⟨xs, x, hq, hx⟩ := hg
    obtain ⟨its, rv, p, hz⟩ := I.tuple hq
    obtain ⟨u, hu, ru⟩ := rv.get hx
    have hel : e < s.heap.objs.size := Heap.lt_size he
    have hil : it < s.heap.objs.size := by obtain ⟨_, q, _⟩ := hit; exact Heap.lt_size q
    have hi : i < its.toArray.size := by
      obtain ⟨z, _⟩ := List.getElem?_eq_some_iff.mp hu
      simpa using z
    have hd : X.A.in1.handled = none := I.ok.hd hc
    refine wpAny_pyNext_enum_itemD (draws_tuple (A := X.A.in1) hd hai) he ⟨hit, p⟩ hi hne (by simp [hne, hae.symm]) fun x' h' tk hx' ho hit' hT hsz hk => ?_
    have hxe : x' = u := by
      have e1 : its.toArray[i]? = some u := by simpa using hu
      rw [e1] at hx'
      exact (Option.some.inj hx').symm
    subst hxe
    refine ⟨_, rfl, wpAny_letOwnedTupleGo_enum (s := { s with heap := h', toks := tk + 1 }) ho fun h'' he' sb => ?_⟩
    have hT2 : h''.get? s.heap.objs.size = some { cls := .type "tuple", data := .seq #[.int i tk, x'] } := (sb.2 _ (Nat.ne_of_gt hel)).trans hT
    have new : ObjOk X.prog X.w (upd H s.heap.objs.size (.tup [.int (i : Nat), x])) h'' s.heap.objs.size (.tup [.int (i : Nat), x]) :=
      ⟨by show 2 ≤ sizeLine; decide, [.int i tk, x'], .cons ⟨_, rfl⟩ (.cons ru .nil), ⟨_, hT2, rfl, _, rfl⟩⟩
    have I1 : Inv X pins σ (upd H s.heap.objs.size (.tup [.int (i : Nat), x])) { s with heap := h'', toks := tk + 1 } :=
      I.turnedNew (ch := [e, it]) (fun b ob hb q => (sb.2 b (fun z => hb (by simp [z]))).trans (hk b ob (fun z => hb (by simp [z])) (fun z => hb (by simp [z])) q)) hf (Nat.le_refl _) new
    refine ⟨.ref s.heap.objs.size, _, I1, rfl, ⟨_, x, rfl, I.hok.fresh (Nat.le_refl _), rfl, fun ys hy => by rw [I.tuple_inj hy hq]; exact hx⟩, ⟨⟨x', ?_⟩, tupIter_at hit'.1 fun o q => (sb.2 it (Ne.symm hne)).trans q, hne, hai, hae⟩, fun b hb => ?_⟩
    · have e1 : ((i + 1 : Nat) : Int) = (i : Int) + 1 := by omega
      rw [e1]; exact he'
    · have hb' : b < s.heap.objs.size := by
        have e' : b = e ∨ b = it := by simpa using hb
        rcases e' with z | z
        · rw [z]; exact hel
        · rw [z]; exact hil
      rw [upd_ne (Nat.ne_of_lt hb')]
      exact (hf b hb).1
  done := by
    intro X hP hw hK hc i pins s σ H E I hf st hg
    subst hP hw hK
    obtain ⟨⟨old, he⟩, hit, hne, hai, hae⟩ := st
    obtain ⟨xs, hq, hx⟩ := hg
    obtain ⟨its, rv, p, hz⟩ := I.tuple hq
    obtain ⟨f0, f1, f2, f3, f4, f5⟩ := hf it (by simp)
    have hl := rv.length
    exact pyNext_enumT_end (I.ok.hd hc) he hit p (by simp; omega) fun h' eb => ⟨rfl, I.turned (t' := s.toks) (fun b o hb q => eb b o hb q) f0 f1 f3 f4 f5⟩
  self := fun A i s Q E st h => let ⟨⟨_, he⟩, _⟩ := st; wpAny_pyIter_enum he h
/-- enumerate of a list, of a tuple -/
def iEnumB (K : PySem.W.Frag) (ta : TA) : TI := fun σ H R => ta σ H fun vs H1 => ∃ a xs, vs = [.ref a] ∧ ((SqL K H1 a xs ∧ R (Ite K a) H1) ∨ (SqT K H1 a xs ∧ R (IteT K a) H1))
theorem pi_enumB {X : Cx} {e : Expr} {ta : TA} {p pos tpos : Pos} {elts : List Expr} {kk : Nat} (hg : Gl X "enumerate") (hm : X.mg "enumerate" = none) (ha : PA X [e] ta) (hs : starEach [e] X.env = [(false, eval e X.env)] := by rfl) :
    PI X (.Tuple elts kk tpos) (.Call (.Name "enumerate" p) [e] [] pos) (iEnumB X.K ta) := by
  refine ⟨fun pins s σ H R I h => ?_⟩
  refine Call_ (ld_blt I hg hm boot_enumerate (PyProof.Rows.callWith_type1 (thn (ha.run pos pins s σ H _ I h) fun us s1 ⟨vs, H1, I1, r1, q1⟩ => ?_) hs rfl))
  obtain ⟨a, xs, ex, hq⟩ := q1
  subst ex
  cases r1 with
  | cons r rr =>
    cases rr
    cases r
    have fr : ∀ b, s1.heap.objs.size ≤ b → FpOk X pins H1 b := fun b hle => I1.fpOk hle (I1.hok.fresh hle)
    rcases hq with ⟨hq, q⟩ | ⟨hq, q⟩
    · obtain ⟨its, rv, p', hz⟩ := I1.list hq
      refine call_enumerate_list p'.isList fun h' he hit hsz hk => wpAny_pyIter_enum he ?_
      have I2 : Inv X pins σ H1 { s1 with heap := h' } := I1.kept (t' := s1.toks) hk
      refine ⟨s1.heap.objs.size + 1, [s1.heap.objs.size + 1, s1.heap.objs.size], _, _, H1, rfl, I2, turn_enum a (s1.heap.objs.size + 1) s1.heap.objs.size, ⟨⟨.none, he⟩, hit, Nat.succ_ne_self _⟩, fun b hb => ?_, q⟩
      have e' : b = s1.heap.objs.size + 1 ∨ b = s1.heap.objs.size := by simpa using hb
      refine fr b ?_
      rcases e' with z | z
      · rw [z]; exact Nat.le_add_right _ _
      · rw [z]; exact Nat.le_refl _
    · obtain ⟨its, rv, p', hz⟩ := I1.tuple hq
      have hlt : a < s1.heap.objs.size := p'.lt
      refine call_enumerate_tuple p' fun h' he hit hsz hk => wpAny_pyIter_enum he ?_
      have I2 : Inv X pins σ H1 { s1 with heap := h' } := I1.kept (t' := s1.toks) hk
      refine ⟨s1.heap.objs.size + 1, [s1.heap.objs.size + 1, s1.heap.objs.size], _, _, H1, rfl, I2, turn_enumT a (s1.heap.objs.size + 1) s1.heap.objs.size, ⟨⟨.none, he⟩, hit, Nat.succ_ne_self _, Nat.ne_of_lt hlt, Nat.ne_of_lt (Nat.lt_of_lt_of_le hlt (Nat.le_add_right _ _))⟩, fun b hb => ?_, q⟩
      have e' : b = s1.heap.objs.size + 1 ∨ b = s1.heap.objs.size := by simpa using hb
      refine fr b ?_
      rcases e' with z | z
      · rw [z]; exact Nat.le_add_right _ _
      · rw [z]; exact Nat.le_refl _
/-- numbers that stand in a list or a tuple -/
def SqB (K : PySem.W.Frag) (H : Hp) (a : Addr) (xs : List V) : Prop := SqL K H a xs ∨ SqT K H a xs
theorem walk_enum {K : PySem.W.Frag} {a : Addr} {xs : List V} : Walk (Ite K a) xs.length (fun H => SqL K H a xs) (YPair (fun i => some (.int (i : Nat))) (fun i => xs[i]?)) :=
  ⟨fun i _ hi q => ⟨xs, xs[i], q, by simp [hi]⟩, fun _ q => ⟨xs, q, Nat.le_refl _⟩, fun i H x H' _ q y => by
    obtain ⟨T, x, e1, e2, e3, e4⟩ := y
    exact ⟨T, _, x, e1, e2, e3, rfl, e4 xs q⟩⟩
theorem walk_enumT {K : PySem.W.Frag} {a : Addr} {xs : List V} : Walk (IteT K a) xs.length (fun H => SqT K H a xs) (YPair (fun i => some (.int (i : Nat))) (fun i => xs[i]?)) :=
  ⟨fun i _ hi q => ⟨xs, xs[i], q, by simp [hi]⟩, fun _ q => ⟨xs, q, Nat.le_refl _⟩, fun i H x H' _ q y => by
    obtain ⟨T, x, e1, e2, e3, e4⟩ := y
    exact ⟨T, _, x, e1, e2, e3, rfl, e4 xs q⟩⟩

theorem Same.seqT {K : PySem.W.Frag} {H H' : Hp} {a : Addr} {xs : List V} (e : L2.Same H H') (h : SqT K H a xs) : SqT K H' a xs := by
  rcases h with (h | ⟨o, h⟩) | h
  · exact .inl (.inl (e _ _ h))
  · exact .inl (.inr ⟨o, e _ _ h⟩)
  · exact .inr h
/-- for i, x in enumerate(a list or tuple) -/
theorem for_enumB {K : PySem.W.Frag} {a : Addr} {xs : List V} {g : TG} {tb : TS} {D : Ends} {σ : L2.St} {H0 H : Hp} (hq : SqB K H0 a xs) (h1 : L2.Same H0 H) (Pv : Nat → L2.St → Hp → Prop) (h0 : Pv 0 σ H)
    (hG : ∀ i σ' H', i ≤ xs.length → Pv i σ' H' → L2.Same H0 H')
    (hs : ∀ i x σ' H' T, xs[i]? = some x → Pv i σ' H' → H' T = none → g (.ref T) σ' (upd H' T (.tup [.int (i : Nat), x])) fun σ2 H2 => tb { D with nx := Pv (i + 1), ct := Pv (i + 1), bk := D.nx } σ2 H2) (hd : ∀ σ' H', Pv xs.length σ' H' → D.nx σ' H') :
    (SqL K H a xs ∧ ∃ W : Nat → Nat → L2.St → Hp → Prop, (∃ m, W 0 m σ H) ∧ ∀ i m σ H, W i m σ H →
      ((Ite K a).stop i H ∧ D.nx σ H) ∨ ((Ite K a).go i H ∧ ∃ N : L2.St → Hp → Prop, (∀ σ' H', N σ' H' → ∃ m', m' < m ∧ W (i + 1) m' σ' H') ∧ ∀ x H', (Ite K a).yld i H x H' → g x σ H' fun σ2 H2 => tb { D with nx := N, ct := N, bk := D.nx } σ2 H2)) ∨
    (SqT K H a xs ∧ ∃ W : Nat → Nat → L2.St → Hp → Prop, (∃ m, W 0 m σ H) ∧ ∀ i m σ H, W i m σ H →
      ((IteT K a).stop i H ∧ D.nx σ H) ∨ ((IteT K a).go i H ∧ ∃ N : L2.St → Hp → Prop, (∀ σ' H', N σ' H' → ∃ m', m' < m ∧ W (i + 1) m' σ' H') ∧ ∀ x H', (IteT K a).yld i H x H' → g x σ H' fun σ2 H2 => tb { D with nx := N, ct := N, bk := D.nx } σ2 H2)) := by
  have turn : ∀ i v σ' H' H'', i < xs.length → Pv i σ' H' → YPair (fun i => some (.int (i : Nat))) (fun i => xs[i]?) i H' v H'' → g v σ' H'' fun σ2 H2 => tb { D with nx := Pv (i + 1), ct := Pv (i + 1), bk := D.nx } σ2 H2 := by
    rintro i v σ' H' H'' hi p ⟨T, x, y, rfl, nT, rfl, e1, e2⟩
    cases e1
    exact hs i y σ' H' T e2 p nT
  rcases hq with hq | hq
  · exact .inl ⟨h1.seq hq, for_it walk_enum Pv h0 (fun i σ' H' hi p => (hG i σ' H' hi p).seq hq) turn hd⟩
  · exact .inr ⟨Same.seqT h1 hq, for_it walk_enumT Pv h0 (fun i σ' H' hi p => Same.seqT (hG i σ' H' hi p) hq) turn hd⟩

/-- .. of a list -/
theorem for_enumL {K : PySem.W.Frag} {a : Addr} {xs : List V} {g : TG} {tb : TS} {D : Ends} {σ : L2.St} {H : Hp} {Z : Prop} (hq : SqL K H a xs) (Pv : Nat → L2.St → Hp → Prop) (h0 : Pv 0 σ H)
    (hG : ∀ i σ' H', i ≤ xs.length → Pv i σ' H' → SqL K H' a xs)
    (hs : ∀ i x σ' H' T, xs[i]? = some x → Pv i σ' H' → H' T = none → g (.ref T) σ' (upd H' T (.tup [.int (i : Nat), x])) fun σ2 H2 => tb { D with nx := Pv (i + 1), ct := Pv (i + 1), bk := D.nx } σ2 H2) (hd : ∀ σ' H', Pv xs.length σ' H' → D.nx σ' H') :
    (SqL K H a xs ∧ ∃ W : Nat → Nat → L2.St → Hp → Prop, (∃ m, W 0 m σ H) ∧ ∀ i m σ H, W i m σ H →
      ((Ite K a).stop i H ∧ D.nx σ H) ∨ ((Ite K a).go i H ∧ ∃ N : L2.St → Hp → Prop, (∀ σ' H', N σ' H' → ∃ m', m' < m ∧ W (i + 1) m' σ' H') ∧ ∀ x H', (Ite K a).yld i H x H' → g x σ H' fun σ2 H2 => tb { D with nx := N, ct := N, bk := D.nx } σ2 H2)) ∨ Z := by
  refine .inl ⟨hq, for_it walk_enum Pv h0 hG ?_ hd⟩
  rintro i v σ' H' H'' hi p ⟨T, x, y, rfl, nT, rfl, e1, e2⟩
  cases e1
  exact hs i y σ' H' T e2 p nT

/-! ### x[lo:hi] of a list or a tuple: the whole of a tuple is the tuple itself -/
section
variable {X : Cx}
def rSlB (K : PySem.W.Frag) : V → Option Int → Option Int → Hp → VK → Prop := fun x lo hi H Q => rSlL K x lo hi H Q ∨ rSlA K x lo hi H Q
theorem sl_both : SlR X (rSlB X.K) := by
  intro pins s σ H x v vl vu lo hi sl Q I rx hs pl pu h
  rcases h with h | h
  · exact sl_list pins s σ H x v vl vu lo hi sl Q I rx hs pl pu h
  · exact sl_tupA pins s σ H x v vl vu lo hi sl Q I rx hs pl pu h
end

/-! ### d.setdefault(t, v), t a tuple -/
section
variable {X : Cx} {pins : List (Addr × Obj)} {σ : L2.St} {H : Hp} {s : Shared} {a b : Addr} {r : Value} {d : V} {k : List L2.Key} {A : Around} {E : Value → Shared → Prop}
theorem d_setdT {kvs : List (List L2.Key × V)} {Q : Value → Shared → Prop} (hu : A.units + 1 < cLine) (I : Inv X pins σ H s) (e : H a = some (.dT kvs)) (eb : H b = some (.tup (k.map kV))) (rd : RelV d r) (hl : kvs.length < sizeLine)
    (h1 : ∀ v, valV kvs k = some v → ∀ (w' : Value) (s' : Shared), Inv X pins σ H s' → RelV v w' → Q w' s') (h2 : valV kvs k = none → ∀ (w' : Value) (s' : Shared), Inv X pins σ (upd H a (.dT (putK kvs k d))) s' → RelV d w' → Q w' s') :
    wpAny (model X.prog X.w) A (call (.builtin "dict.setdefault") [.ref a, .ref b, r]) Q E s := by
  obtain ⟨z, hd, xs, rel, dd⟩ := dt_of I.hok e
  have hz : xs.length ≤ sizeLine := by rw [← Paired.length rel]; exact z
  refine call_setdefault_heap (hsz := hz) (knd := tupleKind (mixKind X.prog X.w)) (tupleKind_room_in1 hu) (key_of I.hok eb) hd dd (fun p hp => ?_) fun hn h' dd' hs => ?_
  · have q := rel.val k
    rw [hp] at q
    cases q0 : valV kvs k with
    | none =>
      rw [q0] at q
      exact (show False from q).elim
    | some v0 =>
      rw [q0] at q
      exact h1 v0 q0 _ _ (I.tok _) q
  · have q := rel.val k
    rw [hn] at q
    cases q0 : valV kvs k with
    | some v0 =>
      rw [q0] at q
      exact (show False from q).elim
    | none =>
      have hl2 : (putK kvs k d).length ≤ sizeLine := by
        have := length_putK kvs k d
        omega
      obtain ⟨q, es, ep, hq, h2', h3, h4, _, h5⟩ := dd'
      refine h2 q0 _ _ (d_write I (by rw [e]; exact True.intro) hs ⟨q, hq⟩ ⟨hl2, hd, _, (rel.put k eb rd).keeps fun c ys ec => ?_, q, es, ep, hq, h2', h3, h4, h5⟩) rd
      rw [upd_ne (ne_of ec e (fun z => nomatch z))]
      exact ec
end
def tDSetdT (td ty tx : TE) : TE := fun σ H Q => td σ H fun x H1 => ∃ a, x = .ref a ∧ IsD H1 a ∧ ty σ H1 fun y H2 => tx σ H2 fun z H3 => ∃ (kvs : List (List L2.Key × V)) (k : List L2.Key) (b : Addr), H3 a = some (.dT kvs) ∧ y = .ref b ∧ H3 b = some (.tup (k.map kV)) ∧ kvs.length < sizeLine ∧
  (∀ v, valV kvs k = some v → Q v H3) ∧ (valV kvs k = none → Q z (upd H3 a (.dT (putK kvs k z))))
theorem pe_dsetdT {X : Cx} {o e f : Expr} {td ty tx : TE} {apos cpos : Pos} (hu : X.A.units + 1 < cLine) (ho : PE X o td) (he : PE X e ty) (hf : PE X f tx) (m : M2 X o "setdefault" apos e f cpos) : PE X (.Call (.Attribute o "setdefault" apos) [e, f] [] cpos) (tDSetdT td ty tx) := by
  refine ⟨fun pins s σ H Q I h => ?_⟩
  refine wpAny_Call_method m.base m.few m.line PySem.F.plainAttrs_dict PySem.F.slot_dict_setdefault PySem.F.type_dict_setdefault (thn (ho.run pins s σ H _ I h) fun u s1 ⟨x, H1, I1, rx, a, ex, d, q1⟩ => ?_)
  subst ex
  obtain rfl : u = Value.ref a := rx
  obtain ⟨t1, t2, _⟩ := isD_at I1 d
  refine ⟨t1, t2, ?_⟩
  rw [m.trees]
  refine Calls.callWith_builtin rfl (Calls.evalArgs_plain (Calls.spliced_cons (thn (he.run pins s1 σ H1 _ I1 q1) fun iv s2 ⟨y, H2, I2, ry, q2⟩ =>
    Calls.spliced_cons (thn (hf.run pins s2 σ H2 _ I2 q2) fun fv s3 ⟨z, H3, I3, rz, kvs, k, b, ea, ey, eb, hl, q3, q4⟩ => Calls.spliced_nil ?_))))
  subst ey
  cases (show iv = Value.ref b from ry)
  exact d_setdT hu I3 ea eb rz hl (fun v hv w' s4 I4 rw' => ⟨v, _, I4, rw', q3 v hv⟩) fun hn w' s4 I4 rw' => ⟨z, _, I4, rw', q4 hn⟩
end FcR

set_option Elab.async false
set_option linter.all false
set_option maxRecDepth 100000
set_option maxHeartbeats 2000000
/-! The program's text by places; heaps; numbers and tuples in the heap. -/
namespace Fc
open PySem PySem.Spec PyProof.Rows L2 FcR
def top (i : Nat) : Stmt := PySem.Challenge.pw_fingercells_s01_answers.main.body.getD i (.Pass ⟨0, 0, 0, 0⟩)

/-! ### numbers -/
def vn (n : Nat) : V := .int (n : Int)
def nv (l : List Nat) : List V := l.map vn
def kn (l : List Nat) : List L2.Key := l.map fun (n : Nat) => Sum.inl (n : Int)
theorem kn_kV (l : List Nat) : (kn l).map kV = nv l := by
  unfold kn nv
  rw [List.map_map]
  rfl
theorem kn_inj {a b : List Nat} (h : kn a = kn b) : a = b := by
  unfold kn at h
  refine List.map_inj_right (f := fun n : Nat => (Sum.inl (n : Int) : L2.Key)) (fun x y e => ?_) |>.mp h
  exact Int.ofNat.inj (Sum.inl.inj e)
theorem nv_length (l : List Nat) : (nv l).length = l.length := List.length_map ..
theorem nv_get {l : List Nat} {i x : Nat} (h : l[i]? = some x) : (nv l)[i]? = some (vn x) := by
  unfold nv
  rw [List.getElem?_map, h]
  rfl
theorem nv_of {l : List Nat} {i : Nat} {v : V} (h : (nv l)[i]? = some v) : ∃ x, l[i]? = some x ∧ v = vn x := by
  unfold nv at h
  rw [List.getElem?_map] at h
  cases e : l[i]? with
  | none => rw [e] at h; cases h
  | some x =>
    rw [e] at h
    exact ⟨x, rfl, (Option.some.inj h).symm⟩
theorem nv_app (a b : List Nat) : nv (a ++ b) = nv a ++ nv b := List.map_append
theorem nv_drop (l : List Nat) (i : Nat) : (nv l).drop i = nv (l.drop i) := List.map_drop.symm
theorem nv_take (l : List Nat) (i : Nat) : (nv l).take i = nv (l.take i) := List.map_take.symm
theorem cut_nv (l : List Nat) (lo hi : Nat) (h1 : lo ≤ hi) (h2 : hi ≤ l.length) : cutV (nv l) (some (lo : Int)) (some (hi : Int)) = nv ((l.drop lo).take (hi - lo)) := by
  unfold cutV
  rw [HT.sIx_nat, HT.sIx_nat, nv_length, Nat.min_eq_left (by omega : lo ≤ l.length), Nat.min_eq_left h2, nv_drop, nv_take]
theorem cut_nv' (l : List Nat) (lo : Nat) (h2 : lo ≤ l.length) : cutV (nv l) (some (lo : Int)) none = nv (l.drop lo) := by
  unfold cutV
  rw [HT.sIx_nat, HT.sIx_none, nv_length, Nat.min_eq_left h2, nv_drop, nv_take]
  rw [List.take_of_length_le (by rw [List.length_drop]; omega)]
theorem cut_nv0 (l : List Nat) (hi : Nat) (h2 : hi ≤ l.length) : cutV (nv l) none (some (hi : Int)) = nv (l.take hi) := by
  unfold cutV
  rw [HT.sIx_nat, HT.sIx_none, nv_length, Nat.min_eq_left h2, List.drop_zero, nv_take]
  rfl
theorem big (n : Nat) (h : n ≤ 10000000) : n < sizeLine := Nat.lt_of_le_of_lt h (by decide)

/-! ### heaps -/
theorem Same.upd_new {H : Hp} {p : Addr} {o : HO} (h : H p = none) : Same H (upd H p o) := fun b u e => by
  rw [upd_ne (ne_of_none e h)]
  exact e
/-- all but what stands at f is as it was -/
theorem Same.upd_own {H H' : Hp} {f : Addr} {o : HO} (s : Same H H') (h : H f = none) : Same H (upd H' f o) := fun b u e => by
  rw [upd_ne (ne_of_none e h)]
  exact s b u e
/-- all that was tracked is as it was, but for what stands at ms -/
def Keep (ms : List Addr) (H H' : Hp) : Prop := ∀ b o, H b = some o → b ∉ ms → H' b = some o
theorem Keep.of {ms : List Addr} {H H' : Hp} (s : Same H H') : Keep ms H H' := fun b o e _ => s b o e
theorem Keep.trans {ms : List Addr} {H H1 H2 : Hp} (a : Keep ms H H1) (b : Keep ms H1 H2) : Keep ms H H2 := fun c o h n => b c o (a c o h n) n
theorem Keep.upd {ms : List Addr} {H H' : Hp} {f : Addr} {o : HO} (s : Keep ms H H') (h : f ∈ ms ∨ H f = none) : Keep ms H (upd H' f o) := fun b u e n => by
  rw [upd_ne]
  · exact s b u e n
  · rintro rfl
    rcases h with h | h
    · exact n h
    · rw [h] at e; cases e

/-- tuples of numbers, one behind another -/
abbrev Tups (H : Hp) : List Addr → List (List Nat) → Prop := Paired fun q l => H q = some (.tup (nv l))
theorem Tups.keep {H H' : Hp} {qs : List Addr} {ls : List (List Nat)} (t : Tups H qs ls) (h : ∀ b xs, H b = some (.tup xs) → H' b = some (.tup xs)) : Tups H' qs ls :=
  Paired.mapP t fun q l e => h q _ e
theorem Tups.same {H H' : Hp} {qs : List Addr} {ls : List (List Nat)} (t : Tups H qs ls) (h : Same H H') : Tups H' qs ls := t.keep fun b xs e => h b _ e
theorem Tups.get {H : Hp} : ∀ {qs : List Addr} {ls : List (List Nat)} {i : Nat} {l : List Nat}, Tups H qs ls → ls[i]? = some l → ∃ q, qs[i]? = some q ∧ H q = some (.tup (nv l))
  | _, _, _, _, .nil, e => by simp at e
  | _, _, 0, _, .cons r _, e => by simp at e; subst e; exact ⟨_, rfl, r⟩
  | _, _, i + 1, l, .cons _ t, e => by
    obtain ⟨q, h1, h2⟩ := Tups.get (i := i) (l := l) t (by simpa using e)
    exact ⟨q, by simpa using h1, h2⟩
theorem Tups.get' {H : Hp} : ∀ {qs : List Addr} {ls : List (List Nat)} {i : Nat} {q : Addr}, Tups H qs ls → qs[i]? = some q → ∃ l, ls[i]? = some l ∧ H q = some (.tup (nv l))
  | _, _, _, _, .nil, e => by simp at e
  | _, _, 0, _, .cons r _, e => by simp at e; subst e; exact ⟨_, rfl, r⟩
  | _, _, i + 1, q, .cons _ t, e => by
    obtain ⟨l, h1, h2⟩ := Tups.get' (i := i) (q := q) t (by simpa using e)
    exact ⟨l, by simpa using h1, h2⟩
theorem Tups.snoc {H : Hp} {qs : List Addr} {ls : List (List Nat)} {q : Addr} {l : List Nat} (t : Tups H qs ls) (h : H q = some (.tup (nv l))) : Tups H (qs ++ [q]) (ls ++ [l]) := Paired.snoc t h
theorem Tups.length {H : Hp} {qs : List Addr} {ls : List (List Nat)} (t : Tups H qs ls) : qs.length = ls.length := Paired.length t
def refs (qs : List Addr) : List V := qs.map V.ref
theorem refs_snoc (qs : List Addr) (q : Addr) : refs (qs ++ [q]) = refs qs ++ [.ref q] := List.map_append
theorem refs_length (qs : List Addr) : (refs qs).length = qs.length := List.length_map ..
theorem refs_get {qs : List Addr} {i : Nat} {q : Addr} (h : qs[i]? = some q) : (refs qs)[i]? = some (.ref q) := by
  unfold refs
  rw [List.getElem?_map, h]
  rfl
theorem refs_of {qs : List Addr} {i : Nat} {v : V} (h : (refs qs)[i]? = some v) : ∃ q, qs[i]? = some q ∧ v = .ref q := by
  unfold refs at h
  rw [List.getElem?_map] at h
  cases e : qs[i]? with
  | none => rw [e] at h; cases h
  | some x =>
    rw [e] at h
    exact ⟨x, rfl, (Option.some.inj h).symm⟩

/-- numbers in a list that is read, or in a tuple -/
def Nums (K : PySem.W.Frag) (H : Hp) (a : Addr) (ns : List Nat) : Prop := SqL K H a (nv ns) ∨ H a = some (.tup (nv ns))
theorem Nums.same {K : PySem.W.Frag} {H H' : Hp} {a : Addr} {ns : List Nat} (h : Nums K H a ns) (s : Same H H') : Nums K H' a ns := h.elim (fun h => .inl (s.seq h)) fun h => .inr (s _ _ h)

/-- xs.append(tuple(x[lo:hi])), x a list or tuple of numbers: a tuple of these behind the others, all else as it was -/
theorem append_cut {K : PySem.W.Frag} {H : Hp} {a fo : Addr} {ns l : List Nat} {xs : List V} {lo hi : Option Int} {N : VK} (h : Nums K H a ns) (hf : H fo = some (.lst xs)) (hz : xs.length < sizeLine) (hl : cutV (nv ns) lo hi = nv l)
    (hw : HT.sIx (nv ns).length 0 lo = 0 ∧ HT.sIx (nv ns).length (nv ns).length hi = (nv ns).length → l = ns)
    (k : ∀ H' q, Same H H' → H' q = some (.tup (nv l)) → N .non (upd H' fo (.lst (xs ++ [.ref q])))) :
    rSlB K (.ref a) lo hi H fun x H1 => ∃ p ys, [x] = [V.ref p] ∧ ((SqL K H1 p ys ∧ ∀ l, H1 l = none → rAppend (.ref fo) [.ref l] (upd H1 l (.tup ys)) N) ∨ (SqT K H1 p ys ∧ rAppend (.ref fo) [.ref p] H1 N)) := by
  rcases h with h | h
  · refine .inl ⟨a, nv ns, rfl, h, fun p np => ⟨p, _, rfl, .inl ⟨SqL.of upd_same, fun q nq => ?_⟩⟩⟩
    rw [hl] at nq ⊢
    have sm := Same.trans (Same.upd_new (o := .lst (nv l)) np) (Same.upd_new (o := .tup (nv l)) nq)
    exact ⟨fo, xs, _, rfl, rfl, sm _ _ hf, hz, k _ q sm upd_same⟩
  · refine .inr ⟨a, nv ns, rfl, SqT.of h, fun w => ?_, fun _ p np => ?_⟩
    · refine ⟨a, nv ns, rfl, .inr ⟨SqT.of h, fo, xs, _, rfl, rfl, hf, hz, k H a (Same.refl H) ?_⟩⟩
      rw [hw w]
      exact h
    · refine ⟨p, _, rfl, .inr ⟨SqT.of upd_same, ?_⟩⟩
      rw [hl]
      have sm := Same.upd_new (o := .tup (nv l)) np
      exact ⟨fo, xs, _, rfl, rfl, sm _ _ hf, hz, k _ p sm upd_same⟩
end Fc

set_option Elab.async false
set_option linter.all false
set_option maxRecDepth 100000
set_option maxHeartbeats 2000000
/-! signs.py: is_letter, pieces -/
namespace Fc
open PySem PySem.Spec PyProof.Rows L2 FcR
abbrev sIsLetter : Stmt := top 7
abbrev sPieces : Stmt := top 8
section
variable {P : Program} {w : World} {K : PySem.W.Frag} {mg : Str → Option Value} {base : Heap}
/-- a number that the top has bound -/
def Num (mg : Str → Option Value) (x : Str) (n : Int) : Prop := ∃ t, mg x = some (.int n t)
theorem pe_num {X : Cx} {x : Str} {n : Int} {pos : Pos} (hm : Num X.mg x n) (hg : Gl X x := by rfl) (hd : (x == ("__debug__" : Str)) = false := by decide) : PE X (.Name x pos) (tC (.int n)) := by
  obtain ⟨t, hm⟩ := hm
  exact pe_glob hg hm ⟨_, rfl⟩ hd

/-! ### is_letter -/
def spLetter : Sp := fun vs H Q _ => ∃ n : Nat, vs = [vn n] ∧ Q (.bl (Km344.isLetter n)) H
theorem scIL : FnScope ["number"] ["number"] (defScope sIsLetter) := ⟨rfl, rfl, rfl, by decide +kernel, rfl, by decide +kernel, by decide +kernel⟩
theorem ok_letter {f : Addr} {fd : FuncData} (F : Fun K "is_letter" "is_letter" sIsLetter f fd) (g1 : Num mg "FIRST_LETTER" 33) (g2 : Num mg "LAST_LETTER" 126) : FnOk P w K mg base CX0 1 f fd ["number"] spLetter := by
  refine F.ok scIL (fun vs H Q E h => ?_) (fun cdv A outer s H vs Q E hr h => ?_)
  · obtain ⟨n, rfl, _⟩ := h
    rfl
  · obtain ⟨n, rfl, k⟩ := h
    refine ⟨_, pss_one (ps_ret (pe_chain op_le op_le (pe_num g1) (pv 0) (pe_num g2))), ?_⟩
    refine ⟨_, rfl, _, _, rfl, rfl, _, rfl, ?_⟩
    by_cases h1 : (33 : Int) ≤ (n : Int)
    · rw [decide_eq_true h1]
      refine iteT ⟨_, _, rfl, rfl, ?_⟩
      have : decide ((n : Int) ≤ 126) = Km344.isLetter n := by
        unfold Km344.isLetter
        rw [decide_eq_true (show 33 ≤ n by omega), Bool.true_and]
        exact decide_eq_decide.mpr (by omega)
      show Q (.bl (decide ((n : Int) ≤ 126))) H
      rw [this]
      exact k
    · rw [decide_eq_false h1]
      refine iteF ?_
      have : Km344.isLetter n = false := by
        unfold Km344.isLetter
        rw [decide_eq_false (show ¬ 33 ≤ n by omega), Bool.false_and]
      rw [this] at k
      exact k

/-! ### pieces -/
def spPieces (K : PySem.W.Frag) : Sp := fun vs H Q _ => ∃ (a : Addr) (ns : List Nat) (m : Nat), vs = [.ref a, vn m] ∧ Nums K H a ns ∧ ns.length ≤ 30000 ∧
  ∀ (H' : Hp) (p : Addr) (qs : List Addr), Same H H' → H p = none → H' p = some (.lst (refs qs)) → Tups H' qs (Km344.parts m ns) → Q (.ref p) H'
theorem scPi : FnScope ["numbers", "mark", "found", "start", "place", "number"] ["numbers", "mark"] (defScope sPieces) := ⟨rfl, rfl, rfl, by decide +kernel, rfl, by decide +kernel, by decide +kernel⟩
/-- behind i numbers: the pieces that are closed, where the open one begins -/
structure PInv (m : Nat) (ns : List Nat) (i st : Nat) (ls : List (List Nat)) : Prop where
  le : st ≤ i
  few : ls.length ≤ i
  all : Km344.parts m ns = ls ++ Km344.parts m (ns.drop st)
  no : m ∉ (ns.drop st).take (i - st)
theorem PInv.start (m : Nat) (ns : List Nat) : PInv m ns 0 0 [] := ⟨Nat.le_refl _, Nat.le_refl _, by simp, by simp⟩
theorem PInv.go {m : Nat} {ns : List Nat} {i st x : Nat} {ls : List (List Nat)} (h : PInv m ns i st ls) (hx : ns[i]? = some x) (hne : x ≠ m) : PInv m ns (i + 1) st ls := by
  refine ⟨by have := h.le; omega, by have := h.few; omega, h.all, ?_⟩
  have e : (ns.drop st).take (i + 1 - st) = (ns.drop st).take (i - st) ++ [x] := by
    rw [show i + 1 - st = (i - st) + 1 by have := h.le; omega, List.take_succ, List.getElem?_drop, show st + (i - st) = i by have := h.le; omega, hx]
    rfl
  rw [e]
  intro z
  rcases List.mem_append.mp z with z | z
  · exact h.no z
  · exact hne (List.mem_singleton.mp z).symm
theorem PInv.mark {m : Nat} {ns : List Nat} {i st : Nat} {ls : List (List Nat)} (h : PInv m ns i st ls) (hx : ns[i]? = some m) : PInv m ns (i + 1) (i + 1) (ls ++ [(ns.drop st).take (i - st)]) := by
  obtain ⟨hi, hm⟩ := List.getElem?_eq_some_iff.mp hx
  refine ⟨Nat.le_refl _, by have := h.few; simp; omega, ?_, by simp⟩
  have e : ns.drop st = (ns.drop st).take (i - st) ++ m :: ns.drop (i + 1) := by
    have h1 := (List.take_append_drop (i - st) (ns.drop st)).symm
    rw [List.drop_drop, show st + (i - st) = i by have := h.le; omega, List.drop_eq_getElem_cons hi, hm] at h1
    exact h1
  rw [h.all, List.append_assoc, List.singleton_append]
  congr 1
  calc Km344.parts m (ns.drop st) = Km344.parts m ((ns.drop st).take (i - st) ++ m :: ns.drop (i + 1)) := by rw [← e]
    _ = _ := parts_cut _ _ h.no
theorem PInv.stop {m : Nat} {ns : List Nat} {st : Nat} {ls : List (List Nat)} (h : PInv m ns ns.length st ls) : Km344.parts m ns = ls ++ [ns.drop st] := by
  have hn := h.no
  rw [List.take_of_length_le (by rw [List.length_drop]; omega)] at hn
  rw [h.all, parts_whole _ hn]
theorem ok_pieces {f : Addr} {fd : FuncData} (F : Fun K "pieces" "pieces" sPieces f fd) (b1 : mg "enumerate" = none) (b2 : mg "tuple" = none) : FnOk P w K mg base CX0 1 f fd ["numbers", "mark"] (spPieces K) := by
  refine F.ok scPi (fun vs H Q E h => ?_) (fun cdv A outer s H vs Q E hr h => ?_)
  · obtain ⟨a, ns, m, rfl, _⟩ := h
    rfl
  · obtain ⟨a, ns, m, rfl, hN, hlen, k⟩ := h
    refine ⟨_, pss_cons (ps_set (i := 2) scPi.nd rfl (.inl rfl) (pe_lst pa_nil))
      (pss_cons (ps_set (i := 3) scPi.nd rfl (.inl rfl) pe_int)
      (pss_cons (ps_for PassesOwn.never rfl (pi_enumB (by rfl) b1 (pa_cons (pv 0) pa_nil)) (pg_tup rfl (pgs_cons (pg_name (i := 4) scPi.nd rfl (.inl rfl)) (pgs_cons (pg_name (i := 5) scPi.nd rfl (.inl rfl)) pgs_nil)))
        (pss_one (ps_if (pt_cmpR op_eq (pv 5) (pv 1) (nomark _))
          (pss_cons (ps_expr (pe_bm PySem.F.plainAttrs_list PySem.F.slot_list_append PySem.F.type_list_append mt_append (pv 2)
              (pa_cons (pe_callTy call_tuple_of (by rfl) b2 (by decide +kernel) (pa_cons (pe_slice sl_both (pv 0) (po_some (pv 3)) (po_some (pv 4))) pa_nil)) pa_nil)))
            (pss_one (ps_set (i := 3) scPi.nd rfl (.inl rfl) (pe_op op_add (pv 4) pe_int)))) pss_nil)))
      (pss_cons (ps_expr (pe_bm PySem.F.plainAttrs_list PySem.F.slot_list_append PySem.F.type_list_append mt_append (pv 2)
              (pa_cons (pe_callTy call_tuple_of (by rfl) b2 (by decide +kernel) (pa_cons (pe_slice sl_both (pv 0) (po_some (pv 3)) po_none) pa_nil)) pa_nil)))
      (pss_one (ps_ret (pv 2)))))), ?_⟩
    refine ⟨by show 0 ≤ sizeLine; decide, fun fo nf => ?_⟩
    have hq : SqB K H a (nv ns) := hN.elim .inl fun h => .inr (SqT.of h)
    refine ⟨_, rfl, a, nv ns, rfl, for_enumB hq (Same.upd_new nf) (fun i σ H' => ∃ (st : Nat) (ls : List (List Nat)) (qs : List Addr) (v4 v5 : Option V), σ = [some (.ref a), some (vn m), some (.ref fo), some (vn st), v4, v5] ∧
      Same H H' ∧ H' fo = some (.lst (refs qs)) ∧ Tups H' qs ls ∧ PInv m ns i st ls) ?_ ?_ ?_ ?_⟩
    · exact ⟨0, [], [], none, none, rfl, Same.upd_new nf, upd_same, .nil, PInv.start m ns⟩
    · rintro i σ H' hi ⟨st, ls, qs, v4, v5, rfl, sm, _⟩
      exact sm
    · rintro i x σ H' T hx ⟨st, ls, qs, v4, v5, rfl, sm, hf, ht, hp⟩ nT
      obtain ⟨y, hy, rfl⟩ := nv_of hx
      have hi : i < ns.length := (List.getElem?_eq_some_iff.mp hy).1
      have nTf : T ≠ fo := (ne_of_none hf nT).symm
      refine ⟨T, _, rfl, SqT.of upd_same, rfl, _, _, rfl, _, _, rfl, rfl, ?_⟩
      refine ⟨_, rfl, _, rfl, rfl, _, rfl, ?_⟩
      have sm1 : Same H' (upd H' T (.tup [.int (i : Nat), vn y])) := Same.upd_new nT
      have hf1 := sm1 _ _ hf
      by_cases e : y = m
      · subst e
        rw [decide_eq_true rfl]
        refine iteT ?_
        refine ⟨_, rfl, .inl ⟨rfl, _, SqL.of hf1⟩, _, rfl, _, rfl, _, rfl, _, rfl, _, rfl, ?_⟩
        refine append_cut (N := fun _ H3 => Ends.nx _ _ H3) (hN.same (sm.trans sm1)) hf1 (big _ (by rw [refs_length, ht.length]; have := hp.few; omega)) (cut_nv ns st i hp.le (by omega)) ?_ ?_
        · rintro ⟨w1, w2⟩
          rw [nv_length, HT.sIx_nat] at w1 w2
          omega
        · intro H2 q sm2 hq2
          refine ⟨_, rfl, _, _, rfl, rfl, ?_⟩
          refine ⟨i + 1, _, qs ++ [q], _, _, rfl, ?_, ?_, (ht.same (sm1.trans sm2)).snoc hq2 |>.keep ?_, hp.mark hy⟩
          · exact Same.upd_own (sm.trans (sm1.trans sm2)) nf
          · rw [upd_same, refs_snoc]
          · intro b xs eb
            rw [upd_ne (ne_of eb (sm2 _ _ hf1) (fun z => by cases z))]
            exact eb
      · have e' : ¬ vn y = vn m := fun z => e (by
          have z' : V.int (y : Int) = V.int (m : Int) := z
          injection z' with z'
          exact Int.ofNat.inj z')
        rw [decide_eq_false e']
        refine iteF ?_
        exact ⟨st, ls, qs, _, _, rfl, sm.trans sm1, hf1, ht.same sm1, hp.go hy e⟩
    · rintro σ H' ⟨st, ls, qs, v4, v5, rfl, sm, hf, ht, hp⟩
      rw [nv_length] at hp
      have hst : st ≤ ns.length := hp.le
      refine ⟨_, rfl, .inl ⟨rfl, _, SqL.of hf⟩, _, rfl, _, rfl, _, rfl, ?_⟩
      refine append_cut (N := fun _ H3 => Ends.nx _ _ H3) (hN.same sm) hf (big _ (by rw [refs_length, ht.length]; have := hp.few; omega)) (cut_nv' ns st hst) ?_ ?_
      · rintro ⟨w1, w2⟩
        rw [nv_length, HT.sIx_nat] at w1
        have : st = 0 := by omega
        subst this
        rfl
      · intro H2 q sm2 hq2
        refine ⟨_, rfl, ?_⟩
        refine k _ fo (qs ++ [q]) (Same.upd_own (sm.trans sm2) nf) nf ?_ ?_
        · rw [upd_same, refs_snoc]
        · rw [hp.stop]
          refine ((ht.same sm2).snoc hq2).keep fun b xs eb => ?_
          rw [upd_ne (ne_of eb (sm2 _ _ hf) (fun z => by cases z))]
          exact eb
end
end Fc

set_option Elab.async false
set_option linter.all false
set_option maxRecDepth 100000
set_option maxHeartbeats 4000000
/-! rows.py: row_by_steps, fewest_row -/
namespace Fc
open PySem PySem.Spec PyProof.Rows L2 FcR
abbrev sFewest : Stmt := top 19
abbrev sRowBy : Stmt := top 20

/-! ### lists told by place -/
/-- n + 1 values, the i-th told by f -/
def told {α : Type} (n : Nat) (f : Nat → α) : List α := (List.range n).map f
theorem told_get {α : Type} {n : Nat} {f : Nat → α} {i : Nat} (h : i < n) : (told n f)[i]? = some (f i) := by
  unfold told
  rw [List.getElem?_map, List.getElem?_range h]
  rfl
theorem told_length {α : Type} {n : Nat} {f : Nat → α} : (told n f).length = n := by
  unfold told
  rw [List.length_map, List.length_range]
theorem told_set {α : Type} {n : Nat} {f : Nat → α} {i : Nat} {v : α} (h : i < n) : (told n f).set i v = told n fun j => if j = i then v else f j := by
  refine List.ext_getElem? fun j => ?_
  by_cases hj : j < n
  · rw [told_get hj]
    by_cases e : j = i
    · subst e
      rw [List.getElem?_set_self (by rw [told_length]; exact h), if_pos rfl]
    · rw [List.getElem?_set_ne (Ne.symm e), told_get hj, if_neg e]
  · rw [List.getElem?_eq_none (by rw [List.length_set, told_length]; omega), List.getElem?_eq_none (by rw [told_length]; omega)]
theorem told_ext {α : Type} {n : Nat} {f g : Nat → α} (h : ∀ i, i < n → f i = g i) : told n f = told n g := by
  unfold told
  exact List.map_congr_left fun i hi => h i (List.mem_range.mp hi)

section
variable {P : Program} {w : World} {K : PySem.W.Frag} {mg : Str → Option Value} {base : Heap}
/-- xs.append(t[lo:hi]), t a tuple of numbers -/
theorem append_tup {K : PySem.W.Frag} {H : Hp} {a fo : Addr} {ns l : List Nat} {xs : List V} {lo hi : Option Int} {N : VK} (h : H a = some (.tup (nv ns))) (hf : H fo = some (.lst xs)) (hz : xs.length < sizeLine) (hl : cutV (nv ns) lo hi = nv l)
    (hw : HT.sIx (nv ns).length 0 lo = 0 ∧ HT.sIx (nv ns).length (nv ns).length hi = (nv ns).length → l = ns)
    (k : ∀ H' q, Same H H' → H' q = some (.tup (nv l)) → N .non (upd H' fo (.lst (xs ++ [.ref q])))) :
    rSlA K (.ref a) lo hi H fun x H1 => rAppend (.ref fo) [x] H1 N := by
  refine ⟨a, nv ns, rfl, SqT.of h, fun w => ?_, fun _ p np => ?_⟩
  · refine ⟨fo, xs, _, rfl, rfl, hf, hz, k H a (Same.refl H) ?_⟩
    rw [hw w]
    exact h
  · rw [hl]
    have sm := Same.upd_new (o := .tup (nv l)) np
    exact ⟨fo, xs, _, rfl, rfl, sm _ _ hf, hz, k _ p sm upd_same⟩

/-- the number in a slot -/
def natAt (σ : L2.St) (i : Nat) : Nat := match σ[i]? with
  | some (some (V.int z)) => z.toNat
  | _ => 0

/-! ### row_by_steps -/
def spRowBy : Sp := fun vs H Q _ => ∃ (a b : Addr) (w : List Nat) (Kf : List Nat → Option (List Nat)) (L : Nat), vs = [.ref a, .ref b] ∧ H a = some (.tup (nv w)) ∧ w.length ≤ 30000 ∧ (fh Kf L w).1 ≠ none ∧
  H b = some (.lst (told w.length fun j => vn (fh Kf L (w.drop j)).2)) ∧
  ∀ (H' : Hp) (p : Addr) (qs : List Addr), Same H H' → H p = none → H' p = some (.lst (refs qs)) → Tups H' qs (row Kf L w) → Q (.ref p) H'
theorem scRB : FnScope ["signs", "steps", "row", "start", "behind"] ["signs", "steps"] (defScope sRowBy) := ⟨rfl, rfl, rfl, by decide +kernel, rfl, by decide +kernel, by decide +kernel⟩
theorem ok_rowBy {f : Addr} {fd : FuncData} (F : Fun K "row_by_steps" "row_by_steps" sRowBy f fd) (b1 : mg "len" = none) : FnOk P w K mg base CX0 1 f fd ["signs", "steps"] spRowBy := by
  refine F.ok scRB (fun vs H Q E h => ?_) (fun cdv A outer s H vs Q E hr h => ?_)
  · obtain ⟨a, b, w, Kf, L, rfl, _⟩ := h
    rfl
  · obtain ⟨a, b, w, Kf, L, rfl, ha, hlen, hsome, hb, k⟩ := h
    refine ⟨_, pss_cons (ps_set (i := 2) scRB.nd rfl (.inl rfl) (pe_lst pa_nil))
      (pss_cons (ps_set (i := 3) scRB.nd rfl (.inl rfl) pe_int)
      (pss_cons (ps_while PassesOwn.never (pt_cmpR op_lt (pv 3) (pe_callB call_len_seq (by rfl) b1 PySem.boot_len (pa_cons (pv 0) pa_nil)) (nomark _))
        (pss_cons (ps_set (i := 4) scRB.nd rfl (.inl rfl) (pe_op op_add (pv 3) (pe_ix ix_list (pv 1) (pv 3) (fun _ _ => rfl))))
        (pss_cons (ps_expr (pe_bm PySem.F.plainAttrs_list PySem.F.slot_list_append PySem.F.type_list_append mt_append (pv 2) (pa_cons (pe_slice sl_tupA (pv 0) (po_some (pv 3)) (po_some (pv 4))) pa_nil)))
        (pss_one (ps_set (i := 3) scRB.nd rfl (.inl rfl) (pv 4))))))
      (pss_one (ps_ret (pv 2))))), ?_⟩
    refine ⟨by show 0 ≤ sizeLine; decide, fun fo nf => ?_⟩
    refine while_by (fun σ H' => ∃ (st : Nat) (ls : List (List Nat)) (qs : List Addr) (v4 : Option V), σ = [some (.ref a), some (.ref b), some (.ref fo), some (vn st), v4] ∧ Same H H' ∧ H' fo = some (.lst (refs qs)) ∧ Tups H' qs ls ∧
      st ≤ w.length ∧ ls.length ≤ st ∧ (fh Kf L (w.drop st)).1 ≠ none ∧ ls ++ row Kf L (w.drop st) = row Kf L w)
      (fun σ _ => w.length - natAt σ 3) ?_ ?_ ?_
    · exact ⟨0, [], [], none, rfl, Same.upd_new nf, upd_same, .nil, Nat.zero_le _, Nat.le_refl _, hsome, rfl⟩
    · rintro σ H' ⟨st, ls, qs, v4, rfl, sm, hf, ht, hst, hls, hs, he⟩
      refine ⟨_, rfl, _, rfl, a, nv w, rfl, .inr (SqT.of (sm _ _ ha)), _, _, rfl, rfl, _, rfl, ?_⟩
      rw [nv_length]
      by_cases hlt : (st : Int) < (w.length : Int)
      · rw [decide_eq_true hlt]
        refine iteT ?_
        have hlt' : st < w.length := by omega
        have hne : w.drop st ≠ [] := fun z => by
          have := congrArg List.length z
          rw [List.length_drop, List.length_nil] at this
          omega
        obtain ⟨c, ⟨h1, h2, h3, v, b', h4, h5, h6⟩, _⟩ := fh_step hne hs
        rw [List.length_drop] at h3
        refine ⟨_, rfl, _, rfl, _, rfl, b, _, _, _, rfl, rfl, SqL.of (sm _ _ hb), atI_nat (told_get hlt'), _, _, rfl, rfl, ?_⟩
        refine ⟨_, rfl, .inl ⟨rfl, _, SqL.of hf⟩, _, rfl, _, rfl, _, rfl, _, rfl, _, rfl, ?_⟩
        have hcut : cutV (nv w) (some (st : Int)) (some ((st : Int) + ((fh Kf L (w.drop st)).2 : Int))) = nv ((w.drop st).take (fh Kf L (w.drop st)).2) := by
          have := cut_nv w st (st + (fh Kf L (w.drop st)).2) (by omega) (by omega)
          rw [Nat.add_sub_cancel_left] at this
          exact this
        refine append_tup (N := fun _ H3 => Ends.nx _ _ H3) (sm _ _ ha) hf (big _ (by rw [refs_length, ht.length]; omega)) hcut ?_ ?_
        · rintro ⟨w1, w2⟩
          rw [nv_length, HT.sIx_nat] at w1
          have e0 : st = 0 := by omega
          subst e0
          rw [nv_length, show ((0 : Nat) : Int) + ((fh Kf L (w.drop 0)).2 : Int) = (((fh Kf L (w.drop 0)).2 : Nat) : Int) by omega, HT.sIx_nat] at w2
          rw [List.drop_zero] at w2 h3 ⊢
          exact List.take_of_length_le (by omega)
        · intro H2 q sm2 hq2
          refine ⟨_, rfl, ⟨st + (fh Kf L (w.drop st)).2, ls ++ [(w.drop st).take (fh Kf L (w.drop st)).2], qs ++ [q], _, rfl, ?_, ?_, ?_, by omega, by rw [List.length_append]; simp; omega, ?_, ?_⟩, ?_⟩
          · exact Same.upd_own (sm.trans sm2) nf
          · rw [upd_same, refs_snoc]
          · refine ((ht.same sm2).snoc hq2).keep fun b xs eb => ?_
            rw [upd_ne (ne_of eb (sm2 _ _ hf) (fun z => by cases z))]
            exact eb
          · rw [← List.drop_drop, h5]
            exact fun z => by cases z
          · rw [← he, row_cons hne hs, List.append_assoc, ← List.drop_drop]
            rfl
          · show w.length - ((st : Int) + ((fh Kf L (w.drop st)).2 : Int)).toNat < w.length - ((st : Int)).toNat
            omega
      · rw [decide_eq_false hlt]
        refine iteF ?_
        have hst' : st = w.length := by omega
        refine ⟨_, rfl, k H' fo qs sm nf hf ?_⟩
        rw [hst', List.drop_length, row_nil, List.append_nil] at he
        rw [← he]
        exact ht
    · rintro σ H' Q1 Q2 hq ⟨v, e, v2, e2, p, ys, e3, hs, i, j, ei, ej, k, ek, q⟩
      exact ⟨v, e, v2, e2, p, ys, e3, hs, i, j, ei, ej, k, ek, hq _ _ q⟩

/-! ### a dict of tuples of numbers -/
def DictOf (H : Hp) (kvs : List (List L2.Key × V)) (Kf : List Nat → Option (List Nat)) : Prop := ∀ key, (valV kvs (kn key) = none ∧ Kf key = none) ∨ ∃ q v, valV kvs (kn key) = some (.ref q) ∧ Kf key = some v ∧ H q = some (.tup (nv v))
def DictAt (H : Hp) (d : Addr) (Kf : List Nat → Option (List Nat)) : Prop := ∃ kvs, H d = some (.dT kvs) ∧ DictOf H kvs Kf
theorem DictAt.same {H H' : Hp} {d : Addr} {Kf : List Nat → Option (List Nat)} (h : DictAt H d Kf) (s : Same H H') : DictAt H' d Kf := by
  obtain ⟨kvs, e, h⟩ := h
  refine ⟨kvs, s _ _ e, fun key => ?_⟩
  rcases h key with h | ⟨q, v, h1, h2, h3⟩
  · exact .inl h
  · exact .inr ⟨q, v, h1, h2, s _ _ h3⟩
/-- what the dict's get gives -/
def Got (H : Hp) : Option (List Nat) → V → Prop
  | none, x => x = .non
  | some v, x => ∃ q, x = .ref q ∧ H q = some (.tup (nv v))
/-- d.get(t[lo:hi]) -/
theorem get_cut {H : Hp} {a d : Addr} {ns l : List Nat} {lo hi : Option Int} {Kf : List Nat → Option (List Nat)} {N : VK} (h : H a = some (.tup (nv ns))) (hd : DictAt H d Kf) (hl : cutV (nv ns) lo hi = nv l)
    (hw : HT.sIx (nv ns).length 0 lo = 0 ∧ HT.sIx (nv ns).length (nv ns).length hi = (nv ns).length → l = ns)
    (k : ∀ H' x, Same H H' → Got H' (Kf l) x → N x H') : rSlA K (.ref a) lo hi H fun y H2 => ∃ o, DGet H2 d y o ∧ N (o.getD .non) H2 := by
  have fin : ∀ H' q, Same H H' → H' q = some (.tup (nv l)) → ∃ o, DGet H' d (.ref q) o ∧ N (o.getD .non) H' := by
    intro H' q sm hq
    obtain ⟨kvs, e, hk⟩ := hd.same sm
    refine ⟨valV kvs (kn l), DGet.t e (by rw [kn_kV]; exact hq), k H' _ sm ?_⟩
    rcases hk l with ⟨h1, h2⟩ | ⟨q, v, h1, h2, h3⟩
    · rw [h1, h2]
      rfl
    · rw [h1, h2]
      exact ⟨q, rfl, h3⟩
  refine ⟨a, nv ns, rfl, SqT.of h, fun w => ?_, fun _ p np => ?_⟩
  · refine fin H a (Same.refl H) ?_
    rw [hw w]
    exact h
  · rw [hl]
    exact fin _ p (Same.upd_new np) upd_same

/-! ### fewest_row -/
def co : Option Nat → V
  | none => .non
  | some c => vn c
section
variable (Kf : List Nat → Option (List Nat)) (L : Nat) (w : List Nat)
/-- counts, steps behind i turns -/
def cntF (i : Nat) (j : Nat) : V := if w.length - i ≤ j then co (fh Kf L (w.drop j)).1 else .non
def stpF (i : Nat) (j : Nat) : V := if w.length - i ≤ j then vn (fh Kf L (w.drop j)).2 else vn 0
/-- the turn at s behind k steps -/
def ist (s k : Nat) : Option Nat × Nat := (List.range k).foldl (turn Kf (w.drop s) (fw Kf L (w.drop (s + 1)))) (none, 0)
end
theorem ist_zero {Kf : List Nat → Option (List Nat)} {L : Nat} {w : List Nat} {s : Nat} : ist Kf L w s 0 = (none, 0) := rfl
theorem ist_succ {Kf : List Nat → Option (List Nat)} {L : Nat} {w : List Nat} {s k : Nat} : ist Kf L w s (k + 1) = turn Kf (w.drop s) (fw Kf L (w.drop (s + 1))) (ist Kf L w s k) k := by
  unfold ist
  rw [List.range_succ, List.foldl_append]
  rfl
theorem ist_all {Kf : List Nat → Option (List Nat)} {L : Nat} {w : List Nat} {s : Nat} (hs : s < w.length) : ist Kf L w s (min L (w.length - s)) = fh Kf L (w.drop s) := by
  have e : w.drop s = w[s] :: w.drop (s + 1) := List.drop_eq_getElem_cons hs
  rw [e, fh_cons]
  unfold ist inner
  rw [← e, List.length_drop]
theorem turn_none1 {Kf : List Nat → Option (List Nat)} {w : List Nat} {t : List (Option Nat × Nat)} {st : Option Nat × Nat} {i : Nat} (h : Kf (w.take (i + 1)) = none) : turn Kf w t st i = st := by
  unfold turn
  rw [h]
theorem turn_none2 {Kf : List Nat → Option (List Nat)} {w : List Nat} {t : List (Option Nat × Nat)} {st : Option Nat × Nat} {i : Nat} (h : (t.getD i (none, 0)).1 = none) : turn Kf w t st i = st := by
  unfold turn
  rw [h]
  cases Kf (w.take (i + 1)) <;> rfl
theorem turn_some {Kf : List Nat → Option (List Nat)} {w v : List Nat} {b : Nat} {t : List (Option Nat × Nat)} {st : Option Nat × Nat} {i : Nat} (h1 : Kf (w.take (i + 1)) = some v) (h2 : (t.getD i (none, 0)).1 = some b) :
    turn Kf w t st i = match st.1 with
      | none => (some (v.length + b), i + 1)
      | some c => if v.length + b ≤ c then (some (v.length + b), i + 1) else st := by
  unfold turn
  simp only [h1, h2] <;> rfl
theorem flat_one {α : Type} (n : Nat) (x : α) : (List.replicate n [x]).flatten = List.replicate n x := by
  induction n with
  | zero => rfl
  | succ n ih => rw [List.replicate_succ, List.flatten_cons, ih, List.replicate_succ]; rfl
theorem cnt_start {Kf : List Nat → Option (List Nat)} {L : Nat} {w : List Nat} : (List.replicate (w.length : Int).toNat [V.non]).flatten ++ [V.int 0] = told (w.length + 1) (cntF Kf L w 0) := by
  rw [Int.toNat_natCast, flat_one]
  refine List.ext_getElem? fun j => ?_
  by_cases h : j < w.length
  · rw [told_get (by omega), List.getElem?_append_left (by simp; exact h), List.getElem?_replicate, if_pos h]
    unfold cntF
    rw [if_neg (by omega)]
  · by_cases h2 : j = w.length
    · subst h2
      rw [told_get (by omega), List.getElem?_append_right (by simp)]
      unfold cntF
      rw [if_pos (by omega), List.drop_length]
      simp
      rfl
    · rw [List.getElem?_eq_none (by simp; omega), List.getElem?_eq_none (by rw [told_length]; omega)]
theorem stp_start {Kf : List Nat → Option (List Nat)} {L : Nat} {w : List Nat} : (List.replicate (w.length : Int).toNat [V.int 0]).flatten = told w.length (stpF Kf L w 0) := by
  rw [Int.toNat_natCast, flat_one]
  refine List.ext_getElem? fun j => ?_
  by_cases h : j < w.length
  · rw [told_get h, List.getElem?_replicate, if_pos h]
    unfold stpF
    rw [if_neg (by omega)]
    rfl
  · rw [List.getElem?_eq_none (by simp; omega), List.getElem?_eq_none (by rw [told_length]; omega)]
/-- counts, steps within a turn -/
def cntI (Kf : List Nat → Option (List Nat)) (L : Nat) (w : List Nat) (i s : Nat) (st : Option Nat × Nat) (j : Nat) : V := if j = s then co st.1 else cntF Kf L w i j
def stpI (Kf : List Nat → Option (List Nat)) (L : Nat) (w : List Nat) (i s : Nat) (st : Option Nat × Nat) (j : Nat) : V := if j = s then vn st.2 else stpF Kf L w i j
theorem cnt_open {Kf : List Nat → Option (List Nat)} {L : Nat} {w : List Nat} {i s : Nat} (hi : i < w.length) (hs : s = w.length - 1 - i) : told (w.length + 1) (cntF Kf L w i) = told (w.length + 1) (cntI Kf L w i s (none, 0)) := told_ext fun j _ => by
  unfold cntI
  by_cases e : j = s
  · rw [if_pos e]
    unfold cntF
    rw [if_neg (by omega)]
    rfl
  · rw [if_neg e]
theorem stp_open {Kf : List Nat → Option (List Nat)} {L : Nat} {w : List Nat} {i s : Nat} (hi : i < w.length) (hs : s = w.length - 1 - i) : told w.length (stpF Kf L w i) = told w.length (stpI Kf L w i s (none, 0)) := told_ext fun j _ => by
  unfold stpI
  by_cases e : j = s
  · rw [if_pos e]
    unfold stpF
    rw [if_neg (by omega)]
  · rw [if_neg e]
theorem cnt_close {Kf : List Nat → Option (List Nat)} {L : Nat} {w : List Nat} {i s : Nat} (hi : i < w.length) (hs : s = w.length - 1 - i) : told (w.length + 1) (cntI Kf L w i s (fh Kf L (w.drop s))) = told (w.length + 1) (cntF Kf L w (i + 1)) := told_ext fun j _ => by
  unfold cntI cntF
  by_cases e : j = s
  · rw [if_pos e, if_pos (by omega), e]
  · rw [if_neg e]
    by_cases h : w.length - i ≤ j
    · rw [if_pos h, if_pos (by omega)]
    · rw [if_neg h, if_neg (by omega)]
theorem stp_close {Kf : List Nat → Option (List Nat)} {L : Nat} {w : List Nat} {i s : Nat} (hi : i < w.length) (hs : s = w.length - 1 - i) : told w.length (stpI Kf L w i s (fh Kf L (w.drop s))) = told w.length (stpF Kf L w (i + 1)) := told_ext fun j _ => by
  unfold stpI stpF
  by_cases e : j = s
  · rw [if_pos e, if_pos (by omega), e]
  · rw [if_neg e]
    by_cases h : w.length - i ≤ j
    · rw [if_pos h, if_pos (by omega)]
    · rw [if_neg h, if_neg (by omega)]
theorem cnt_set {Kf : List Nat → Option (List Nat)} {L : Nat} {w : List Nat} {i s : Nat} {st st' : Option Nat × Nat} (hs : s < w.length) : (told (w.length + 1) (cntI Kf L w i s st)).set s (co st'.1) = told (w.length + 1) (cntI Kf L w i s st') := by
  rw [told_set (by omega)]
  refine told_ext fun j _ => ?_
  unfold cntI
  by_cases e : j = s
  · rw [if_pos e, if_pos e]
  · rw [if_neg e, if_neg e, if_neg e]
theorem stp_set {Kf : List Nat → Option (List Nat)} {L : Nat} {w : List Nat} {i s : Nat} {st st' : Option Nat × Nat} (hs : s < w.length) : (told w.length (stpI Kf L w i s st)).set s (vn st'.2) = told w.length (stpI Kf L w i s st') := by
  rw [told_set hs]
  refine told_ext fun j _ => ?_
  unfold stpI
  by_cases e : j = s
  · rw [if_pos e, if_pos e]
  · rw [if_neg e, if_neg e, if_neg e]
theorem ixN_nat {n j : Nat} (h : j < n) : ixN n (j : Int) = some j := by
  unfold ixN
  rw [if_pos (by omega), if_pos (by omega), Int.toNat_natCast]
theorem co_non {o : Option Nat} : co o = .non ↔ o = none := by
  cases o with
  | none => exact ⟨fun _ => rfl, fun _ => rfl⟩
  | some c => exact ⟨fun z => (by cases z), fun z => (by cases z)⟩
theorem or_split {A B : Prop} {c1 : Bool} (h1 : c1 = true → A) (h2 : c1 = false → B) : if c1 = true then A else B := by
  cases c1 with
  | true => exact iteT (h1 rfl)
  | false => exact iteF (h2 rfl)
def spFewest : Sp := fun vs H Q _ => ∃ (a d : Addr) (w : List Nat) (Kf : List Nat → Option (List Nat)) (L : Nat), vs = [.ref a, .ref d, vn L] ∧ H a = some (.tup (nv w)) ∧ DictAt H d Kf ∧ w.length ≤ 30000 ∧ L ≤ 1000 ∧
  ((fh Kf L w).1 = none → ∀ H', Same H H' → Q .non H') ∧
  ((fh Kf L w).1 ≠ none → ∀ (H' : Hp) (p : Addr) (qs : List Addr), Same H H' → H p = none → H' p = some (.lst (refs qs)) → Tups H' qs (row Kf L w) → Q (.ref p) H')
theorem scFR : FnScope ["signs", "known", "longest", "counts", "steps", "start", "step", "value", "behind"] ["signs", "known", "longest"] (defScope sFewest) := ⟨rfl, rfl, rfl, by decide +kernel, rfl, by decide +kernel, by decide +kernel⟩
theorem ok_fewest {f fR : Addr} {fd fdR : FuncData} (F : Fun K "fewest_row" "fewest_row" sFewest f fd) (FR : Fun K "row_by_steps" "row_by_steps" sRowBy fR fdR) (bR : Binds K fdR ["signs", "steps"] []) (gR : mg "row_by_steps" = some (.ref fR))
    (b1 : mg "len" = none) (b2 : mg "range" = none) (b3 : mg "min" = none) : FnOk P w K mg base CX0 2 f fd ["signs", "known", "longest"] spFewest := by
  have GR : FnOk P w K mg base CX0 1 fR fdR ["signs", "steps"] spRowBy := ok_rowBy FR b1
  refine F.ok scFR (fun vs H Q E h => ?_) (fun cdv A outer s H vs Q E hr h => ?_)
  · obtain ⟨a, d, w, Kf, L, rfl, _⟩ := h
    rfl
  · obtain ⟨a, d, w, Kf, L, rfl, ha, hd, hlen, hL, kN, kS⟩ := h
    refine ⟨_, pss_cons (ps_set (i := 3) scFR.nd rfl (.inl rfl) (pe_op op_cat (pe_op op_rep (pe_lst (pa_cons pe_non pa_nil)) (pe_callB call_len_seq (by rfl) b1 PySem.boot_len (pa_cons (pv 0) pa_nil))) (pe_lst (pa_cons pe_int pa_nil))))
      (pss_cons (ps_set (i := 4) scFR.nd rfl (.inl rfl) (pe_op op_rep (pe_lst (pa_cons pe_int pa_nil)) (pe_callB call_len_seq (by rfl) b1 PySem.boot_len (pa_cons (pv 0) pa_nil))))
      (pss_cons (ps_for PassesOwn.never rfl (pi_range3 rfl b2 (pa_cons (pe_op op_sub (pe_callB call_len_seq (by rfl) b1 PySem.boot_len (pa_cons (pv 0) pa_nil)) pe_int) (pa_cons (pe_un un_neg pe_int) (pa_cons (pe_un un_neg pe_int) pa_nil)))) (pg_name (i := 5) scFR.nd rfl (.inl rfl))
        (pss_one (ps_for PassesOwn.never rfl (pi_range2 rfl b2 (pa_cons pe_int (pa_cons (pe_op op_add (pe_callB (call_min2 rfl) (by rfl) b3 (by decide +kernel) (pa_cons (pv 2) (pa_cons (pe_op op_sub (pe_callB call_len_seq (by rfl) b1 PySem.boot_len (pa_cons (pv 0) pa_nil)) (pv 5)) pa_nil))) pe_int) pa_nil))) (pg_name (i := 6) scFR.nd rfl (.inl rfl))
          (pss_cons (ps_set (i := 7) scFR.nd rfl (.inl rfl) (pe_dget1 (hu_of hr) (pv 1) (pe_slice sl_tupA (pv 0) (po_some (pv 5)) (po_some (pe_op op_add (pv 5) (pv 6)))) ⟨rfl, rfl, rfl, rfl⟩))
          (pss_cons (ps_set (i := 8) scFR.nd rfl (.inl rfl) (pe_ix ix_list (pv 3) (pe_op op_add (pv 5) (pv 6)) (fun _ _ => rfl)))
          (pss_cons (ps_if (PW.pt (pw_or (pt_cmpR op_isN (pv 7) pe_non (nomark _)) (pw_or1 (pt_cmpR op_isN (pv 8) pe_non (nomark _))))) (pss_one ps_continue) pss_nil)
          (pss_one (ps_if (PW.pt (pw_or (pt_cmpR op_isN (pe_ix ix_list (pv 3) (pv 5) (fun _ _ => rfl)) pe_non (nomark _)) (pw_or1 (pt_cmpR op_le (pe_op op_add (pe_callB call_len_seq (by rfl) b1 PySem.boot_len (pa_cons (pv 7) pa_nil)) (pv 8)) (pe_ix ix_list (pv 3) (pv 5) (fun _ _ => rfl)) (nomark _)))))
            (pss_cons (ps_asg (pe_op op_add (pe_callB call_len_seq (by rfl) b1 PySem.boot_len (pa_cons (pv 7) pa_nil)) (pv 8)) (pg_sub (pv 3) (pv 5) set_list))
            (pss_one (ps_asg (pv 6) (pg_sub (pv 4) (pv 5) set_list)))) pss_nil))))))))
      (pss_cons (ps_if (pt_cmpR op_isN (pe_ix ix_list (pv 3) pe_int (fun _ _ => rfl)) pe_non (nomark _)) (pss_one (ps_ret pe_non)) pss_nil)
      (pss_one (ps_ret (pe_call GR hr (by rfl) gR FR.kp bR .nil pass0 (pa_cons (pv 0) (pa_cons (pv 4) pa_nil)))))))), ?_⟩
    have n62 : (w.length : Int) ≤ 30000 := by omega
    -- counts = [None] * len(signs) + [0]
    refine ⟨by show 1 ≤ sizeLine; decide, fun p1 n1 => ⟨_, rfl, a, nv w, rfl, .inr (SqT.of (Same.upd_new n1 _ _ ha)), ?_⟩⟩
    rw [nv_length]
    refine ⟨p1, (w.length : Int), [.non], rfl, rfl, upd_same, by omega, by omega, (by show 1 * (w.length : Int).toNat ≤ sizeLine; rw [Int.toNat_natCast]; exact Nat.le_of_lt (big _ (by omega))), fun p2 n2 => ?_⟩
    refine ⟨by show 1 ≤ sizeLine; decide, fun p3 n3 => ?_⟩
    have s2 := (Same.upd_new (o := .lst [.non]) n1).trans (Same.upd_new (o := .lst (List.replicate (w.length : Int).toNat [V.non]).flatten) n2)
    have s3 := s2.trans (Same.upd_new (o := .lst [.int 0]) n3)
    refine ⟨p2, p3, _, _, rfl, rfl, Same.upd_new n3 _ _ upd_same, upd_same, ?_, fun c nc => ?_⟩
    · rw [Int.toNat_natCast, flat_one, List.length_replicate]
      exact Nat.le_of_lt (big _ (by show w.length + 1 ≤ 10000000; omega))
    have s4 := s3.trans (Same.upd_new (o := .lst ((List.replicate (w.length : Int).toNat [V.non]).flatten ++ [.int 0])) nc)
    -- steps = [0] * len(signs)
    refine ⟨by show 1 ≤ sizeLine; decide, fun p4 n4 => ⟨_, rfl, a, nv w, rfl, .inr (SqT.of ((s4.trans (Same.upd_new n4)) _ _ ha)), ?_⟩⟩
    rw [nv_length]
    refine ⟨p4, (w.length : Int), [.int 0], rfl, rfl, upd_same, by omega, by omega, (by show 1 * (w.length : Int).toNat ≤ sizeLine; rw [Int.toNat_natCast]; exact Nat.le_of_lt (big _ (by omega))), fun t nt => ?_⟩
    have s5 := Same.trans (Same.upd_new (o := .lst [.int 0]) n4) (Same.upd_new (o := .lst (List.replicate (w.length : Int).toNat [V.int 0]).flatten) nt)
    have hc0 := s5 _ _ (upd_same (H := upd (upd (upd H p1 (.lst [.non])) p2 (.lst (List.replicate (w.length : Int).toNat [V.non]).flatten)) p3 (.lst [.int 0])) (a := c) (o := .lst ((List.replicate (w.length : Int).toNat [V.non]).flatten ++ [.int 0])))
    have hcn : H c = none := s3.free nc
    have htn : H t = none := (s4.trans (Same.upd_new n4)).free nt
    have hct : c ≠ t := fun z => by
      subst z
      rw [upd_ne (ne_of_none upd_same n4), upd_same] at nt
      cases nt
    have s6 := (s4.trans (Same.upd_new (o := .lst [.int 0]) n4)).trans (Same.upd_new (o := .lst (List.replicate (w.length : Int).toNat [V.int 0]).flatten) nt)
    -- for start in range(len(signs) - 1, -1, -1)
    refine ⟨_, rfl, a, nv w, rfl, .inr (SqT.of (s6 _ _ ha)), _, _, rfl, rfl, _, rfl, _, rfl, _, _, _, w.length, rfl, ?_, ?_⟩
    · have := RgC.neg (i := (w.length : Int) - 1) (j := -1) (by omega) (by omega) (by omega) (by omega)
      rw [show ((w.length : Int) - 1 - (-1)).toNat = w.length by omega] at this
      rw [nv_length]
      exact this
    refine for_rangeC (fun i σ H' => ∃ v5 v6 v7 v8 : Option V, σ = [some (.ref a), some (.ref d), some (vn L), some (.ref c), some (.ref t), v5, v6, v7, v8] ∧ Same H H' ∧
      H' c = some (.lst (told (w.length + 1) (cntF Kf L w i))) ∧ H' t = some (.lst (told w.length (stpF Kf L w i)))) ?_ ?_ ?_
    · refine ⟨_, _, _, _, rfl, s6, ?_, ?_⟩
      · rw [← cnt_start]
        exact hc0
      · rw [← stp_start]
        exact upd_same
    · rintro i σ H1 hi ⟨v5, v6, v7, v8, rfl, sm, hc, ht⟩
      obtain ⟨s, hs⟩ : ∃ s, s = w.length - 1 - i := ⟨_, rfl⟩
      have hsl : s < w.length := by omega
      have es : (((nv w).length : Nat) : Int) - 1 + (i : Int) * (-1) = (s : Int) := by
        rw [nv_length]
        omega
      rw [es]
      rw [cnt_open hi hs] at hc
      rw [stp_open hi hs] at ht
      obtain ⟨m, hm⟩ : ∃ m, m = min L (w.length - s) := ⟨_, rfl⟩
      have em : (if (((nv w).length : Nat) : Int) - (s : Int) < (L : Int) then (((nv w).length : Nat) : Int) - (s : Int) else (L : Int)) = (m : Int) := by
        rw [nv_length]
        split <;> omega
      -- for step in range(1, min(longest, len(signs) - start) + 1)
      refine ⟨_, rfl, _, rfl, a, nv w, rfl, .inr (SqT.of (sm _ _ ha)), _, rfl, _, _, rfl, rfl, _, _, rfl, _, _, rfl, rfl, _, _, rfl, ⟨by omega, by omega, ?_, ?_⟩, ?_⟩
      · rw [em]
        omega
      · rw [em]
        omega
      rw [em, show ((m : Int) + 1 - 1).toNat = m by omega]
      refine for_range (fun k σ H' => ∃ v6 v7 v8 : Option V, σ = [some (.ref a), some (.ref d), some (vn L), some (.ref c), some (.ref t), some (vn s), v6, v7, v8] ∧ Same H H' ∧
        H' c = some (.lst (told (w.length + 1) (cntI Kf L w i s (ist Kf L w s k)))) ∧ H' t = some (.lst (told w.length (stpI Kf L w i s (ist Kf L w s k))))) ?_ ?_ ?_
      · exact ⟨_, _, _, rfl, sm, hc, ht⟩
      · rintro k σ H2 hk ⟨v6, v7, v8, rfl, sm2, hc2, ht2⟩
        have hkl : s + (k + 1) ≤ w.length := by omega
        have ek : (1 : Int) + ((k : Nat) : Int) = ((k + 1 : Nat) : Int) := by omega
        rw [ek]
        have esk : (s : Int) + ((k + 1 : Nat) : Int) = ((s + (k + 1) : Nat) : Int) := by omega
        -- value = known.get(signs[start:start + step])
        refine ⟨_, rfl, d, rfl, ?_, _, rfl, _, rfl, _, rfl, _, rfl, _, rfl, _, _, rfl, rfl, _, rfl, ?_⟩
        · obtain ⟨kvs, e, _⟩ := hd
          exact .inr ⟨kvs, .inl (sm2 _ _ e)⟩
        rw [esk]
        have hcut := cut_nv w s (s + (k + 1)) (by omega) hkl
        rw [Nat.add_sub_cancel_left] at hcut
        refine get_cut (N := fun x H => gName 7 x _ H _) (sm2 _ _ ha) (hd.same sm2) hcut ?_ ?_
        · rintro ⟨w1, w2⟩
          rw [nv_length, HT.sIx_nat] at w1 w2
          have e0 : s = 0 := by omega
          subst e0
          rw [List.drop_zero]
          exact List.take_of_length_le (by omega)
        · intro H3 x sm3 hx
          have hc3 := sm3 _ _ hc2
          have ht3 := sm3 _ _ ht2
          -- behind = counts[start + step]
          refine ⟨_, rfl, _, rfl, _, rfl, _, _, rfl, rfl, c, _, _, co (fh Kf L (w.drop (s + (k + 1)))).1, rfl, rfl, SqL.of hc3, ?_, ?_⟩
          · rw [esk]
            refine atI_nat ((told_get (by omega)).trans ?_)
            unfold cntI cntF
            rw [if_neg (by omega), if_pos (by omega)]
          have smt : Same H H3 := sm2.trans sm3
          have hlk : k ≤ (w.drop (s + 1)).length := by rw [List.length_drop]; omega
          have eg : ((fw Kf L (w.drop (s + 1))).getD k (none, 0)).1 = (fh Kf L (w.drop (s + (k + 1)))).1 := by
            rw [fw_getD hlk, List.drop_drop, show s + 1 + k = s + (k + 1) by omega]
          -- if value is None or behind is None: continue
          refine ⟨_, rfl, rfl, _, rfl, ?_⟩
          cases hkf : Kf ((w.drop s).take (k + 1)) with
          | none =>
            rw [hkf] at hx
            have hx : x = .non := hx
            subst hx
            refine iteT (iteT ⟨_, _, _, rfl, smt, ?_, ?_⟩)
            · rw [ist_succ, turn_none1 hkf]
              exact hc3
            · rw [ist_succ, turn_none1 hkf]
              exact ht3
          | some v =>
            rw [hkf] at hx
            obtain ⟨q, rfl, hq⟩ := hx
            refine iteF ⟨_, rfl, rfl, _, rfl, ?_⟩
            cases hb : (fh Kf L (w.drop (s + (k + 1)))).1 with
            | none =>
              refine iteT ⟨_, _, _, rfl, smt, ?_, ?_⟩
              · rw [ist_succ, turn_none2 (eg.trans hb)]
                exact hc3
              · rw [ist_succ, turn_none2 (eg.trans hb)]
                exact ht3
            | some b =>
              refine iteF ?_
              have gc : (told (w.length + 1) (cntI Kf L w i s (ist Kf L w s k)))[s]? = some (co (ist Kf L w s k).1) := (told_get (by omega)).trans (by unfold cntI; rw [if_pos rfl])
              -- the count and the step are laid down
              have lay : ist Kf L w s (k + 1) = (some (v.length + b), k + 1) → ∃ v6 v7 v8 : Option V, [some (.ref a), some (.ref d), some (vn L), some (.ref c), some (.ref t), some (vn s), some (vn (k + 1)), some (.ref q), some (vn b)] = [some (.ref a), some (.ref d), some (vn L), some (.ref c), some (.ref t), some (vn s), v6, v7, v8] ∧
                  Same H (upd (upd H3 c (.lst ((told (w.length + 1) (cntI Kf L w i s (ist Kf L w s k))).set s (.int (((nv v).length : Nat) + (b : Int)))))) t (.lst ((told w.length (stpI Kf L w i s (ist Kf L w s k))).set s (vn (k + 1))))) ∧
                  (upd (upd H3 c (.lst ((told (w.length + 1) (cntI Kf L w i s (ist Kf L w s k))).set s (.int (((nv v).length : Nat) + (b : Int)))))) t (.lst ((told w.length (stpI Kf L w i s (ist Kf L w s k))).set s (vn (k + 1))))) c = some (.lst (told (w.length + 1) (cntI Kf L w i s (ist Kf L w s (k + 1))))) ∧
                  (upd (upd H3 c (.lst ((told (w.length + 1) (cntI Kf L w i s (ist Kf L w s k))).set s (.int (((nv v).length : Nat) + (b : Int)))))) t (.lst ((told w.length (stpI Kf L w i s (ist Kf L w s k))).set s (vn (k + 1))))) t = some (.lst (told w.length (stpI Kf L w i s (ist Kf L w s (k + 1))))) := by
                intro e
                refine ⟨_, _, _, rfl, Same.upd_own (Same.upd_own smt hcn) htn, ?_, ?_⟩
                · have z := cnt_set (Kf := Kf) (L := L) (w := w) (i := i) (s := s) (st := ist Kf L w s k) (st' := (some (v.length + b), k + 1)) hsl
                  rw [upd_ne hct, upd_same, e, ← z, nv_length]
                  rfl
                · have z := stp_set (Kf := Kf) (L := L) (w := w) (i := i) (s := s) (st := ist Kf L w s k) (st' := (some (v.length + b), k + 1)) hsl
                  rw [upd_same, e, ← z]
              -- if counts[start] is None or len(value) + behind <= counts[start]
              refine ⟨_, rfl, _, rfl, c, _, _, _, rfl, rfl, SqL.of hc3, atI_nat gc, rfl, _, rfl, ?_⟩
              cases hst : (ist Kf L w s k).1 with
              | none =>
                refine iteT (iteT ?_)
                refine ⟨_, rfl, q, _, rfl, .inr (SqT.of hq), _, rfl, _, _, rfl, rfl, _, rfl, _, rfl, c, _, _, s, rfl, rfl, hc3, ixN_nat (by rw [told_length]; omega), ?_⟩
                refine ⟨_, rfl, _, rfl, _, rfl, t, _, _, s, rfl, rfl, (by rw [upd_ne hct.symm]; exact ht3), ixN_nat (by rw [told_length]; exact hsl), ?_⟩
                refine lay ?_
                rw [ist_succ, turn_some hkf (eg.trans hb), hst]
              | some c0 =>
                refine iteF ⟨_, rfl, q, _, rfl, .inr (SqT.of hq), _, rfl, _, _, rfl, rfl, _, rfl, _, rfl, c, _, _, _, rfl, rfl, SqL.of hc3, atI_nat gc, ?_⟩
                rw [hst]
                refine ⟨_, _, rfl, rfl, _, rfl, ?_⟩
                rw [nv_length]
                by_cases hle : v.length + b ≤ c0
                · rw [decide_eq_true (show (v.length : Int) + (b : Int) ≤ (c0 : Int) by omega)]
                  refine iteT ?_
                  refine ⟨_, rfl, q, _, rfl, .inr (SqT.of hq), _, rfl, _, _, rfl, rfl, _, rfl, _, rfl, c, _, _, s, rfl, rfl, hc3, ixN_nat (by rw [told_length]; omega), ?_⟩
                  refine ⟨_, rfl, _, rfl, _, rfl, t, _, _, s, rfl, rfl, (by rw [upd_ne hct.symm]; exact ht3), ixN_nat (by rw [told_length]; exact hsl), ?_⟩
                  refine lay ?_
                  rw [ist_succ, turn_some hkf (eg.trans hb), hst]
                  exact if_pos hle
                · rw [decide_eq_false (show ¬ (v.length : Int) + (b : Int) ≤ (c0 : Int) by omega)]
                  have e : ist Kf L w s (k + 1) = ist Kf L w s k := by
                    rw [ist_succ, turn_some hkf (eg.trans hb), hst]
                    exact if_neg hle
                  refine iteF ⟨_, _, _, rfl, smt, ?_, ?_⟩
                  · rw [e]
                    exact hc3
                  · rw [e]
                    exact ht3
      · rintro σ H2 ⟨v6, v7, v8, rfl, sm2, hc2, ht2⟩
        rw [hm, ist_all hsl, cnt_close hi hs] at hc2
        rw [hm, ist_all hsl, stp_close hi hs] at ht2
        exact ⟨_, _, _, _, rfl, sm2, hc2, ht2⟩
    · rintro σ H1 ⟨v5, v6, v7, v8, rfl, sm, hc, ht⟩
      have c0 : cntF Kf L w w.length 0 = co (fh Kf L w).1 := by
        unfold cntF
        rw [if_pos (by omega), List.drop_zero]
      refine ⟨_, rfl, c, _, _, _, rfl, rfl, SqL.of hc, atI_nat (j := 0) ((told_get (by omega)).trans (by rw [c0])), rfl, _, rfl, ?_⟩
      by_cases hz : (fh Kf L w).1 = none
      · rw [hz]
        exact iteT (kN hz H1 sm)
      · rw [decide_eq_false (fun z => hz (co_non.mp z))]
        refine iteF ⟨_, rfl, _, rfl, a, t, w, Kf, L, rfl, sm _ _ ha, hlen, hz, ?_, fun H2 p qs sm2 hp h1 h2 => kS hz H2 p qs (sm.trans sm2) (sm.free hp) h1 h2⟩
        rw [ht]
        refine congrArg some (congrArg HO.lst (told_ext fun j _ => ?_))
        unfold stpF
        rw [if_pos (by omega)]
end
end Fc

set_option Elab.async false
set_option linter.all false
set_option maxRecDepth 100000
set_option maxHeartbeats 4000000
/-! tables.py: Table; rows.py: texts_of_word, cells_of_text, text_of_cells -/
namespace Fc
open PySem PySem.Spec PyProof.Rows L2 FcR
abbrev sTableInit : Stmt := inClass (top 14) 0
abbrev sTextsOf : Stmt := top 21
abbrev sCellsOf : Stmt := top 22
abbrev sTextOf : Stmt := top 23

/-! ### fields -/
theorem lk_here {k : Str} {v : V} {r : List (Str × V)} : List.lookup k ((k, v) :: r) = some v := by
  have e : (k == k) = true := beq_self_eq_true k
  simp only [List.lookup, e]
theorem lk_past {k g : Str} {v : V} {r : List (Str × V)} (h : (k == g) = false) : List.lookup k ((g, v) :: r) = List.lookup k r := by
  simp only [List.lookup, h]
theorem put_here {f : Str} {v x : V} {r : List (Str × V)} : putF f v ((f, x) :: r) = (f, v) :: r := if_pos rfl
theorem put_past {f g : Str} {v x : V} {r : List (Str × V)} (h : ¬ g = f) : putF f v ((g, x) :: r) = (g, x) :: putF f v r := if_neg h

/-! ### dicts that are filled -/
/-- keys and values, tuple by tuple -/
abbrev Ents (H : Hp) : List (List L2.Key × V) → List (List Nat × List Nat) → Prop := Paired fun p e => p.1 = kn e.1 ∧ ∃ q, p.2 = .ref q ∧ H q = some (.tup (nv e.2))
theorem Ents.keep {H H' : Hp} {kvs : List (List L2.Key × V)} {es : List (List Nat × List Nat)} (t : Ents H kvs es) (h : ∀ b xs, H b = some (.tup xs) → H' b = some (.tup xs)) : Ents H' kvs es :=
  Paired.mapP t fun p e z => ⟨z.1, let ⟨q, h1, h2⟩ := z.2; ⟨q, h1, h q _ h2⟩⟩
theorem Ents.none {H : Hp} {kvs : List (List L2.Key × V)} {es : List (List Nat × List Nat)} {key : List Nat} (t : Ents H kvs es) (h : ∀ e ∈ es, e.1 ≠ key) : valV kvs (kn key) = none := by
  induction t with
  | nil => rfl
  | @cons p e ps es hp _ ih =>
    rw [valV_neg (fun z => h e (List.mem_cons_self ..) (kn_inj (hp.1.symm.trans z)))]
    exact ih fun x hx => h x (List.mem_cons_of_mem _ hx)
theorem Ents.get {H : Hp} {kvs : List (List L2.Key × V)} {es : List (List Nat × List Nat)} {e : List Nat × List Nat} (t : Ents H kvs es) (hn : (es.map (·.1)).Nodup) (h : e ∈ es) : ∃ q, valV kvs (kn e.1) = some (.ref q) ∧ H q = some (.tup (nv e.2)) := by
  induction t with
  | nil => cases h
  | @cons p x ps es hp _ ih =>
    rw [List.map_cons, List.nodup_cons] at hn
    rcases List.mem_cons.mp h with rfl | h
    · obtain ⟨h1, q, h2, h3⟩ := hp
      exact ⟨q, by rw [valV_pos h1, h2], h3⟩
    · have hne : x.1 ≠ e.1 := fun z => hn.1 (List.mem_map.mpr ⟨e, h, z.symm⟩)
      rw [valV_neg (fun z => hne (kn_inj (hp.1.symm.trans z)))]
      exact ih hn.2 h
theorem Ents.snoc {H : Hp} {kvs : List (List L2.Key × V)} {es : List (List Nat × List Nat)} {k v : List Nat} {q : Addr} (t : Ents H kvs es) (h : H q = some (.tup (nv v))) : Ents H (kvs ++ [(kn k, .ref q)]) (es ++ [(k, v)]) :=
  Paired.snoc t ⟨rfl, q, rfl, h⟩
theorem Ents.dict {H : Hp} {kvs : List (List L2.Key × V)} {es : List (List Nat × List Nat)} {Kf : List Nat → Option (List Nat)} (t : Ents H kvs es) (hn : (es.map (·.1)).Nodup) (h : ∀ k v, Kf k = some v ↔ (k, v) ∈ es) : DictOf H kvs Kf := by
  intro key
  cases e : Kf key with
  | none =>
    refine .inl ⟨t.none fun x hx z => ?_, rfl⟩
    have := (h key x.2).mpr (by rw [← z]; exact hx)
    rw [e] at this
    cases this
  | some v =>
    right
    obtain ⟨q, h1, h2⟩ := t.get hn ((h key v).mp e)
    exact ⟨q, v, h1, rfl, h2⟩
theorem DictAt.get {H : Hp} {d b : Addr} {Kf : List Nat → Option (List Nat)} {key v : List Nat} (h : DictAt H d Kf) (hb : H b = some (.tup (nv key))) (hk : Kf key = some v) : ∃ q, DGet H d (.ref b) (some (.ref q)) ∧ H q = some (.tup (nv v)) := by
  obtain ⟨kvs, e, h⟩ := h
  rcases h key with ⟨_, h2⟩ | ⟨q, v', h1, h2, h3⟩
  · rw [hk] at h2
    cases h2
  · rw [hk] at h2
    cases h2
    refine ⟨q, ?_, h3⟩
    rw [← h1]
    exact DGet.t e (by rw [kn_kV]; exact hb)

/-! ### a table's object -/
def tabF (d1 d2 : Addr) : List (Str × V) := [("cells_by_text", .ref d1), ("text_by_cells", .ref d2)]
def TableAt (C : Addr) (H : Hp) (a : Addr) (t : Km344.Table) : Prop := ∃ dx d1 d2, H a = some (.ins C dx (tabF d1 d2)) ∧ DictAt H d1 (cellsAt t) ∧ DictAt H d2 (textAt t)
theorem TableAt.same {C : Addr} {H H' : Hp} {a : Addr} {t : Km344.Table} (h : TableAt C H a t) (s : Same H H') : TableAt C H' a t := by
  obtain ⟨dx, d1, d2, h1, h2, h3⟩ := h
  exact ⟨dx, d1, d2, s _ _ h1, h2.same s, h3.same s⟩
theorem tabF_1 (d1 d2 : Addr) : (tabF d1 d2).lookup ("cells_by_text" : Str) = some (.ref d1) := lk_here
theorem tabF_2 (d1 d2 : Addr) : (tabF d1 d2).lookup ("text_by_cells" : Str) = some (.ref d2) := (lk_past (by decide +kernel)).trans lk_here
theorem tabF_new (d1 d2 : Addr) : putF "text_by_cells" (.ref d2) (putF "cells_by_text" (.ref d1) []) = tabF d1 d2 := (put_past (by decide +kernel)).trans rfl
structure TxtT (K : PySem.W.Frag) (C : Addr) : Prop where
  cl : Cls K C
  n1 : NoAttr K C "cells_by_text"
  n2 : NoAttr K C "text_by_cells"

/-- entries as the program keeps them: a pair of tuples each -/
def EntAt (H : Hp) (q : Addr) (e : Km344.Entry) : Prop := ∃ q1 q2, H q = some (.tup [.ref q1, .ref q2]) ∧ H q1 = some (.tup (nv e.text)) ∧ H q2 = some (.tup (nv e.cells))
abbrev EntsAt (H : Hp) : List Addr → Km344.Table → Prop := Paired (EntAt H)
theorem EntAt.keep {H H' : Hp} {q : Addr} {e : Km344.Entry} (t : EntAt H q e) (h : ∀ b xs, H b = some (.tup xs) → H' b = some (.tup xs)) : EntAt H' q e := by
  obtain ⟨q1, q2, h1, h2, h3⟩ := t
  exact ⟨q1, q2, h _ _ h1, h _ _ h2, h _ _ h3⟩
theorem EntsAt.keep {H H' : Hp} {qs : List Addr} {t : Km344.Table} (h : EntsAt H qs t) (k : ∀ b xs, H b = some (.tup xs) → H' b = some (.tup xs)) : EntsAt H' qs t := Paired.mapP h fun _ _ z => z.keep k
theorem EntsAt.get' {H : Hp} : ∀ {qs : List Addr} {t : Km344.Table} {i : Nat} {q : Addr}, EntsAt H qs t → qs[i]? = some q → ∃ e, t[i]? = some e ∧ EntAt H q e
  | _, _, _, _, .nil, e => by simp at e
  | _, _, 0, _, .cons r _, e => by simp at e; subst e; exact ⟨_, rfl, r⟩
  | _, _, i + 1, q, .cons _ t, e => by
    obtain ⟨l, h1, h2⟩ := EntsAt.get' (i := i) (q := q) t (by simpa using e)
    exact ⟨l, by simpa using h1, h2⟩
theorem nodup_ix' {α : Type} {l : List α} (hN : l.Nodup) {i j : Nat} {x : α} (a : l[i]? = some x) (b : l[j]? = some x) : i = j := by
  obtain ⟨h1, e1⟩ := List.getElem?_eq_some_iff.mp a
  obtain ⟨h2, e2⟩ := List.getElem?_eq_some_iff.mp b
  exact (List.getElem_inj hN).mp (e1.trans e2.symm)
theorem take_more {α : Type} {l : List α} {i : Nat} {x : α} (h : l[i]? = some x) : l.take (i + 1) = l.take i ++ [x] := by
  rw [List.take_succ, h]
  rfl

section
variable {P : Program} {w : World} {K : PySem.W.Frag} {mg : Str → Option Value} {base : Heap}
def spTableInit (K : PySem.W.Frag) (C : Addr) : Sp := fun vs H Q _ => ∃ (p dx a : Addr) (qs : List Addr) (t : Km344.Table), vs = [.ref p, .ref a] ∧ H p = some (.ins C dx []) ∧ H a = some (.lst (refs qs)) ∧ EntsAt H qs t ∧
  (t.map Km344.Entry.text).Nodup ∧ (t.map Km344.Entry.cells).Nodup ∧ t.length ≤ 30000 ∧
  ∀ H' : Hp, TableAt C H' p t → Keep [p] H H' → Q .non H'
theorem scTI : FnScope ["self", "entries", "text", "cells"] ["self", "entries"] (defScope sTableInit) := ⟨rfl, rfl, rfl, by decide +kernel, rfl, by decide +kernel, by decide +kernel⟩
theorem ok_tableInit {f C : Addr} {fd : FuncData} (F : Fun K "__init__" "Table.__init__" sTableInit f fd) (T : TxtT K C) : FnOk P w K mg base CX0 1 f fd ["self", "entries"] (spTableInit K C) := by
  refine F.ok scTI (fun vs H Q E h => ?_) (fun cdv A outer s H vs Q E hr h => ?_)
  · obtain ⟨p, dx, a, qs, t, rfl, _⟩ := h
    rfl
  · obtain ⟨p, dx, a, qs, t, rfl, hp, ha, he, hnt, hnc, hlen, k⟩ := h
    refine ⟨_, pss_cons (ps_fld (pv 0) pe_dnewT rfl) (pss_cons (ps_fld (pv 0) pe_dnewT rfl)
      (pss_one (ps_for PassesOwn.never rfl (pi_list (pv 1)) (pg_tup rfl (pgs_cons (pg_name (i := 2) scTI.nd rfl (.inl rfl)) (pgs_cons (pg_name (i := 3) scTI.nd rfl (.inl rfl)) pgs_nil)))
        (pss_cons (ps_dput (hu_of hr) (pe_fld (pv 0) rfl) (pv 2) (pv 3) rfl)
        (pss_one (ps_dput (hu_of hr) (pe_fld (pv 0) rfl) (pv 3) (pv 2) rfl)))))), ?_⟩
    intro d1 n1
    have p1 : p ≠ d1 := ne_of_none hp n1
    refine ⟨_, rfl, p, C, dx, [], rfl, (by rw [upd_ne p1]; exact hp), T.cl, T.n1, (by show 0 < 1000; decide), ?_⟩
    intro d2 n2
    have p2 : p ≠ d2 := fun z => by subst z; rw [upd_same] at n2; cases n2
    have d12 : d1 ≠ d2 := fun z => by subst z; rw [upd_ne p1.symm, upd_same] at n2; cases n2
    have n2' : H d2 = none := by rw [upd_ne p2.symm, upd_ne d12.symm] at n2; exact n2
    refine ⟨_, rfl, p, C, dx, _, rfl, (by rw [upd_ne p2]; exact upd_same), T.cl, T.n2, (by show 1 < 1000; decide), ?_⟩
    rw [tabF_new]
    have K0 : Keep [p] H (upd (upd (upd (upd H d1 (.dT [])) p (.ins C dx (putF "cells_by_text" (.ref d1) []))) d2 (.dT [])) p (.ins C dx (tabF d1 d2))) :=
      Keep.upd (Keep.upd (Keep.upd (Keep.upd (Keep.of (Same.refl H)) (.inr n1)) (.inl (by simp))) (.inr n2')) (.inl (by simp))
    have tupk : ∀ {H' : Hp}, Keep [p] H H' → ∀ b xs, H b = some (.tup xs) → H' b = some (.tup xs) := fun kp b xs e => kp b _ e (by
      intro z
      rw [List.mem_singleton] at z
      subst z
      rw [hp] at e
      cases e)
    have pa : a ≠ p := ne_of ha hp (fun z => by cases z)
    have lsk : ∀ {H' : Hp}, Keep [p] H H' → H' a = some (.lst (refs qs)) := fun kp => kp a _ ha (by simpa using pa)
    refine ⟨_, rfl, a, rfl, ⟨_, SqL.of (lsk K0)⟩, for_it (walk_list (xs := refs qs)) (fun i σ H' => ∃ (v2 v3 : Option V) (kvs1 kvs2 : List (List L2.Key × V)), σ = [some (.ref p), some (.ref a), v2, v3] ∧ Keep [p] H H' ∧
      H' p = some (.ins C dx (tabF d1 d2)) ∧ H' d1 = some (.dT kvs1) ∧ H' d2 = some (.dT kvs2) ∧ Ents H' kvs1 ((t.take i).map fun e => (e.text, e.cells)) ∧ Ents H' kvs2 ((t.take i).map fun e => (e.cells, e.text))) ?_ ?_ ?_ ?_⟩
    · refine ⟨_, _, [], [], rfl, K0, upd_same, ?_, ?_, .nil, .nil⟩
      · rw [upd_ne p1.symm, upd_ne d12, upd_ne p1.symm]
        exact upd_same
      · rw [upd_ne p2.symm]
        exact upd_same
    · rintro i σ H' hi ⟨v2, v3, kvs1, kvs2, rfl, kp, _⟩
      exact SqL.of (lsk kp)
    · rintro i x σ H0 H' hi ⟨v2, v3, kvs1, kvs2, rfl, kp, hp', h1, h2, e1, e2⟩ ⟨rfl, hx⟩
      obtain ⟨q, hq, rfl⟩ := refs_of hx
      obtain ⟨e, he', q1, q2, g0, g1, g2⟩ := he.get' hq
      have it := (List.getElem?_eq_some_iff.mp he').1
      have l1 : kvs1.length < sizeLine := big _ (by rw [Paired.length e1, List.length_map, List.length_take]; omega)
      have l2 : kvs2.length < sizeLine := big _ (by rw [Paired.length e2, List.length_map, List.length_take]; omega)
      have mem_take : ∀ y ∈ t.take i, ∃ j, j < i ∧ t[j]? = some y := fun y hy => by
        obtain ⟨j, hj⟩ := List.getElem?_of_mem hy
        have hji : j < i := by
          have := (List.getElem?_eq_some_iff.mp hj).1
          rw [List.length_take] at this
          omega
        exact ⟨j, hji, by rw [← hj, List.getElem?_take, if_pos hji]⟩
      have inj : ∀ (g : Km344.Entry → List Nat), (t.map g).Nodup → ∀ y ∈ t.take i, g y ≠ g e := fun g hn y hy z => by
        obtain ⟨j, hj, hjt⟩ := mem_take y hy
        have a1 : (t.map g)[j]? = some (g y) := by rw [List.getElem?_map, hjt]; rfl
        have a2 : (t.map g)[i]? = some (g y) := by rw [List.getElem?_map, he', z]; rfl
        have := nodup_ix' hn a1 a2
        omega
      have v1 : valV kvs1 (kn e.text) = none := e1.none fun x hx z => by
        obtain ⟨y, hy, rfl⟩ := List.mem_map.mp hx
        exact inj _ hnt y hy z
      have v2 : valV kvs2 (kn e.cells) = none := e2.none fun x hx z => by
        obtain ⟨y, hy, rfl⟩ := List.mem_map.mp hx
        exact inj _ hnc y hy z
      have t0 := tupk kp _ _ g0
      have t1 := tupk kp _ _ g1
      have t2 := tupk kp _ _ g2
      refine ⟨q, _, rfl, SqT.of t0, rfl, _, _, rfl, _, _, rfl, rfl, ?_⟩
      refine ⟨_, rfl, _, rfl, p, C, dx, _, _, rfl, hp', T.cl, T.n1, tabF_1 d1 d2, _, rfl, d1, _, rfl, DPut.t (k := kn e.text) h1 (by rw [kn_kV]; exact t1) l1, ?_⟩
      rw [putK_new _ v1]
      have hd2 : (upd H' d1 (.dT (kvs1 ++ [(kn e.text, V.ref q2)]))) d2 = some (.dT kvs2) := by rw [upd_ne d12.symm]; exact h2
      have pd1 : p ≠ d1 := p1
      refine ⟨_, rfl, _, rfl, p, C, dx, _, _, rfl, (by rw [upd_ne p1]; exact hp'), T.cl, T.n2, tabF_2 d1 d2, _, rfl, d2, _, rfl, DPut.t (k := kn e.cells) hd2 (by rw [kn_kV, upd_ne (ne_of t2 h1 (fun z => by cases z))]; exact t2) l2, ?_⟩
      rw [putK_new _ v2]
      have kt : ∀ b xs, H' b = some (.tup xs) → (upd (upd H' d1 (.dT (kvs1 ++ [(kn e.text, V.ref q2)]))) d2 (.dT (kvs2 ++ [(kn e.cells, V.ref q1)]))) b = some (.tup xs) := fun b xs eb => by
        rw [upd_ne (ne_of eb h2 (fun z => by cases z)), upd_ne (ne_of eb h1 (fun z => by cases z))]
        exact eb
      refine ⟨_, _, kvs1 ++ [(kn e.text, V.ref q2)], _, rfl, Keep.upd (Keep.upd kp (.inr n1)) (.inr n2'), ?_, ?_, upd_same, ?_, ?_⟩
      · rw [upd_ne p2, upd_ne p1]
        exact hp'
      · rw [upd_ne d12]
        exact upd_same
      · rw [take_more he', List.map_append]
        exact (e1.keep kt).snoc (kt _ _ t2)
      · rw [take_more he', List.map_append]
        exact (e2.keep kt).snoc (kt _ _ t1)
    · rintro σ H' ⟨v2, v3, kvs1, kvs2, rfl, kp, hp', h1, h2, e1, e2⟩
      have hl : (refs qs).length = t.length := by rw [refs_length]; exact Paired.length he
      rw [hl, List.take_length] at e1 e2
      refine k H' ⟨dx, d1, d2, hp', ⟨kvs1, h1, e1.dict ?_ fun k v => ?_⟩, ⟨kvs2, h2, e2.dict ?_ fun k v => ?_⟩⟩ kp
      · rw [List.map_map]
        exact hnt
      · rw [cellsAt_some hnt, List.mem_map]
        constructor
        · rintro ⟨e, he, rfl, rfl⟩
          exact ⟨e, he, rfl⟩
        · rintro ⟨e, he, z⟩
          cases z
          exact ⟨e, he, rfl, rfl⟩
      · rw [List.map_map]
        exact hnc
      · rw [textAt_some hnc, List.mem_map]
        constructor
        · rintro ⟨e, he, rfl, rfl⟩
          exact ⟨e, he, rfl⟩
        · rintro ⟨e, he, z⟩
          cases z
          exact ⟨e, he, rfl, rfl⟩
end
end Fc

set_option Elab.async false
set_option linter.all false
set_option maxRecDepth 100000
set_option maxHeartbeats 4000000
/-! rows.py: texts_of_word, cells_of_text, text_of_cells -/
namespace Fc
open PySem PySem.Spec PyProof.Rows L2 FcR
/-! ### how long -/
theorem cells_few {t : Km344.Table} (T : Tab t) : ∀ (es : List Km344.Entry), (∀ e ∈ es, e ∈ t) → (es.flatMap Km344.Entry.cells).length ≤ 6 * (es.flatMap Km344.Entry.text).length
  | [], _ => Nat.le_refl _
  | e :: es, h => by
    have ih := cells_few T es fun x hx => h x (List.mem_cons_of_mem _ hx)
    have g := good_iff.mp (T.good e (h e (List.mem_cons_self ..)))
    rw [List.flatMap_cons, List.flatMap_cons, List.length_append, List.length_append]
    omega
theorem texts_few {t : Km344.Table} (T : Tab t) : ∀ (es : List Km344.Entry), (∀ e ∈ es, e ∈ t) → (es.flatMap Km344.Entry.text).length ≤ 12 * (es.flatMap Km344.Entry.cells).length
  | [], _ => Nat.le_refl _
  | e :: es, h => by
    have ih := texts_few T es fun x hx => h x (List.mem_cons_of_mem _ hx)
    have g := good_iff.mp (T.good e (h e (List.mem_cons_self ..)))
    rw [List.flatMap_cons, List.flatMap_cons, List.length_append, List.length_append]
    omega
theorem take_few {α : Type} (f : α → List Nat) (es : List α) (j : Nat) : ((es.take j).flatMap f).length ≤ (es.flatMap f).length := by
  have := List.take_append_drop j es
  have e : (es.flatMap f).length = ((es.take j).flatMap f).length + ((es.drop j).flatMap f).length := by
    rw [← List.length_append, ← List.flatMap_append, this]
  omega
/-- the first i parts, joined, behind k-fold growth -/
theorem joined_few {b k : Nat} (hk : 1 ≤ k) {f : List Nat → List Nat} : ∀ (l : List (List Nat)), (∀ p ∈ l, (f p).length ≤ k * p.length) → (Km344.joined b (l.map f)).length ≤ k * (l.map fun p => p.length + 1).sum
  | [], _ => Nat.zero_le _
  | [p], h => by
    have := h p (List.mem_cons_self ..)
    show (f p).length ≤ k * (p.length + 1 + 0)
    rw [Nat.add_zero, Nat.mul_add]
    omega
  | p :: q :: l, h => by
    have ih := joined_few (b := b) hk (q :: l) fun x hx => h x (List.mem_cons_of_mem _ hx)
    have h1 := h p (List.mem_cons_self ..)
    show (f p ++ b :: Km344.joined b ((q :: l).map f)).length ≤ k * ((p.length + 1) + ((q :: l).map fun p => p.length + 1).sum)
    rw [List.length_append, List.length_cons, Nat.mul_add, Nat.mul_add]
    omega
theorem sum_take (l : List (List Nat)) (i : Nat) : ((l.take i).map fun p => p.length + 1).sum ≤ (l.map fun p => p.length + 1).sum := by
  have e : (l.map fun p => p.length + 1).sum = ((l.take i).map fun p => p.length + 1).sum + ((l.drop i).map fun p => p.length + 1).sum := by
    rw [← List.sum_append, ← List.map_append, List.take_append_drop]
  omega
/-- the parts so far, joined, and a mark ahead of the next (none ahead of the first) -/
def opened (b : Nat) (l : List (List Nat)) : List Nat := if l = [] then [] else Km344.joined b l ++ [b]
theorem joined_next {b : Nat} {l : List (List Nat)} {p : List Nat} : Km344.joined b (l ++ [p]) = opened b l ++ p := by
  unfold opened
  by_cases h : l = []
  · rw [if_pos h, h]
    rfl
  · rw [if_neg h, joined_snoc l p h]
    simp
theorem mem_len : ∀ (l : List (List Nat)) (p : List Nat), p ∈ l → p.length + 1 ≤ (l.map fun p => p.length + 1).sum
  | x :: l, p, h => by
    rcases List.mem_cons.mp h with rfl | h
    · rw [List.map_cons, List.sum_cons]
      omega
    · have := mem_len l p h
      rw [List.map_cons, List.sum_cons]
      omega
/-- two statements: what holds between them -/
theorem seq_mid {A B : TS} {D : Ends} {σ : L2.St} {H : Hp} (M : L2.St → Hp → Prop) (h2 : ∀ σ H, M σ H → B D σ H) (h1 : ∀ N : L2.St → Hp → Prop, (∀ σ H, M σ H → N σ H) → A { D with nx := N } σ H) : tSeq A B D σ H := h1 _ h2
section
variable {P : Program} {w : World} {K : PySem.W.Frag} {mg : Str → Option Value} {base : Heap}
def spTextsOf (C : Addr) : Sp := fun vs H Q _ => ∃ (a tb : Addr) (w : List Nat) (t : Km344.Table), vs = [.ref a, .ref tb] ∧ H a = some (.tup (nv w)) ∧ TableAt C H tb t ∧ Tab t ∧ (∀ x ∈ w, Km344.isLetter x = true) ∧ w.length ≤ 30000 ∧
  ∀ (H' : Hp) (p : Addr) (qs : List Addr), Same H H' → H p = none → H' p = some (.lst (refs qs)) → Tups H' qs ((Km344.entriesOf t w).map Km344.Entry.text) → Q (.ref p) H'
theorem scTO : FnScope ["word", "table"] ["word", "table"] (defScope sTextsOf) := ⟨rfl, rfl, rfl, by decide +kernel, rfl, by decide +kernel, by decide +kernel⟩
theorem ok_textsOf {f fF C : Addr} {fd fdF : FuncData} (F : Fun K "texts_of_word" "texts_of_word" sTextsOf f fd) (FF : FnOk P w K mg base CX0 2 fF fdF ["signs", "known", "longest"] spFewest) (kF : PySem.W.keepIn K (.ref fF) = true) (bF : Binds K fdF ["signs", "known", "longest"] []) (gF : mg "fewest_row" = some (.ref fF))
    (T : TxtT K C) (g1 : Num mg "MOST_LETTERS" 12) : FnOk P w K mg base CX0 3 f fd ["word", "table"] (spTextsOf C) := by
  refine F.ok scTO (fun vs H Q E h => ?_) (fun cdv A outer s H vs Q E hr h => ?_)
  · obtain ⟨a, tb, w, t, rfl, _⟩ := h
    rfl
  · obtain ⟨a, tb, w, t, rfl, ha, ⟨dx, d1, d2, ht, h1, h2⟩, hT, hw, hlen, k⟩ := h
    refine ⟨_, pss_one (ps_ret (pe_call FF hr (by rfl) gF kF bF .nil pass0 (pa_cons (pv 0) (pa_cons (pe_fld (pv 1) rfl) (pa_cons (pe_num g1) pa_nil))))), ?_⟩
    obtain ⟨r1, r2, _⟩ := row_entries hT hw
    refine ⟨_, rfl, _, rfl, tb, C, dx, _, _, rfl, ht, T.cl, T.n1, tabF_1 d1 d2, a, d1, w, cellsAt t, 12, rfl, ha, h1, hlen, by decide, fun z => absurd z r1, fun _ H' p qs sm np hp hq => k H' p qs sm np hp ?_⟩
    rw [← r2]
    exact hq

/-! ### cells_of_text -/
def spCellsOf (K : PySem.W.Frag) (C : Addr) : Sp := fun vs H Q _ => ∃ (a tb : Addr) (ns : List Nat) (t : Km344.Table), vs = [.ref a, .ref tb] ∧ Nums K H a ns ∧ TableAt C H tb t ∧ Tab t ∧ (∀ x ∈ ns, Km344.isLetter x = true ∨ x = 32) ∧ ns.length ≤ 30000 ∧
  ∀ (H' : Hp) (p : Addr), Same H H' → H p = none → H' p = some (.lst (nv (Km344.spell t ns))) → Q (.ref p) H'
theorem scCO : FnScope ["text", "table", "cells", "number", "word", "entry_text"] ["text", "table"] (defScope sCellsOf) := ⟨rfl, rfl, rfl, by decide +kernel, rfl, by decide +kernel, by decide +kernel⟩
theorem ok_cellsOf {f fP fT C : Addr} {fd fdP fdT : FuncData} (F : Fun K "cells_of_text" "cells_of_text" sCellsOf f fd)
    (FP : FnOk P w K mg base CX0 1 fP fdP ["numbers", "mark"] (spPieces K)) (kP : PySem.W.keepIn K (.ref fP) = true) (bP : Binds K fdP ["numbers", "mark"] []) (gP : mg "pieces" = some (.ref fP))
    (FT : FnOk P w K mg base CX0 3 fT fdT ["word", "table"] (spTextsOf C)) (kT : PySem.W.keepIn K (.ref fT) = true) (bT : Binds K fdT ["word", "table"] []) (gT : mg "texts_of_word" = some (.ref fT))
    (T : TxtT K C) (b1 : mg "enumerate" = none) (g1 : Num mg "BLANK" 32) (g2 : Num mg "EMPTY_CELL" 0) : FnOk P w K mg base CX0 4 f fd ["text", "table"] (spCellsOf K C) := by
  refine F.ok scCO (fun vs H Q E h => ?_) (fun cdv A outer s H vs Q E hr h => ?_)
  · obtain ⟨a, tb, ns, t, rfl, _⟩ := h
    rfl
  · obtain ⟨a, tb, ns, t, rfl, hN, hTb, hT, hns, hlen, k⟩ := h
    have hr1 : Room 1 _ := hr.mono (by decide)
    refine ⟨_, pss_cons (ps_set (i := 2) scCO.nd rfl (.inl rfl) (pe_lst pa_nil))
      (pss_cons (ps_for PassesOwn.never rfl (pi_enumB (by rfl) b1 (pa_cons (pe_call FP hr1 (by rfl) gP kP bP .nil pass0 (pa_cons (pv 0) (pa_cons (pe_num g1) pa_nil))) pa_nil)) (pg_tup rfl (pgs_cons (pg_name (i := 3) scCO.nd rfl (.inl rfl)) (pgs_cons (pg_name (i := 4) scCO.nd rfl (.inl rfl)) pgs_nil)))
        (pss_cons (ps_if (pt_cmpR op_gt (pv 3) pe_int (nomark _)) (pss_one (ps_expr (pe_bm PySem.F.plainAttrs_list PySem.F.slot_list_append PySem.F.type_list_append mt_append (pv 2) (pa_cons (pe_num g2) pa_nil)))) pss_nil)
        (pss_one (ps_for PassesOwn.never rfl (pi_list (pe_call FT hr (by rfl) gT kT bT .nil pass0 (pa_cons (pv 4) (pa_cons (pv 1) pa_nil)))) (pg_name (i := 5) scCO.nd rfl (.inl rfl))
          (pss_one (ps_expr (pe_bm PySem.F.plainAttrs_list PySem.F.slot_list_extend PySem.F.type_list_extend mt_extendT (pv 2) (pa_cons (pe_dget (hu_of hr) (pe_fld (pv 1) rfl) (pv 5) (fun _ _ => rfl)) pa_nil))))))))
      (pss_one (ps_ret (pv 2)))), ?_⟩
    refine ⟨by show 0 ≤ sizeLine; decide, fun c nc => ?_⟩
    have s0 := Same.upd_new (o := .lst []) nc
    refine ⟨_, rfl, a, ns, 32, rfl, hN.same s0, hlen, fun H1 p qs s1 np hp hq => ?_⟩
    have hlq := hq.length
    have hc1 := s1 _ _ (upd_same (H := H) (a := c) (o := .lst []))
    have hcp : c ≠ p := fun z => by subst z; rw [upd_same] at np; cases np
    have hce : ∀ {H' : Hp}, Keep [c] H1 H' → Same H H' := fun kp b o e => kp b o (s1 _ _ (s0 _ _ e)) (by
      intro z
      rw [List.mem_singleton] at z
      subst z
      rw [nc] at e
      cases e)
    have tupk : ∀ {H' : Hp}, Keep [c] H1 H' → ∀ b xs, H1 b = some (.tup xs) → H' b = some (.tup xs) := fun kp b xs e => kp b _ e (by
      intro z
      rw [List.mem_singleton] at z
      subst z
      rw [hc1] at e
      cases e)
    have lp : ∀ {H' : Hp}, Keep [c] H1 H' → H' p = some (.lst (refs qs)) := fun kp => kp _ _ hp (by simpa using hcp.symm)
    refine ⟨p, refs qs, rfl, for_enumL (SqL.of hp) (fun i σ H' => ∃ v3 v4 v5 : Option V, σ = [some (.ref a), some (.ref tb), some (.ref c), v3, v4, v5] ∧
      Keep [c] H1 H' ∧ H' c = some (.lst (nv (Km344.joined 0 (((Km344.parts 32 ns).take i).map (Km344.cellsOf t)))))) ?_ ?_ ?_ ?_⟩
    · exact ⟨_, _, _, rfl, Keep.of (Same.refl H1), hc1⟩
    · rintro i σ H' hi ⟨v3, v4, v5, rfl, kp, _⟩
      exact SqL.of (lp kp)
    · rintro i x σ H' Tt hx ⟨v3, v4, v5, rfl, kp, hc⟩ nT
      obtain ⟨q, hqi, rfl⟩ := refs_of hx
      obtain ⟨wd, hwd, hqt⟩ := hq.get' hqi
      have sT := Same.upd_new (o := .tup [.int (i : Nat), .ref q]) nT
      have kpT : Keep [c] H1 (upd H' Tt (.tup [.int (i : Nat), .ref q])) := kp.trans (Keep.of sT)
      have hcT := sT _ _ hc
      refine ⟨Tt, _, rfl, SqT.of upd_same, rfl, _, _, rfl, _, _, rfl, rfl, ?_⟩
      obtain ⟨L, hL⟩ : ∃ L, L = (((Km344.parts 32 ns).take i).map (Km344.cellsOf t)) := ⟨_, rfl⟩
      rw [← hL] at hcT
      have hwl : ∀ x ∈ wd, Km344.isLetter x = true := fun x hx => by
        have := mem_parts ns wd (List.mem_of_getElem? hwd) x hx
        exact (hns x this.1).resolve_right this.2
      have hes := row_entries hT hwl
      -- how long it can be
      have hps : ∀ pp ∈ Km344.parts 32 ns, (Km344.cellsOf t pp).length ≤ 6 * pp.length := fun pp hpp => by
        have hl : ∀ x ∈ pp, Km344.isLetter x = true := fun x hx => by
          have := mem_parts ns pp hpp x hx
          exact (hns x this.1).resolve_right this.2
        have e := row_entries hT hl
        have := cells_few hT _ e.2.2.1
        rw [e.2.2.2] at this
        exact this
      have hsum := parts_length (b := 32) ns
      have few : ∀ j, (Km344.joined 0 (((Km344.parts 32 ns).take j).map (Km344.cellsOf t))).length ≤ 6 * (ns.length + 1) := fun j => by
        have h1 := joined_few (b := 0) (k := 6) (by decide) ((Km344.parts 32 ns).take j) fun pp hpp => hps pp (List.mem_of_mem_take hpp)
        have h2 := sum_take (Km344.parts 32 ns) j
        omega
      have nxt : Km344.joined 0 (((Km344.parts 32 ns).take (i + 1)).map (Km344.cellsOf t)) = opened 0 L ++ Km344.cellsOf t wd := by
        rw [take_more hwd, List.map_append, ← hL]
        exact joined_next
      have fewn : (opened 0 L).length + (Km344.cellsOf t wd).length ≤ 6 * (ns.length + 1) := by
        have := few (i + 1)
        rw [nxt, List.length_append] at this
        exact this
      refine seq_mid (fun σ2 H2 => σ2 = [some (.ref a), some (.ref tb), some (.ref c), some (vn i), some (.ref q), v5] ∧ Keep [c] H1 H2 ∧ H2 c = some (.lst (nv (opened 0 L)))) ?_ ?_
      · rintro σ2 H2 ⟨rfl, kp2, hc2⟩
        -- for entry_text in texts_of_word(word, table)
        refine ⟨_, rfl, _, rfl, q, tb, wd, t, rfl, tupk kp2 _ _ hqt, hTb.same (hce kp2), hT, hwl, ?_, fun H3 p2 qs2 sm3 np2 hp2 hq2 => ⟨p2, rfl, ⟨_, SqL.of hp2⟩, ?_⟩⟩
        · have := mem_len (Km344.parts 32 ns) wd (List.mem_of_getElem? hwd)
          omega
        have hl2 := hq2.length
        rw [List.length_map] at hl2
        have hc3 := sm3 _ _ hc2
        have cp2 : p2 ≠ c := fun z => by subst z; rw [hc2] at np2; cases np2
        have kp3 : Keep [c] H1 H3 := kp2.trans (Keep.of sm3)
        have tup3 : ∀ {H' : Hp}, Keep [c] H3 H' → ∀ b xs, H3 b = some (.tup xs) → H' b = some (.tup xs) := fun kp b xs e => kp b _ e (by
          intro z
          rw [List.mem_singleton] at z
          subst z
          rw [hc3] at e
          cases e)
        refine for_it (walk_list (xs := refs qs2)) (fun j σ H' => ∃ v5 : Option V, σ = [some (.ref a), some (.ref tb), some (.ref c), some (vn i), some (.ref q), v5] ∧ Keep [c] H3 H' ∧ H' c = some (.lst (nv (opened 0 L ++ ((Km344.entriesOf t wd).take j).flatMap Km344.Entry.cells)))) ?_ ?_ ?_ ?_
        · refine ⟨_, rfl, Keep.of (Same.refl H3), ?_⟩
          rw [hc3]
          simp
        · rintro j σ H' hj ⟨v5, rfl, kp, _⟩
          exact SqL.of (kp _ _ hp2 (by simpa using cp2))
        · rintro j x σ H0 H' hj ⟨v5, rfl, kp, hc4⟩ ⟨rfl, hx⟩
          obtain ⟨q2, hq2i, rfl⟩ := refs_of hx
          obtain ⟨l, hl, hql⟩ := hq2.get' hq2i
          rw [List.getElem?_map] at hl
          obtain ⟨e, he, rfl⟩ : ∃ e, (Km344.entriesOf t wd)[j]? = some e ∧ l = e.text := by
            cases z : (Km344.entriesOf t wd)[j]? with
            | none => rw [z] at hl; cases hl
            | some e =>
              rw [z] at hl
              exact ⟨e, rfl, (Option.some.inj hl).symm⟩
          have het := hes.2.2.1 e (List.mem_of_getElem? he)
          obtain ⟨dx, d1, d2, ht, h1, h2⟩ := hTb.same (hce (kp3.trans kp))
          obtain ⟨q3, hget, hq3⟩ := h1.get (tup3 kp _ _ hql) ((cellsAt_some hT.texts).mpr ⟨e, het, rfl, rfl⟩)
          have tk := take_few Km344.Entry.cells (Km344.entriesOf t wd) (j + 1)
          have e1 : ((Km344.entriesOf t wd).take (j + 1)).flatMap Km344.Entry.cells = ((Km344.entriesOf t wd).take j).flatMap Km344.Entry.cells ++ e.cells := by
            rw [take_more he, List.flatMap_append]
            simp
          rw [e1, List.length_append] at tk
          have tk : (((Km344.entriesOf t wd).take j).flatMap Km344.Entry.cells).length + e.cells.length ≤ (Km344.cellsOf t wd).length := tk
          refine ⟨_, rfl, .inl ⟨rfl, _, SqL.of hc4⟩, _, rfl, tb, C, dx, _, _, rfl, ht, T.cl, T.n1, tabF_1 d1 d2, _, rfl, d1, _, rfl, hget, c, q3, _, _, rfl, rfl, hc4, SqT.of hq3, ?_, ?_⟩
          · rw [nv_length, nv_length, List.length_append]
            exact Nat.le_of_lt (big _ (by omega))
          · refine ⟨_, rfl, Keep.upd kp (.inl (by simp)), ?_⟩
            rw [upd_same, ← nv_app, e1, List.append_assoc]
        · rintro σ H' ⟨v5, rfl, kp, hc4⟩
          refine ⟨_, _, _, rfl, kp3.trans kp, ?_⟩
          rw [refs_length, hl2, List.take_length] at hc4
          rw [nxt]
          exact hc4
      · intro N hN
        refine ⟨_, rfl, _, _, rfl, rfl, _, rfl, ?_⟩
        by_cases hi : i = 0
        · rw [decide_eq_false (show ¬ (0 : Int) < (i : Int) by omega)]
          refine iteF (hN _ _ ⟨rfl, kpT, ?_⟩)
          have : L = [] := by rw [hL, hi]; rfl
          rw [hcT, this]
          rfl
        · rw [decide_eq_true (show (0 : Int) < (i : Int) by omega)]
          have hLne : L ≠ [] := fun z => by
            have := congrArg List.length (hL.symm.trans z)
            have h2 := (List.getElem?_eq_some_iff.mp hwd).1
            rw [List.length_map, List.length_take, List.length_nil] at this
            omega
          refine iteT ⟨_, rfl, .inl ⟨rfl, _, SqL.of hcT⟩, c, _, _, rfl, rfl, hcT, big _ ?_, hN _ _ ⟨rfl, Keep.upd kpT (.inl (by simp)), ?_⟩⟩
          · have := few i
            rw [← hL] at this
            rw [nv_length]
            omega
          · rw [upd_same]
            unfold opened
            rw [if_neg hLne, nv_app]
            rfl
    · rintro σ H' ⟨v3, v4, v5, rfl, kp, hc⟩
      refine ⟨_, rfl, k H' c (hce kp) nc ?_⟩
      rw [refs_length, hlq, List.take_length] at hc
      exact hc

/-! ### text_of_cells -/
def rd (t : Km344.Table) (p : List Nat) : List Nat := (Km344.reading t p).getD []
def spTextOf (K : PySem.W.Frag) (C : Addr) : Sp := fun vs H Q _ => ∃ (a tb : Addr) (ns : List Nat) (t : Km344.Table), vs = [.ref a, .ref tb] ∧ Nums K H a ns ∧ TableAt C H tb t ∧ Tab t ∧ t.sure = true ∧ ns.length ≤ 30000 ∧
  (Km344.readBack t ns = none → ∀ H', Same H H' → Q .non H') ∧
  (∀ l, Km344.readBack t ns = some l → ∀ (H' : Hp) (p : Addr), Same H H' → H p = none → l.length ≤ 10000000 → H' p = some (.lst (nv l)) → Q (.ref p) H')
theorem scTX : FnScope ["cells", "table", "text", "number", "piece", "row", "entry_cells"] ["cells", "table"] (defScope sTextOf) := ⟨rfl, rfl, rfl, by decide +kernel, rfl, by decide +kernel, by decide +kernel⟩
theorem ok_textOf {f fP fF C : Addr} {fd fdP fdF : FuncData} (F : Fun K "text_of_cells" "text_of_cells" sTextOf f fd)
    (FP : FnOk P w K mg base CX0 1 fP fdP ["numbers", "mark"] (spPieces K)) (kP : PySem.W.keepIn K (.ref fP) = true) (bP : Binds K fdP ["numbers", "mark"] []) (gP : mg "pieces" = some (.ref fP))
    (FF : FnOk P w K mg base CX0 2 fF fdF ["signs", "known", "longest"] spFewest) (kF : PySem.W.keepIn K (.ref fF) = true) (bF : Binds K fdF ["signs", "known", "longest"] []) (gF : mg "fewest_row" = some (.ref fF))
    (T : TxtT K C) (b1 : mg "enumerate" = none) (g1 : Num mg "EMPTY_CELL" 0) (g2 : Num mg "BLANK" 32) (g3 : Num mg "MOST_CELLS" 6) : FnOk P w K mg base CX0 3 f fd ["cells", "table"] (spTextOf K C) := by
  refine F.ok scTX (fun vs H Q E h => ?_) (fun cdv A outer s H vs Q E hr h => ?_)
  · obtain ⟨a, tb, ns, t, rfl, _⟩ := h
    rfl
  · obtain ⟨a, tb, ns, t, rfl, hN, hTb, hT, hsure, hlen, kN, kS⟩ := h
    have hr1 : Room 1 _ := hr.mono (by decide)
    refine ⟨_, pss_cons (ps_set (i := 2) scTX.nd rfl (.inl rfl) (pe_lst pa_nil))
      (pss_cons (ps_for PassesOwn.never rfl (pi_enumB (by rfl) b1 (pa_cons (pe_call FP hr1 (by rfl) gP kP bP .nil pass0 (pa_cons (pv 0) (pa_cons (pe_num g1) pa_nil))) pa_nil)) (pg_tup rfl (pgs_cons (pg_name (i := 3) scTX.nd rfl (.inl rfl)) (pgs_cons (pg_name (i := 4) scTX.nd rfl (.inl rfl)) pgs_nil)))
        (pss_cons (ps_if (pt_cmpR op_gt (pv 3) pe_int (nomark _)) (pss_one (ps_expr (pe_bm PySem.F.plainAttrs_list PySem.F.slot_list_append PySem.F.type_list_append mt_append (pv 2) (pa_cons (pe_num g2) pa_nil)))) pss_nil)
        (pss_cons (ps_set (i := 5) scTX.nd rfl (.inl rfl) (pe_call FF hr (by rfl) gF kF bF .nil pass0 (pa_cons (pv 4) (pa_cons (pe_fld (pv 1) rfl) (pa_cons (pe_num g3) pa_nil)))))
        (pss_cons (ps_if (pt_cmpR op_isN (pv 5) pe_non (nomark _)) (pss_one (ps_ret pe_non)) pss_nil)
        (pss_one (ps_for PassesOwn.never rfl (pi_list (pv 5)) (pg_name (i := 6) scTX.nd rfl (.inl rfl))
          (pss_one (ps_expr (pe_bm PySem.F.plainAttrs_list PySem.F.slot_list_extend PySem.F.type_list_extend mt_extendT (pv 2) (pa_cons (pe_dget (hu_of hr) (pe_fld (pv 1) rfl) (pv 6) (fun _ _ => rfl)) pa_nil))))))))))
      (pss_one (ps_ret (pv 2)))), ?_⟩
    refine ⟨by show 0 ≤ sizeLine; decide, fun c nc => ?_⟩
    have s0 := Same.upd_new (o := .lst []) nc
    refine ⟨_, rfl, a, ns, 0, rfl, hN.same s0, hlen, fun H1 p qs s1 np hp hq => ?_⟩
    have hlq := hq.length
    have hc1 := s1 _ _ (upd_same (H := H) (a := c) (o := .lst []))
    have hcp : c ≠ p := fun z => by subst z; rw [upd_same] at np; cases np
    have hce : ∀ {H' : Hp}, Keep [c] H1 H' → Same H H' := fun kp b o e => kp b o (s1 _ _ (s0 _ _ e)) (by
      intro z
      rw [List.mem_singleton] at z
      subst z
      rw [nc] at e
      cases e)
    have tupk : ∀ {H' : Hp}, Keep [c] H1 H' → ∀ b xs, H1 b = some (.tup xs) → H' b = some (.tup xs) := fun kp b xs e => kp b _ e (by
      intro z
      rw [List.mem_singleton] at z
      subst z
      rw [hc1] at e
      cases e)
    have lp : ∀ {H' : Hp}, Keep [c] H1 H' → H' p = some (.lst (refs qs)) := fun kp => kp _ _ hp (by simpa using hcp.symm)
    -- how long it can be
    have hps : ∀ pp ∈ Km344.parts 0 ns, (rd t pp).length ≤ 12 * pp.length := fun pp hpp => by
      unfold rd
      cases z : Km344.reading t pp with
      | none => exact Nat.zero_le _
      | some l =>
        obtain ⟨es, g1, g2, g3⟩ := reading_some hT pp.length pp l (Nat.le_refl _) z
        have := texts_few hT es g1
        rw [g2, g3] at this
        exact this
    have hsum := parts_length (b := 0) ns
    have few : ∀ j, (Km344.joined 32 (((Km344.parts 0 ns).take j).map (rd t))).length ≤ 12 * (ns.length + 1) := fun j => by
      have h1 := joined_few (b := 32) (k := 12) (by decide) ((Km344.parts 0 ns).take j) fun pp hpp => hps pp (List.mem_of_mem_take hpp)
      have h2 := sum_take (Km344.parts 0 ns) j
      omega
    refine ⟨p, refs qs, rfl, for_enumL (SqL.of hp) (fun i σ H' => ∃ v3 v4 v5 v6 : Option V, σ = [some (.ref a), some (.ref tb), some (.ref c), v3, v4, v5, v6] ∧
      Keep [c] H1 H' ∧ H' c = some (.lst (nv (Km344.joined 32 (((Km344.parts 0 ns).take i).map (rd t))))) ∧ ∀ pp ∈ (Km344.parts 0 ns).take i, Km344.reading t pp = some (rd t pp)) ?_ ?_ ?_ ?_⟩
    · exact ⟨_, _, _, _, rfl, Keep.of (Same.refl H1), hc1, fun pp z => by simp at z⟩
    · rintro i σ H' hi ⟨v3, v4, v5, v6, rfl, kp, _⟩
      exact SqL.of (lp kp)
    · rintro i x σ H' Tt hx ⟨v3, v4, v5, v6, rfl, kp, hc, hall⟩ nT
      obtain ⟨q, hqi, rfl⟩ := refs_of hx
      obtain ⟨wd, hwd, hqt⟩ := hq.get' hqi
      have sT := Same.upd_new (o := .tup [.int (i : Nat), .ref q]) nT
      have kpT : Keep [c] H1 (upd H' Tt (.tup [.int (i : Nat), .ref q])) := kp.trans (Keep.of sT)
      have hcT := sT _ _ hc
      refine ⟨Tt, _, rfl, SqT.of upd_same, rfl, _, _, rfl, _, _, rfl, rfl, ?_⟩
      obtain ⟨L, hL⟩ : ∃ L, L = (((Km344.parts 0 ns).take i).map (rd t)) := ⟨_, rfl⟩
      rw [← hL] at hcT
      have nxt : Km344.joined 32 (((Km344.parts 0 ns).take (i + 1)).map (rd t)) = opened 32 L ++ rd t wd := by
        rw [take_more hwd, List.map_append, ← hL]
        exact joined_next
      have fewn : (opened 32 L).length + (rd t wd).length ≤ 12 * (ns.length + 1) := by
        have := few (i + 1)
        rw [nxt, List.length_append] at this
        exact this
      refine seq_mid (fun σ2 H2 => σ2 = [some (.ref a), some (.ref tb), some (.ref c), some (vn i), some (.ref q), v5, v6] ∧ Keep [c] H1 H2 ∧ H2 c = some (.lst (nv (opened 32 L)))) ?_ ?_
      · rintro σ2 H2 ⟨rfl, kp2, hc2⟩
        -- row = fewest_row(piece, table.text_by_cells, MOST_CELLS)
        obtain ⟨dx, d1, d2, ht, h1, h2⟩ := hTb.same (hce kp2)
        have lwd : wd.length ≤ 30000 := by
          have := mem_len (Km344.parts 0 ns) wd (List.mem_of_getElem? hwd)
          omega
        refine ⟨_, rfl, _, rfl, tb, C, dx, _, _, rfl, ht, T.cl, T.n2, tabF_2 d1 d2, q, d2, wd, textAt t, 6, rfl, tupk kp2 _ _ hqt, h2, lwd, by decide, fun hz H3 sm3 => ?_, fun hz H3 p2 qs2 sm3 np2 hp2 hq2 => ?_⟩
        · refine ⟨_, rfl, rfl, _, rfl, iteT ?_⟩
          refine kN ?_ H3 ((hce kp2).trans sm3)
          have hno : Km344.reading t wd = none := by
            rcases reading_row hT hsure wd with ⟨_, z⟩ | ⟨z, _⟩
            · exact z
            · exact absurd hz z
          unfold Km344.readBack
          rw [allSome_none (List.mem_map.mpr ⟨wd, List.mem_of_getElem? hwd, hno⟩)]
          rfl
        · refine ⟨_, rfl, rfl, _, rfl, iteF ?_⟩
          obtain ⟨es, hes, hrow, hread⟩ : ∃ es : List Km344.Entry, (∀ e ∈ es, e ∈ t) ∧ row (textAt t) 6 wd = es.map Km344.Entry.cells ∧ Km344.reading t wd = some (es.flatMap Km344.Entry.text) := by
            rcases reading_row hT hsure wd with ⟨z, _⟩ | ⟨_, z⟩
            · exact absurd z hz
            · exact z
          have hrd : rd t wd = es.flatMap Km344.Entry.text := by
            unfold rd
            rw [hread]
            rfl
          rw [hrow] at hq2
          have hl2 := hq2.length
          rw [List.length_map] at hl2
          have hc3 := sm3 _ _ hc2
          have cp2 : p2 ≠ c := fun z => by subst z; rw [hc2] at np2; cases np2
          have kp3 : Keep [c] H1 H3 := kp2.trans (Keep.of sm3)
          have hnc : (t.map Km344.Entry.cells).Nodup := ((sure_codes (fun e he => (good_iff.mp (hT.good e he)).2.2.2.1) hT.nodup).mp hsure).1
          have tup3 : ∀ {H' : Hp}, Keep [c] H3 H' → ∀ b xs, H3 b = some (.tup xs) → H' b = some (.tup xs) := fun kp b xs e => kp b _ e (by
            intro z
            rw [List.mem_singleton] at z
            subst z
            rw [hc3] at e
            cases e)
          refine ⟨_, rfl, p2, rfl, ⟨_, SqL.of hp2⟩, for_it (walk_list (xs := refs qs2)) (fun j σ H' => ∃ v6 : Option V, σ = [some (.ref a), some (.ref tb), some (.ref c), some (vn i), some (.ref q), some (.ref p2), v6] ∧ Keep [c] H3 H' ∧ H' c = some (.lst (nv (opened 32 L ++ (es.take j).flatMap Km344.Entry.text)))) ?_ ?_ ?_ ?_⟩
          · refine ⟨_, rfl, Keep.of (Same.refl H3), ?_⟩
            rw [hc3]
            simp
          · rintro j σ H' hj ⟨v6, rfl, kp, _⟩
            exact SqL.of (kp _ _ hp2 (by simpa using cp2))
          · rintro j x σ H0 H' hj ⟨v6, rfl, kp, hc4⟩ ⟨rfl, hx⟩
            obtain ⟨q2, hq2i, rfl⟩ := refs_of hx
            obtain ⟨l, hl, hql⟩ := hq2.get' hq2i
            rw [List.getElem?_map] at hl
            obtain ⟨e, he, rfl⟩ : ∃ e, es[j]? = some e ∧ l = e.cells := by
              cases z : es[j]? with
              | none => rw [z] at hl; cases hl
              | some e =>
                rw [z] at hl
                exact ⟨e, rfl, (Option.some.inj hl).symm⟩
            have het := hes e (List.mem_of_getElem? he)
            obtain ⟨dx, d1, d2, ht, h1, h2⟩ := hTb.same (hce (kp3.trans kp))
            obtain ⟨q3, hget, hq3⟩ := h2.get (tup3 kp _ _ hql) ((textAt_some hnc).mpr ⟨e, het, rfl, rfl⟩)
            have tk := take_few Km344.Entry.text es (j + 1)
            have e1 : (es.take (j + 1)).flatMap Km344.Entry.text = (es.take j).flatMap Km344.Entry.text ++ e.text := by
              rw [take_more he, List.flatMap_append]
              simp
            rw [e1, List.length_append, ← hrd] at tk
            refine ⟨_, rfl, .inl ⟨rfl, _, SqL.of hc4⟩, _, rfl, tb, C, dx, _, _, rfl, ht, T.cl, T.n2, tabF_2 d1 d2, _, rfl, d2, _, rfl, hget, c, q3, _, _, rfl, rfl, hc4, SqT.of hq3, ?_, ?_⟩
            · rw [nv_length, nv_length, List.length_append]
              exact Nat.le_of_lt (big _ (by omega))
            · refine ⟨_, rfl, Keep.upd kp (.inl (by simp)), ?_⟩
              rw [upd_same, ← nv_app, e1, List.append_assoc]
          · rintro σ H' ⟨v6, rfl, kp, hc4⟩
            refine ⟨_, _, _, _, rfl, kp3.trans kp, ?_, ?_⟩
            · rw [refs_length, hl2, List.take_length] at hc4
              rw [nxt, hrd]
              exact hc4
            · intro pp hpp
              rw [take_more hwd] at hpp
              rcases List.mem_append.mp hpp with hpp | hpp
              · exact hall pp hpp
              · rw [List.mem_singleton.mp hpp, hrd]
                exact hread
      · intro N hN
        refine ⟨_, rfl, _, _, rfl, rfl, _, rfl, ?_⟩
        by_cases hi : i = 0
        · rw [decide_eq_false (show ¬ (0 : Int) < (i : Int) by omega)]
          refine iteF (hN _ _ ⟨rfl, kpT, ?_⟩)
          have : L = [] := by rw [hL, hi]; rfl
          rw [hcT, this]
          rfl
        · rw [decide_eq_true (show (0 : Int) < (i : Int) by omega)]
          have hLne : L ≠ [] := fun z => by
            have := congrArg List.length (hL.symm.trans z)
            have h2 := (List.getElem?_eq_some_iff.mp hwd).1
            rw [List.length_map, List.length_take, List.length_nil] at this
            omega
          refine iteT ⟨_, rfl, .inl ⟨rfl, _, SqL.of hcT⟩, c, _, _, rfl, rfl, hcT, big _ ?_, hN _ _ ⟨rfl, Keep.upd kpT (.inl (by simp)), ?_⟩⟩
          · have := few i
            rw [← hL] at this
            rw [nv_length]
            omega
          · rw [upd_same]
            unfold opened
            rw [if_neg hLne, nv_app]
            rfl
    · rintro σ H' ⟨v3, v4, v5, v6, rfl, kp, hc, hall⟩
      rw [refs_length, hlq, List.take_length] at hc hall
      have fw := few (Km344.parts 0 ns).length
      rw [List.take_length] at fw
      refine ⟨_, rfl, kS _ ?_ H' c (hce kp) nc (by omega) hc⟩
      unfold Km344.readBack
      rw [allSome_map hall]
      rfl
end
end Fc

set_option Elab.async false
set_option linter.all false
set_option maxRecDepth 100000
set_option maxHeartbeats 4000000
/-! tables.py: entries_of, is_entry, is_table -/
namespace Fc
open PySem PySem.Spec PyProof.Rows L2 FcR
abbrev sEntriesOf : Stmt := top 15
abbrev sIsEntry : Stmt := top 16
abbrev sIsTable : Stmt := top 17

/-! ### a list of truth values, made by a comprehension -/
theorem lc_bools {J : It} {n : Nat} {G : Hp → Prop} {Y : Nat → Hp → V → Hp → Prop} (wk : Walk J n G Y) {j : Nat} {te : TE} {σ : L2.St} {H1 : Hp} {D : Addr} {Qd : Hp → Prop} (hD : H1 D = none) (b : Nat → Bool) (hn : n ≤ 100000)
    (hG : ∀ H', Same H1 H' → G H') (hY : ∀ i H' x H'', i < n → Same H1 H' → Y i H' x H'' → Same H' H'')
    (hs : ∀ i x H' H'', i < n → Same H1 H' → Y i H' x H'' → ∀ R : VK, (∀ H4, Same H'' H4 → R (.bl (b i)) H4) → te ((wipe σ [j]).set j (some x)) H'' R)
    (hd : ∀ H', Same H1 H' → H' D = some (.lst (((List.range n).map b).map V.bl)) → Qd H') :
    ∃ W : Nat → Nat → Hp → Prop, (∃ m, W 0 m (upd H1 D (.lst []))) ∧ ∀ i m H, W i m H →
      (J.stop i H ∧ Qd H) ∨ (J.go i H ∧ ∃ Nx : Hp → Prop, (∀ H', Nx H' → ∃ m', m' < m ∧ W (i + 1) m' H') ∧ ∀ x H', J.yld i H x H' → gName j x (wipe σ [j]) H' fun σ2 H2 => wipe σ2 [j] = wipe σ [j] ∧ tYes σ2 H2 fun b H3 =>
        if b = true then te σ2 H3 fun y H4 => ∃ acc, H4 D = some (.lst acc) ∧ acc.length < sizeLine ∧ Nx (upd H4 D (.lst (acc ++ [y]))) else Nx H3) := by
  refine lc_it (vs := [j]) (g := gName j) (tt := tYes) wk (fun i H' => Same H1 H' ∧ H' D = some (.lst (((List.range i).map b).map V.bl))) ⟨Same.upd_new hD, upd_same⟩ (fun i H' _ p => hG H' p.1) ?_ (fun H' p => hd H' p.1 p.2)
  rintro i x H' H'' hi ⟨p1, p2⟩ y
  have hw : wipe (((wipe σ [j])).set j (some x)) [j] = wipe σ [j] := by
    show ((σ.set j none).set j (some x)).set j none = σ.set j none
    rw [List.set_set, List.set_set]
  refine ⟨hw, ?_⟩
  unfold tYes
  dsimp only
  rw [if_pos rfl]
  refine hs i x H' H'' hi p1 y _ fun H4 s4 => ⟨_, s4 _ _ (hY i H' x H'' hi p1 y _ _ p2), ?_, ?_, ?_⟩
  · rw [List.length_map, List.length_map, List.length_range]
    exact big _ (by omega)
  · exact Same.upd_own ((p1.trans (hY i H' x H'' hi p1 y)).trans s4) hD
  · rw [upd_same, List.range_succ, List.map_append, List.map_append]
    rfl
theorem all_range {n : Nat} {b : Nat → Bool} : ((List.range n).map b).all id = true ↔ ∀ i, i < n → b i = true := by
  rw [List.all_eq_true]
  constructor
  · intro h i hi
    exact h _ (List.mem_map.mpr ⟨i, List.mem_range.mpr hi, rfl⟩)
  · intro h x hx
    obtain ⟨i, hi, rfl⟩ := List.mem_map.mp hx
    exact h i (List.mem_range.mp hi)
theorem all_nat {l : List Nat} {p : Nat → Bool} : ((List.range l.length).map fun i => p (l.getD i 0)).all id = l.all p := by
  rw [Bool.eq_iff_iff, all_range, List.all_eq_true]
  constructor
  · intro h x hx
    obtain ⟨i, hi⟩ := List.getElem?_of_mem hx
    have hlt := (List.getElem?_eq_some_iff.mp hi).1
    have := h i hlt
    rw [List.getD_eq_getElem?_getD, hi] at this
    exact this
  · intro h i hi
    refine h _ ?_
    rw [List.getD_eq_getElem?_getD, List.getElem?_eq_getElem hi]
    exact List.getElem_mem hi

/-! ### a table as one row of numbers -/
def enc1 (e : Km344.Entry) : List Nat := e.text.length :: (e.text ++ e.cells.length :: e.cells)
def enc (t : Km344.Table) : List Nat := t.flatMap enc1
theorem enc_at {A T C B ns : List Nat} (h : ns = A ++ ((T.length :: (T ++ C.length :: C)) ++ B)) :
    ns[A.length]? = some T.length ∧ ns[A.length + 1 + T.length]? = some C.length ∧ (ns.drop (A.length + 1)).take T.length = T ∧ (ns.drop (A.length + 1 + T.length + 1)).take C.length = C ∧
    A.length + 1 + T.length + 1 + C.length ≤ ns.length ∧ (A ++ (T.length :: (T ++ C.length :: C))).length = A.length + 1 + T.length + 1 + C.length := by
  subst h
  have e1 : A ++ ((T.length :: (T ++ C.length :: C)) ++ B) = (A ++ [T.length]) ++ (T ++ (C.length :: (C ++ B))) := by simp
  have e2 : A ++ ((T.length :: (T ++ C.length :: C)) ++ B) = ((A ++ [T.length]) ++ T) ++ (C.length :: (C ++ B)) := by simp
  have e3 : A ++ ((T.length :: (T ++ C.length :: C)) ++ B) = (((A ++ [T.length]) ++ T) ++ [C.length]) ++ (C ++ B) := by simp
  have l1 : (A ++ [T.length]).length = A.length + 1 := by simp
  have l2 : ((A ++ [T.length]) ++ T).length = A.length + 1 + T.length := by simp; omega
  have l3 : (((A ++ [T.length]) ++ T) ++ [C.length]).length = A.length + 1 + T.length + 1 := by simp; omega
  refine ⟨?_, ?_, ?_, ?_, ?_, ?_⟩
  · rw [List.getElem?_append_right (Nat.le_refl _), Nat.sub_self]
    rfl
  · rw [e2, List.getElem?_append_right (by omega), l2, Nat.sub_self]
    rfl
  · rw [e1, ← l1, List.drop_left, List.take_left]
  · rw [e3, ← l3, List.drop_left, List.take_left]
  · rw [e3]
    simp
    omega
  · simp
    omega

section
variable {P : Program} {w : World} {K : PySem.W.Frag} {mg : Str → Option Value} {base : Heap}
/-- x = tuple(row[lo:hi]) of a list -/
theorem tup_list {K : PySem.W.Frag} {H : Hp} {a : Addr} {ns l : List Nat} {lo hi : Option Int} {N : VK} (h : SqL K H a (nv ns)) (hl : cutV (nv ns) lo hi = nv l)
    (k : ∀ H' q, Same H H' → H' q = some (.tup (nv l)) → N (.ref q) H') :
    rSlL K (.ref a) lo hi H fun x H1 => ∃ p ys, [x] = [V.ref p] ∧ ((SqL K H1 p ys ∧ ∀ l, H1 l = none → N (.ref l) (upd H1 l (.tup ys))) ∨ (SqT K H1 p ys ∧ N (.ref p) H1)) := by
  refine ⟨a, nv ns, rfl, h, fun p np => ⟨p, _, rfl, .inl ⟨SqL.of upd_same, fun q nq => ?_⟩⟩⟩
  rw [hl] at nq ⊢
  exact k _ q (Same.trans (Same.upd_new (o := .lst (nv l)) np) (Same.upd_new (o := .tup (nv l)) nq)) upd_same

def spEntriesOf (K : PySem.W.Frag) : Sp := fun vs H Q _ => ∃ (a : Addr) (t : Km344.Table), vs = [.ref a] ∧ SqL K H a (nv (enc t)) ∧ (enc t).length ≤ 30000 ∧
  ∀ (H' : Hp) (p : Addr) (qs : List Addr), Same H H' → H p = none → H' p = some (.lst (refs qs)) → EntsAt H' qs t → Q (.ref p) H'
theorem scEO : FnScope ["numbers", "entries", "at", "text_end", "cells_end", "text", "cells"] ["numbers"] (defScope sEntriesOf) := ⟨rfl, rfl, rfl, by decide +kernel, rfl, by decide +kernel, by decide +kernel⟩
theorem ok_entriesOf {f : Addr} {fd : FuncData} (F : Fun K "entries_of" "entries_of" sEntriesOf f fd) (b1 : mg "len" = none) (b2 : mg "tuple" = none) : FnOk P w K mg base CX0 1 f fd ["numbers"] (spEntriesOf K) := by
  refine F.ok scEO (fun vs H Q E h => ?_) (fun cdv A outer s H vs Q E hr h => ?_)
  · obtain ⟨a, t, rfl, _⟩ := h
    rfl
  · obtain ⟨a, t, rfl, ha, hlen, k⟩ := h
    refine ⟨_, pss_cons (ps_set (i := 1) scEO.nd rfl (.inl rfl) (pe_lst pa_nil))
      (pss_cons (ps_set (i := 2) scEO.nd rfl (.inl rfl) pe_int)
      (pss_cons (ps_while PassesOwn.never (pt_cmpR op_lt (pv 2) (pe_callB call_len_seq (by rfl) b1 PySem.boot_len (pa_cons (pv 0) pa_nil)) (nomark _))
        (pss_cons (ps_set (i := 3) scEO.nd rfl (.inl rfl) (pe_op op_add (pe_op op_add (pv 2) pe_int) (pe_ix ix_list (pv 0) (pv 2) (fun _ _ => rfl))))
        (pss_cons (ps_set (i := 4) scEO.nd rfl (.inl rfl) (pe_op op_add (pe_op op_add (pv 3) pe_int) (pe_ix ix_list (pv 0) (pv 3) (fun _ _ => rfl))))
        (pss_cons (ps_set (i := 5) scEO.nd rfl (.inl rfl) (pe_callTy call_tuple_of (by rfl) b2 (by decide +kernel) (pa_cons (pe_slice sl_list (pv 0) (po_some (pe_op op_add (pv 2) pe_int)) (po_some (pv 3))) pa_nil)))
        (pss_cons (ps_set (i := 6) scEO.nd rfl (.inl rfl) (pe_callTy call_tuple_of (by rfl) b2 (by decide +kernel) (pa_cons (pe_slice sl_list (pv 0) (po_some (pe_op op_add (pv 3) pe_int)) (po_some (pv 4))) pa_nil)))
        (pss_cons (ps_expr (pe_bm PySem.F.plainAttrs_list PySem.F.slot_list_append PySem.F.type_list_append mt_append (pv 1) (pa_cons (pe_tup (pa_cons (pv 5) (pa_cons (pv 6) pa_nil))) pa_nil)))
        (pss_one (ps_set (i := 2) scEO.nd rfl (.inl rfl) (pv 4)))))))))
      (pss_one (ps_ret (pv 1))))), ?_⟩
    refine ⟨by show 0 ≤ sizeLine; decide, fun c nc => ?_⟩
    refine while_by (fun σ H' => ∃ (t1 t2 : Km344.Table) (qs : List Addr) (v3 v4 v5 v6 : Option V), σ = [some (.ref a), some (.ref c), some (vn (enc t1).length), v3, v4, v5, v6] ∧ Same H H' ∧ H' c = some (.lst (refs qs)) ∧ EntsAt H' qs t1 ∧ t = t1 ++ t2)
      (fun σ _ => (enc t).length - natAt σ 2) ?_ ?_ ?_
    · exact ⟨[], t, [], _, _, _, _, rfl, Same.upd_new nc, upd_same, .nil, rfl⟩
    · rintro σ H' ⟨t1, t2, qs, v3, v4, v5, v6, rfl, sm, hc, he, ht⟩
      refine ⟨_, rfl, _, rfl, a, _, rfl, .inl (sm.seq ha), _, _, rfl, rfl, _, rfl, ?_⟩
      rw [nv_length]
      have eall : enc t = enc t1 ++ enc t2 := by rw [ht]; exact List.flatMap_append
      cases t2 with
      | nil =>
        have e0 : enc t = enc t1 := by rw [eall]; exact List.append_nil _
        rw [decide_eq_false (show ¬ (((enc t1).length : Nat) : Int) < (((enc t).length : Nat) : Int) by rw [e0]; omega)]
        rw [List.append_nil] at ht
        exact iteF ⟨_, rfl, k H' c qs sm nc hc (by rw [ht]; exact he)⟩
      | cons e t2 =>
        obtain ⟨g1, g2, g3, g4, g5, g6⟩ := enc_at (A := enc t1) (T := e.text) (C := e.cells) (B := enc t2) (ns := enc t) eall
        rw [decide_eq_true (show (((enc t1).length : Nat) : Int) < (((enc t).length : Nat) : Int) by omega)]
        refine iteT ?_
        have sl := sm.seq ha
        -- text_end, cells_end
        refine ⟨_, rfl, _, _, rfl, rfl, _, rfl, _, rfl, a, _, _, _, rfl, rfl, sl, atI_nat (nv_get g1), _, _, rfl, rfl, ?_⟩
        have x3 : ((enc t1).length : Int) + 1 + (e.text.length : Int) = (((enc t1).length + 1 + e.text.length : Nat) : Int) := by omega
        refine ⟨_, rfl, _, _, rfl, rfl, _, rfl, _, rfl, a, _, _, _, rfl, rfl, sl, by rw [x3]; exact atI_nat (nv_get g2), _, _, rfl, rfl, ?_⟩
        have x4 : ((enc t1).length : Int) + 1 + (e.text.length : Int) + 1 + (e.cells.length : Int) = (((enc t1).length + 1 + e.text.length + 1 + e.cells.length : Nat) : Int) := by omega
        -- text
        refine ⟨_, rfl, _, rfl, _, _, rfl, rfl, _, rfl, _, rfl, _, rfl, ?_⟩
        refine tup_list (N := fun x H => gName 5 x _ H _) (l := e.text) sl ?_ ?_
        · have := cut_nv (enc t) ((enc t1).length + 1) ((enc t1).length + 1 + e.text.length) (by omega) (by omega)
          rw [Nat.add_sub_cancel_left, g3] at this
          rw [x3]
          exact this
        intro H2 q1 s2 h1
        have sl2 := s2.seq sl
        -- cells
        refine ⟨_, rfl, _, rfl, _, _, rfl, rfl, _, rfl, _, rfl, _, rfl, ?_⟩
        refine tup_list (N := fun x H => gName 6 x _ H _) (l := e.cells) sl2 ?_ ?_
        · have := cut_nv (enc t) ((enc t1).length + 1 + e.text.length + 1) ((enc t1).length + 1 + e.text.length + 1 + e.cells.length) (by omega) (by omega)
          rw [Nat.add_sub_cancel_left, g4] at this
          rw [x4, show (((enc t1).length : Nat) : Int) + 1 + (e.text.length : Int) + 1 = (((enc t1).length + 1 + e.text.length + 1 : Nat) : Int) by omega]
          exact this
        intro H3 q2 s3 h2
        have hc3 := s3 _ _ (s2 _ _ hc)
        refine ⟨_, rfl, .inl ⟨rfl, _, SqL.of hc3⟩, _, rfl, _, rfl, (by show 2 ≤ sizeLine; decide), fun q nq => ?_⟩
        have s4 := Same.upd_new (o := .tup [.ref q1, .ref q2]) nq
        have hlq : qs.length ≤ (enc t1).length := by
          rw [Paired.length he]
          have : ∀ t : Km344.Table, t.length ≤ (enc t).length := by
            intro t
            induction t with
            | nil => exact Nat.le_refl _
            | cons e t ih =>
              show t.length + 1 ≤ (enc1 e ++ enc t).length
              rw [List.length_append]
              show t.length + 1 ≤ (e.text ++ e.cells.length :: e.cells).length + 1 + (enc t).length
              omega
          exact this t1
        refine ⟨c, _, _, rfl, rfl, s4 _ _ hc3, big _ (by rw [refs_length]; omega), ?_⟩
        have cq : ∀ b xs, (upd H3 q (.tup [.ref q1, .ref q2])) b = some (.tup xs) → b ≠ c := fun b xs eb => ne_of eb (s4 _ _ hc3) (fun z => by cases z)
        have kt : ∀ b xs, (upd H3 q (.tup [.ref q1, .ref q2])) b = some (.tup xs) → (upd (upd H3 q (.tup [.ref q1, .ref q2])) c (.lst (refs qs ++ [.ref q]))) b = some (.tup xs) := fun b xs eb => by
          rw [upd_ne (cq b xs eb)]
          exact eb
        refine ⟨_, rfl, ⟨t1 ++ [e], t2, qs ++ [q], some (.int (((enc t1).length : Int) + 1 + (e.text.length : Int))), some (.int (((enc t1).length : Int) + 1 + (e.text.length : Int) + 1 + (e.cells.length : Int))), some (.ref q1), some (.ref q2), ?_, ?_, ?_, ?_, by rw [ht, List.append_assoc]; rfl⟩, ?_⟩
        · have e5 : enc (t1 ++ [e]) = enc t1 ++ enc1 e := by
            unfold enc
            rw [List.flatMap_append]
            simp
          have : (enc (t1 ++ [e])).length = (enc t1).length + 1 + e.text.length + 1 + e.cells.length := by
            rw [e5]
            exact g6
          rw [this]
          show [some (V.ref a), some (V.ref c), some (V.int (((enc t1).length : Int) + 1 + (e.text.length : Int) + 1 + (e.cells.length : Int))), _, _, _, _] = _
          rw [x4]
          rfl
        · exact Same.upd_own ((((sm.trans s2).trans s3)).trans s4) nc
        · rw [upd_same, refs_snoc]
        · refine Paired.snoc ((he.keep fun b xs eb => s4 _ _ (s3 _ _ (s2 _ _ eb))).keep kt) ⟨q1, q2, kt _ _ upd_same, kt _ _ (s4 _ _ (s3 _ _ h1)), kt _ _ (s4 _ _ h2)⟩
        · show (enc t).length - (((enc t1).length : Int) + 1 + (e.text.length : Int) + 1 + (e.cells.length : Int)).toNat < (enc t).length - ((enc t1).length : Int).toNat
          omega
    · rintro σ H' Q1 Q2 hq ⟨v, e, v2, e2, p, ys, e3, hs, i, j, ei, ej, k, ek, q⟩
      exact ⟨v, e, v2, e2, p, ys, e3, hs, i, j, ei, ej, k, ek, hq _ _ q⟩

/-! ### is_entry -/
def spIsEntry : Sp := fun vs H Q _ => ∃ (q1 q2 : Addr) (e : Km344.Entry), vs = [.ref q1, .ref q2] ∧ H q1 = some (.tup (nv e.text)) ∧ H q2 = some (.tup (nv e.cells)) ∧ ∀ H', Same H H' → Q (.bl e.good) H'
theorem scIE : FnScope ["text", "cells", "letter", "cell"] ["text", "cells"] (defScope sIsEntry) := ⟨rfl, rfl, rfl, by decide +kernel, rfl, by decide +kernel, by decide +kernel⟩
theorem good_eq (e : Km344.Entry) : e.good = ((decide (1 ≤ e.text.length) && decide (e.text.length ≤ 12)) && ((decide (1 ≤ e.cells.length) && decide (e.cells.length ≤ 6)) && (e.text.all Km344.isLetter && e.cells.all fun c => decide (1 ≤ c) && decide (c ≤ 63)))) := by
  unfold Km344.Entry.good
  rw [Bool.and_assoc, Bool.and_assoc]
/-- a chain of two comparisons, as a test's reading: both hold -/
theorem chain_bl {A B : Prop} [Decidable A] [Decidable B] {Q : VK} {H : Hp} {N : Prop} (h : Q (.bl (decide A && decide B)) H) (hN : Q (.bl (decide B)) H → N) : if decide A = true then N else Q (.bl false) H := by
  by_cases a : A
  · rw [decide_eq_true a] at h ⊢
    rw [Bool.true_and] at h
    exact iteT (hN h)
  · rw [decide_eq_false a] at h ⊢
    exact iteF h
theorem ok_isEntry {f fL : Addr} {fd fdL : FuncData} (F : Fun K "is_entry" "is_entry" sIsEntry f fd) (FL : FnOk P w K mg base CX0 1 fL fdL ["number"] spLetter) (kL : PySem.W.keepIn K (.ref fL) = true) (bL : Binds K fdL ["number"] []) (gL : mg "is_letter" = some (.ref fL))
    (b1 : mg "len" = none) (b2 : mg "all" = none) (g1 : Num mg "MOST_LETTERS" 12) (g2 : Num mg "MOST_CELLS" 6) (g3 : Num mg "EMPTY_CELL" 0) (g4 : Num mg "LAST_CELL" 63) : FnOk P w K mg base CX0 2 f fd ["text", "cells"] spIsEntry := by
  refine F.ok scIE (fun vs H Q E h => ?_) (fun cdv A outer s H vs Q E hr h => ?_)
  · obtain ⟨q1, q2, e, rfl, _⟩ := h
    rfl
  · obtain ⟨q1, q2, e, rfl, h1, h2, k⟩ := h
    refine ⟨_, pss_cons (ps_if (PW.pt (pw_or (pt_not (pt_chain op_le op_le pe_int (pe_callB call_len_seq (by rfl) b1 PySem.boot_len (pa_cons (pv 0) pa_nil)) (pe_num g1)))
          (pw_or1 (pt_not (pt_chain op_le op_le pe_int (pe_callB call_len_seq (by rfl) b1 PySem.boot_len (pa_cons (pv 1) pa_nil)) (pe_num g2)))))) (pss_one (ps_ret pe_bl)) pss_nil)
      (pss_cons (ps_if (pt_not (pt_val (pe_callB (cr_all rfl) (by rfl) b2 (by decide +kernel) (pa_cons (pe_lc (own := [("letter", 2)]) (g := gName 2) (tt := tYes) rfl scIE.nd (pi_tup (pv 0)) (blkOk_by (N := ["text", "cells", "letter", "cell"]) (sc := defScope sIsEntry) (by decide +kernel)) (fun _ _ _ _ _ => pg_name (i := 2) scIE.nd rfl (Or.inl rfl)) (fun _ _ _ _ _ => pts_nil)
          (fun _ _ _ _ _ => pe_call FL hr (by rfl) gL kL bL .nil pass0 (pa_cons (pv 2) pa_nil))) pa_nil)))) (pss_one (ps_ret pe_bl)) pss_nil)
      (pss_one (ps_ret (pe_callB (cr_all rfl) (by rfl) b2 (by decide +kernel) (pa_cons (pe_lc (own := [("cell", 3)]) (g := gName 3) (tt := tYes) rfl scIE.nd (pi_tup (pv 1)) (blkOk_by (N := ["text", "cells", "letter", "cell"]) (sc := defScope sIsEntry) (by decide +kernel)) (fun _ _ _ _ _ => pg_name (i := 3) scIE.nd rfl (Or.inl rfl)) (fun _ _ _ _ _ => pts_nil)
          (fun _ _ _ _ _ => pe_chain op_lt op_le (pe_num g3) (pv 3) (pe_num g4))) pa_nil))))), ?_⟩
    have kf : e.good = false → Q (.bl false) H := fun z => by
      have := k H (Same.refl H)
      rw [z] at this
      exact this
    have hge := good_eq e
    refine ⟨_, rfl, q1, _, rfl, .inr (SqT.of h1), _, _, rfl, rfl, _, rfl, ?_⟩
    rw [nv_length]
    by_cases a1 : 1 ≤ e.text.length
    case neg =>
      rw [decide_eq_false (show ¬ (1 : Int) ≤ (e.text.length : Int) by omega)]
      exact iteF ⟨_, rfl, iteT (iteT (kf (by rw [hge, decide_eq_false a1]; rfl)))⟩
    rw [decide_eq_true (show (1 : Int) ≤ (e.text.length : Int) by omega)]
    refine iteT ⟨_, _, rfl, rfl, _, rfl, ?_⟩
    by_cases a2 : e.text.length ≤ 12
    case neg =>
      rw [decide_eq_false (show ¬ (e.text.length : Int) ≤ 12 by omega)]
      exact iteT (iteT (kf (by rw [hge, decide_eq_false a2, Bool.and_false]; rfl)))
    rw [decide_eq_true (show (e.text.length : Int) ≤ 12 by omega)]
    refine iteF ⟨_, rfl, q2, _, rfl, .inr (SqT.of h2), _, _, rfl, rfl, _, rfl, ?_⟩
    rw [nv_length]
    by_cases a3 : 1 ≤ e.cells.length
    case neg =>
      rw [decide_eq_false (show ¬ (1 : Int) ≤ (e.cells.length : Int) by omega)]
      exact iteF ⟨_, rfl, iteT (kf (by rw [hge, decide_eq_false a3, Bool.false_and, Bool.false_and, Bool.and_false]))⟩
    rw [decide_eq_true (show (1 : Int) ≤ (e.cells.length : Int) by omega)]
    refine iteT ⟨_, _, rfl, rfl, _, rfl, ?_⟩
    by_cases a4 : e.cells.length ≤ 6
    case neg =>
      rw [decide_eq_false (show ¬ (e.cells.length : Int) ≤ 6 by omega)]
      exact iteT (kf (by rw [hge, decide_eq_false a4, Bool.and_false, Bool.false_and, Bool.and_false]))
    rw [decide_eq_true (show (e.cells.length : Int) ≤ 6 by omega)]
    refine iteF ?_
    rw [decide_eq_true a1, decide_eq_true a2, decide_eq_true a3, decide_eq_true a4, Bool.true_and, Bool.true_and, Bool.true_and] at hge
    -- all([is_letter(letter) for letter in text])
    refine ⟨_, rfl, q1, rfl, ⟨_, SqT.of h1⟩, fun D nD => lc_bools (walk_tup (xs := nv e.text)) nD (fun i => Km344.isLetter (e.text.getD i 0)) (by rw [nv_length]; omega) (fun H' s => SqT.of (s _ _ h1)) ?_ ?_ ?_⟩
    · rintro i H' x H'' _ _ ⟨rfl, _⟩
      exact Same.refl _
    · rintro i x H' H'' hi _ ⟨rfl, hx⟩ R hR
      obtain ⟨y, hy, rfl⟩ := nv_of hx
      refine ⟨_, rfl, y, rfl, ?_⟩
      have := hR _ (Same.refl _)
      rw [List.getD_eq_getElem?_getD, hy] at this
      exact this
    · intro H' s1 hD
      rw [nv_length] at hD
      refine ⟨D, _, rfl, SqL.of hD, _, rfl, ?_⟩
      rw [all_nat (p := Km344.isLetter)]
      by_cases a5 : e.text.all Km344.isLetter = true
      case neg =>
        rw [Bool.not_eq_true] at a5
        rw [a5]
        refine iteT ?_
        have := k H' s1
        rw [hge, a5] at this
        exact this
      rw [a5]
      refine iteF ?_
      have h2' := s1 _ _ h2
      refine ⟨_, rfl, q2, rfl, ⟨_, SqT.of h2'⟩, fun D2 nD2 => lc_bools (walk_tup (xs := nv e.cells)) nD2 (fun i => decide (1 ≤ e.cells.getD i 0) && decide (e.cells.getD i 0 ≤ 63)) (by rw [nv_length]; omega) (fun H' s => SqT.of (s _ _ h2')) ?_ ?_ ?_⟩
      · rintro i H' x H'' _ _ ⟨rfl, _⟩
        exact Same.refl _
      · rintro i x H0 H'' hi _ ⟨rfl, hx⟩ R hR
        obtain ⟨y, hy, rfl⟩ := nv_of hx
        refine ⟨_, rfl, _, _, rfl, rfl, _, rfl, ?_⟩
        have hz := hR _ (Same.refl _)
        rw [List.getD_eq_getElem?_getD, hy] at hz
        have hz : R (.bl (decide (1 ≤ y) && decide (y ≤ 63))) H'' := hz
        by_cases c1 : 1 ≤ y
        · rw [decide_eq_true (show (0 : Int) < (y : Int) by omega)]
          refine iteT ⟨_, _, rfl, rfl, ?_⟩
          rw [decide_eq_true c1, Bool.true_and] at hz
          have e2 : decide ((y : Int) ≤ 63) = decide (y ≤ 63) := decide_eq_decide.mpr (by omega)
          show R (.bl (decide ((y : Int) ≤ 63))) H''
          rw [e2]
          exact hz
        · rw [decide_eq_false (show ¬ (0 : Int) < (y : Int) by omega)]
          refine iteF ?_
          rw [decide_eq_false c1, Bool.false_and] at hz
          exact hz
      · intro H2 s2 hD2
        rw [nv_length] at hD2
        refine ⟨D2, _, rfl, SqL.of hD2, ?_⟩
        rw [all_nat (p := fun c => decide (1 ≤ c) && decide (c ≤ 63))]
        have := k H2 (s1.trans s2)
        rw [hge, a5, Bool.true_and] at this
        exact this

/-! ### is_table -/
theorem distinct_iff {l : List Km344.Letters} : Km344.distinct l = true ↔ l.Nodup := by
  induction l with
  | nil => exact ⟨fun _ => List.nodup_nil, fun _ => rfl⟩
  | cons x l ih =>
    unfold Km344.distinct
    rw [Bool.and_eq_true, Bool.not_eq_true', Bool.eq_false_iff, ne_eq, List.contains_iff_mem, ih, List.nodup_cons]
theorem tabGood_iff {t : Km344.Table} : t.good = true ↔ t.length ≤ 512 ∧ (∀ e ∈ t, e.good = true) ∧ (t.map Km344.Entry.text).Nodup ∧ ∀ i, i < 94 → ∃ e ∈ t, e.text = [33 + i] := by
  unfold Km344.Table.good
  rw [Bool.and_eq_true, Bool.and_eq_true, Bool.and_eq_true, decide_eq_true_eq, List.all_eq_true, distinct_iff, List.all_eq_true]
  refine and_congr Iff.rfl (and_congr Iff.rfl (and_congr Iff.rfl ⟨fun h i hi => ?_, fun h i hi => ?_⟩))
  · have := h i (List.mem_range.mpr hi)
    obtain ⟨e, he, z⟩ := List.any_eq_true.mp this
    exact ⟨e, he, by simpa using z⟩
  · obtain ⟨e, he, z⟩ := h i (List.mem_range.mp hi)
    exact List.any_eq_true.mpr ⟨e, he, by simpa using z⟩
theorem Tab.of {t : Km344.Table} (h : t.good = true) : Tab t := by
  obtain ⟨_, h2, h3, h4⟩ := tabGood_iff.mp h
  refine ⟨h2, h3, fun x h33 h126 => ?_⟩
  obtain ⟨e, he, z⟩ := h4 (x - 33) (by omega)
  exact ⟨e, he, by rw [z, show 33 + (x - 33) = x by omega]⟩
/-- texts seen so far -/
def seenK (t : Km344.Table) : List (List L2.Key × V) := t.map fun e => (kn e.text, V.bl true)
theorem seenK_val (t : Km344.Table) (w : List Nat) : (valV (seenK t) (kn w)).isSome = decide (∃ e ∈ t, e.text = w) := by
  rw [← valV_any, Bool.eq_iff_iff, List.any_eq_true, decide_eq_true_eq]
  constructor
  · rintro ⟨x, hx, z⟩
    obtain ⟨e, he, rfl⟩ := List.mem_map.mp hx
    exact ⟨e, he, kn_inj (of_decide_eq_true z)⟩
  · rintro ⟨e, he, rfl⟩
    exact ⟨_, List.mem_map.mpr ⟨e, he, rfl⟩, decide_eq_true rfl⟩
def spIsTable : Sp := fun vs H Q _ => ∃ (a : Addr) (qs : List Addr) (t : Km344.Table), vs = [.ref a] ∧ H a = some (.lst (refs qs)) ∧ EntsAt H qs t ∧ t.length ≤ 30000 ∧ ∀ H', Same H H' → Q (.bl (decide (94 ≤ t.length) && t.good)) H'
theorem scIT : FnScope ["entries", "seen", "text", "cells", "letter"] ["entries"] (defScope sIsTable) := ⟨rfl, rfl, rfl, by decide +kernel, rfl, by decide +kernel, by decide +kernel⟩
theorem ok_isTable {f fE : Addr} {fd fdE : FuncData} (F : Fun K "is_table" "is_table" sIsTable f fd) (FE : FnOk P w K mg base CX0 2 fE fdE ["text", "cells"] spIsEntry) (kE : PySem.W.keepIn K (.ref fE) = true) (bE : Binds K fdE ["text", "cells"] []) (gE : mg "is_entry" = some (.ref fE))
    (b1 : mg "len" = none) (b2 : mg "all" = none) (b3 : mg "range" = none) (g1 : Num mg "LEAST_ENTRIES" 94) (g2 : Num mg "MOST_ENTRIES" 512) (g3 : Num mg "FIRST_LETTER" 33) (g4 : Num mg "LAST_LETTER" 126) : FnOk P w K mg base CX0 3 f fd ["entries"] spIsTable := by
  refine F.ok scIT (fun vs H Q E h => ?_) (fun cdv A outer s H vs Q E hr h => ?_)
  · obtain ⟨a, qs, t, rfl, _⟩ := h
    rfl
  · obtain ⟨a, qs, t, rfl, ha, he, hlen, k⟩ := h
    refine ⟨_, pss_cons (ps_if (pt_not (pt_chain op_le op_le (pe_num g1) (pe_callB call_len_seq (by rfl) b1 PySem.boot_len (pa_cons (pv 0) pa_nil)) (pe_num g2))) (pss_one (ps_ret pe_bl)) pss_nil)
      (pss_cons (ps_set (i := 1) scIT.nd rfl (.inr rfl) pe_dnewT)
      (pss_cons (ps_for PassesOwn.never rfl (pi_list (pv 0)) (pg_tup rfl (pgs_cons (pg_name (i := 2) scIT.nd rfl (.inl rfl)) (pgs_cons (pg_name (i := 3) scIT.nd rfl (.inl rfl)) pgs_nil)))
        (pss_cons (ps_if (PW.pt (pw_or (pt_not (pt_val (pe_call FE hr (by rfl) gE kE bE .nil pass0 (pa_cons (pv 2) (pa_cons (pv 3) pa_nil))))) (pw_or1 (pt_cmp (pc_din (hu_of hr) (pv 2) (pv 1)))))) (pss_one (ps_ret pe_bl)) pss_nil)
        (pss_one (ps_dput (hu_of hr) (pv 1) (pv 2) pe_bl rfl))))
      (pss_one (ps_ret (pe_callB (cr_all rfl) (by rfl) b2 (by decide +kernel) (pa_cons (pe_lc (own := [("letter", 4)]) (g := gName 4) (tt := tYes) rfl scIT.nd (pi_range2 rfl b3 (pa_cons (pe_num g3) (pa_cons (pe_op op_add (pe_num g4) pe_int) pa_nil))) (blkOk_by (N := ["entries", "seen", "text", "cells", "letter"]) (sc := defScope sIsTable) (by decide +kernel)) (fun _ _ _ _ _ => pg_name (i := 4) scIT.nd rfl (Or.inl rfl)) (fun _ _ _ _ _ => pts_nil)
          (fun _ _ _ _ _ => pe_cmp (pc_din (hu_of hr) (pe_tup (pa_cons (pv 4) pa_nil)) (pv 1)))) pa_nil)))))), ?_⟩
    have hl : qs.length = t.length := Paired.length he
    have kf : ∀ H', Same H H' → (decide (94 ≤ t.length) && t.good) = false → Q (.bl false) H' := fun H' sm z => by
      have := k H' sm
      rw [z] at this
      exact this
    refine ⟨_, rfl, a, _, rfl, .inl (SqL.of ha), _, _, rfl, rfl, _, rfl, ?_⟩
    rw [refs_length, hl]
    by_cases a1 : 94 ≤ t.length
    case neg =>
      rw [decide_eq_false (show ¬ (94 : Int) ≤ (t.length : Int) by omega)]
      exact iteF ⟨_, rfl, iteT (kf H (Same.refl H) (by rw [decide_eq_false a1, Bool.false_and]))⟩
    rw [decide_eq_true (show (94 : Int) ≤ (t.length : Int) by omega)]
    refine iteT ⟨_, _, rfl, rfl, _, rfl, ?_⟩
    by_cases a2 : t.length ≤ 512
    case neg =>
      rw [decide_eq_false (show ¬ (t.length : Int) ≤ 512 by omega)]
      refine iteT (kf H (Same.refl H) ?_)
      rw [Bool.and_eq_false_iff]
      right
      rw [Bool.eq_false_iff]
      exact fun z => a2 (tabGood_iff.mp z).1
    rw [decide_eq_true (show (t.length : Int) ≤ 512 by omega)]
    refine iteF ?_
    intro d nd
    have da : a ≠ d := ne_of_none ha nd
    have tupk : ∀ {H' : Hp}, Keep [d] H H' → ∀ b xs, H b = some (.tup xs) → H' b = some (.tup xs) := fun kp b xs e => kp b _ e (by
      intro z
      rw [List.mem_singleton] at z
      subst z
      rw [nd] at e
      cases e)
    have sme : ∀ {H' : Hp}, Keep [d] H H' → Same H H' := fun kp b o e => kp b _ e (by
      intro z
      rw [List.mem_singleton] at z
      subst z
      rw [nd] at e
      cases e)
    refine ⟨_, rfl, a, rfl, ⟨_, SqL.of (by rw [upd_ne da]; exact ha)⟩, for_it (walk_list (xs := refs qs)) (fun i σ H' => ∃ v2 v3 v4 : Option V, σ = [some (.ref a), some (.ref d), v2, v3, v4] ∧ Keep [d] H H' ∧ H' d = some (.dT (seenK (t.take i))) ∧
      (∀ e ∈ t.take i, e.good = true) ∧ ((t.take i).map Km344.Entry.text).Nodup) ?_ ?_ ?_ ?_⟩
    · exact ⟨_, _, _, rfl, Keep.upd (Keep.of (Same.refl H)) (.inr nd), upd_same, fun e z => by simp at z, by simp⟩
    · rintro i σ H' hi ⟨v2, v3, v4, rfl, kp, _⟩
      exact SqL.of (kp _ _ ha (by simpa using da))
    · rintro i x σ H0 H' hi ⟨v2, v3, v4, rfl, kp, hd, hg, hn⟩ ⟨rfl, hx⟩
      obtain ⟨q, hq, rfl⟩ := refs_of hx
      obtain ⟨e, he', q1, q2, g0, g1, g2⟩ := he.get' hq
      have hit := (List.getElem?_eq_some_iff.mp he').1
      have het := List.mem_of_getElem? he'
      refine ⟨q, _, rfl, SqT.of (tupk kp _ _ g0), rfl, _, _, rfl, _, _, rfl, rfl, ?_⟩
      refine ⟨_, rfl, _, rfl, q1, q2, e, rfl, tupk kp _ _ g1, tupk kp _ _ g2, fun H2 s2 => ⟨_, rfl, ?_⟩⟩
      have kp2 : Keep [d] H H2 := kp.trans (Keep.of s2)
      by_cases hgood : e.good = true
      case neg =>
        rw [Bool.not_eq_true] at hgood
        rw [hgood]
        refine iteT (iteT (kf _ (sme kp2) ?_))
        rw [Bool.and_eq_false_iff]
        right
        rw [Bool.eq_false_iff]
        intro z
        rw [(tabGood_iff.mp z).2.1 e het] at hgood
        cases hgood
      rw [hgood]
      have hd2 := s2 _ _ hd
      refine iteF ⟨_, rfl, _, rfl, d, _, rfl, DGet.t (k := kn e.text) hd2 (by rw [kn_kV]; exact s2 _ _ (tupk kp _ _ g1)), _, rfl, ?_⟩
      rw [seenK_val]
      by_cases hs : ∃ y ∈ t.take i, y.text = e.text
      case pos =>
        rw [decide_eq_true hs]
        refine iteT (kf _ (sme kp2) ?_)
        rw [Bool.and_eq_false_iff]
        right
        rw [Bool.eq_false_iff]
        intro z
        obtain ⟨y, hy, ey⟩ := hs
        have hnt := (tabGood_iff.mp z).2.2.1
        obtain ⟨j, hj⟩ := List.getElem?_of_mem hy
        have hji : j < i := by
          have := (List.getElem?_eq_some_iff.mp hj).1
          rw [List.length_take] at this
          omega
        rw [List.getElem?_take, if_pos hji] at hj
        have a1 : (t.map Km344.Entry.text)[j]? = some y.text := by rw [List.getElem?_map, hj]; rfl
        have a2 : (t.map Km344.Entry.text)[i]? = some y.text := by rw [List.getElem?_map, he', ey]; rfl
        have := nodup_ix' hnt a1 a2
        omega
      rw [decide_eq_false hs]
      refine iteF ?_
      have hv : valV (seenK (t.take i)) (kn e.text) = none := by
        have := seenK_val (t.take i) e.text
        rw [decide_eq_false hs] at this
        cases z : valV (seenK (t.take i)) (kn e.text) with
        | none => rfl
        | some v => rw [z] at this; cases this
      have hl2 : (seenK (t.take i)).length < sizeLine := big _ (by unfold seenK; rw [List.length_map, List.length_take]; omega)
      refine ⟨_, rfl, _, rfl, d, _, rfl, DPut.t (k := kn e.text) hd2 (by rw [kn_kV]; exact s2 _ _ (tupk kp _ _ g1)) hl2, ?_⟩
      rw [putK_new _ hv]
      refine ⟨_, _, _, rfl, Keep.upd kp2 (.inl (by simp)), ?_, ?_, ?_⟩
      · rw [upd_same, take_more he']
        unfold seenK
        rw [List.map_append]
        rfl
      · intro y hy
        rw [take_more he'] at hy
        rcases List.mem_append.mp hy with hy | hy
        · exact hg y hy
        · rw [List.mem_singleton.mp hy]
          exact hgood
      · rw [take_more he', List.map_append]
        refine List.nodup_append.mpr ⟨hn, by simp, fun x hx y hy z => ?_⟩
        obtain ⟨u, hu, rfl⟩ := List.mem_map.mp hx
        rw [List.map_cons, List.map_nil, List.mem_singleton] at hy
        exact hs ⟨u, hu, z.trans hy⟩
    · rintro σ H' ⟨v2, v3, v4, rfl, kp, hd, hg, hn⟩
      rw [refs_length, hl, List.take_length] at hd hg hn
      refine ⟨_, _, rfl, rfl, _, _, rfl, ⟨by omega, by omega, by omega, by omega⟩, fun D nD => lc_bools (walk_range (lo := 33) (n := 94)) nD (fun i => decide (∃ e ∈ t, e.text = [33 + i])) (by decide) (fun H' s => trivial) ?_ ?_ ?_⟩
      · rintro i H0 x H'' _ _ ⟨rfl, _⟩
        exact Same.refl _
      · rintro i x H0 H'' hi s0 ⟨rfl, rfl⟩ R hR
        refine ⟨_, rfl, (by show 1 ≤ sizeLine; decide), fun p np => ?_⟩
        have hdp := s0 _ _ hd
        refine ⟨_, rfl, d, _, rfl, DGet.t (k := kn [33 + i]) (Same.upd_new np _ _ hdp) ?_, ?_⟩
        · rw [kn_kV, upd_same]
          rfl
        · rw [seenK_val]
          exact hR _ (Same.upd_new np)
      · intro H2 s2 hD
        refine ⟨D, _, rfl, SqL.of hD, ?_⟩
        have hfin : ((List.range 94).map fun i => decide (∃ e ∈ t, e.text = [33 + i])).all id = t.good := by
          rw [Bool.eq_iff_iff, all_range, tabGood_iff]
          constructor
          · intro h
            exact ⟨a2, hg, hn, fun i hi => of_decide_eq_true (h i hi)⟩
          · rintro ⟨_, _, _, h⟩ i hi
            exact decide_eq_true (h i hi)
        rw [hfin]
        have := k H2 ((sme kp).trans s2)
        rw [decide_eq_true a1, Bool.true_and] at this
        exact this
end
end Fc

set_option Elab.async false
set_option linter.all false
set_option maxRecDepth 100000
set_option maxHeartbeats 4000000
/-! sure.py -/
namespace Fc
open PySem PySem.Spec PyProof.Rows L2 FcR
abbrev sIsSure : Stmt := top 37
abbrev sTails : Stmt := top 38
abbrev sBehind : Stmt := top 39
abbrev sNote : Stmt := top 40

/-! ### the mathematics -/
def noteNew (rs fs : List (List Nat)) : List (List Nat) := fs.foldl (fun rs d => if d ∈ rs then rs else rs ++ [d]) rs
theorem noteNew_nil (rs : List (List Nat)) : noteNew rs [] = rs := rfl
theorem noteNew_snoc (rs fs : List (List Nat)) (d : List Nat) : noteNew rs (fs ++ [d]) = if d ∈ noteNew rs fs then noteNew rs fs else noteNew rs fs ++ [d] := by
  unfold noteNew
  rw [List.foldl_append]
  rfl
theorem noteNew_length (rs : List (List Nat)) : ∀ fs : List (List Nat), (noteNew rs fs).length ≤ rs.length + fs.length := by
  intro fs
  induction fs generalizing rs with
  | nil => exact Nat.le_refl _
  | cons d fs ih =>
    show (noteNew (if d ∈ rs then rs else rs ++ [d]) fs).length ≤ _
    have := ih (if d ∈ rs then rs else rs ++ [d])
    rw [List.length_cons]
    split at this
    · rename_i hd
      rw [if_pos hd]
      omega
    · rename_i hd
      rw [if_neg hd]
      rw [List.length_append, List.length_singleton] at this
      omega
theorem mem_noteNew {rs fs : List (List Nat)} {x : List Nat} : x ∈ noteNew rs fs ↔ x ∈ rs ∨ x ∈ fs := by
  induction fs generalizing rs with
  | nil => simp [noteNew]
  | cons d fs ih =>
    show x ∈ noteNew (if d ∈ rs then rs else rs ++ [d]) fs ↔ _
    rw [ih]
    split
    · rename_i hd
      constructor
      · rintro (h | h)
        · exact .inl h
        · exact .inr (List.mem_cons_of_mem _ h)
      · rintro (h | h)
        · exact .inl h
        · rcases List.mem_cons.mp h with rfl | h
          · exact .inl hd
          · exact .inr h
    · rw [List.mem_append, List.mem_singleton, List.mem_cons]
      constructor
      · rintro ((h | h) | h)
        · exact .inl h
        · exact .inr (.inl h)
        · exact .inr (.inr h)
      · rintro (h | h | h)
        · exact .inl (.inl h)
        · exact .inl (.inr h)
        · exact .inr h
theorem nodup_noteNew {rs fs : List (List Nat)} (h : rs.Nodup) : (noteNew rs fs).Nodup := by
  induction fs generalizing rs with
  | nil => exact h
  | cons d fs ih =>
    show (noteNew (if d ∈ rs then rs else rs ++ [d]) fs).Nodup
    apply ih
    split
    · exact h
    · rename_i hd
      exact List.nodup_append.mpr ⟨h, by simp, fun a ha b hb e => hd (by rw [List.mem_singleton] at hb; rw [← hb, ← e]; exact ha)⟩
/-- a noteNew leaves what stood ahead in its place -/
theorem noteNew_pre (rs : List (List Nat)) : ∀ fs : List (List Nat), ∃ more, noteNew rs fs = rs ++ more := by
  intro fs
  induction fs generalizing rs with
  | nil => exact ⟨[], by simp [noteNew]⟩
  | cons d fs ih =>
    show ∃ more, noteNew (if d ∈ rs then rs else rs ++ [d]) fs = rs ++ more
    obtain ⟨m, hm⟩ := ih (if d ∈ rs then rs else rs ++ [d])
    rw [hm]
    split
    · exact ⟨m, rfl⟩
    · exact ⟨d :: m, by simp⟩
/-- pairs of a beginning and the rest, one code's -/
def cuts (c : List Nat) : List (List Nat × List Nat) := (List.range (c.length - 1)).map fun i => (c.take (i + 1), c.drop (i + 1))
def cutsAll (cs : List (List Nat)) : List (List Nat × List Nat) := cs.flatMap cuts
/-- the rests behind p -/
def restsOf (ps : List (List Nat × List Nat)) (p : List Nat) : List (List Nat) := ps.filterMap fun x => if x.1 = p then some x.2 else none
theorem mem_cuts {c p d : List Nat} : (p, d) ∈ cuts c ↔ p ≠ [] ∧ d ≠ [] ∧ p ++ d = c := by
  unfold cuts
  rw [List.mem_map]
  constructor
  · rintro ⟨i, hi, e⟩
    have hi := List.mem_range.mp hi
    have e1 : c.take (i + 1) = p := congrArg Prod.fst e
    have e2 : c.drop (i + 1) = d := congrArg Prod.snd e
    subst e1 e2
    refine ⟨fun z => ?_, fun z => ?_, List.take_append_drop _ _⟩
    · have := congrArg List.length z
      rw [List.length_take, List.length_nil] at this
      omega
    · have := congrArg List.length z
      rw [List.length_drop, List.length_nil] at this
      omega
  · rintro ⟨h1, h2, rfl⟩
    have l1 : 0 < p.length := List.length_pos_iff.mpr h1
    have l2 : 0 < d.length := List.length_pos_iff.mpr h2
    refine ⟨p.length - 1, List.mem_range.mpr (by rw [List.length_append]; omega), ?_⟩
    rw [show p.length - 1 + 1 = p.length by omega, List.take_left, List.drop_left]
theorem mem_restsOf {cs : List (List Nat)} {p d : List Nat} : d ∈ restsOf (cutsAll cs) p ↔ p ≠ [] ∧ d ≠ [] ∧ p ++ d ∈ cs := by
  unfold restsOf cutsAll
  rw [List.mem_filterMap]
  constructor
  · rintro ⟨x, hx, e⟩
    obtain ⟨c, hc, h⟩ := List.mem_flatMap.mp hx
    split at e
    · rename_i hp
      have := mem_cuts.mp (show (x.1, x.2) ∈ cuts c from h)
      rw [hp, Option.some.inj e] at this
      exact ⟨this.1, this.2.1, by rw [this.2.2]; exact hc⟩
    · cases e
  · rintro ⟨h1, h2, h3⟩
    exact ⟨(p, d), List.mem_flatMap.mpr ⟨p ++ d, h3, mem_cuts.mpr ⟨h1, h2, rfl⟩⟩, by simp⟩
theorem restsOf_snoc (ps : List (List Nat × List Nat)) (x : List Nat × List Nat) (p : List Nat) : restsOf (ps ++ [x]) p = restsOf ps p ++ if x.1 = p then [x.2] else [] := by
  unfold restsOf
  rw [List.filterMap_append]
  congr 1
  by_cases h : x.1 = p
  · rw [if_pos h]
    simp [h]
  · rw [if_neg h]
    simp [h]
/-- the rests that codes at d's beginning leave -/
def shorter (cs : List (List Nat)) (d : List Nat) : List (List Nat) := ((List.range (d.length - 1)).filter fun i => decide (d.take (i + 1) ∈ cs)).map fun i => d.drop (i + 1)
theorem mem_shorter {cs : List (List Nat)} {d r : List Nat} : r ∈ shorter cs d ↔ ∃ c ∈ cs, c ≠ [] ∧ r ≠ [] ∧ c ++ r = d := by
  unfold shorter
  rw [List.mem_map]
  constructor
  · rintro ⟨i, hi, rfl⟩
    rw [List.mem_filter, List.mem_range, decide_eq_true_eq] at hi
    refine ⟨_, hi.2, fun z => ?_, fun z => ?_, List.take_append_drop _ _⟩
    · have := congrArg List.length z
      rw [List.length_take, List.length_nil] at this
      omega
    · have := congrArg List.length z
      rw [List.length_drop, List.length_nil] at this
      omega
  · rintro ⟨c, hc, h1, h2, rfl⟩
    have l1 : 0 < c.length := List.length_pos_iff.mpr h1
    have l2 : 0 < r.length := List.length_pos_iff.mpr h2
    refine ⟨c.length - 1, ?_, ?_⟩
    · rw [List.mem_filter, List.mem_range, decide_eq_true_eq, show c.length - 1 + 1 = c.length by omega, List.take_left]
      exact ⟨by rw [List.length_append]; omega, hc⟩
    · rw [show c.length - 1 + 1 = c.length by omega, List.drop_left]
def behind (cs : List (List Nat)) (d : List Nat) : List (List Nat) := restsOf (cutsAll cs) d ++ shorter cs d
/-- the rests so far, of which the first i have been followed -/
structure BInv (cs : List (List Nat)) (i : Nat) (rs : List (List Nat)) : Prop where
  le : i ≤ rs.length
  nd : rs.Nodup
  rc : ∀ d ∈ rs, d ≠ [] ∧ Reach cs d
  first : ∀ c ∈ cs, ∀ d ∈ restsOf (cutsAll cs) c, d ∈ rs
  done : ∀ d ∈ rs.take i, d ∉ cs ∧ ∀ r ∈ behind cs d, r ∈ rs
theorem BInv.go {cs : List (List Nat)} {i : Nat} {rs : List (List Nat)} {d : List Nat} (h : BInv cs i rs) (hd : rs[i]? = some d) (hc : d ∉ cs) : BInv cs (i + 1) (noteNew rs (behind cs d)) := by
  obtain ⟨m, hm⟩ := noteNew_pre rs (behind cs d)
  have hi := (List.getElem?_eq_some_iff.mp hd).1
  have hdr := h.rc d (List.mem_of_getElem? hd)
  refine ⟨by rw [hm, List.length_append]; omega, nodup_noteNew h.nd, fun x hx => ?_, fun c hcs x hx => mem_noteNew.mpr (.inl (h.first c hcs x hx)), fun x hx => ?_⟩
  · rcases mem_noteNew.mp hx with hx | hx
    · exact h.rc x hx
    · unfold behind at hx
      rcases List.mem_append.mp hx with hx | hx
      · obtain ⟨_, h2, h3⟩ := mem_restsOf.mp hx
        exact ⟨h2, .left hdr.2 h3 rfl⟩
      · obtain ⟨c, hcs, _, h2, h3⟩ := mem_shorter.mp hx
        exact ⟨h2, .right hdr.2 hcs h3⟩
  · rw [hm, List.take_append_of_le_length (by omega), take_more hd] at hx
    rcases List.mem_append.mp hx with hx | hx
    · exact ⟨(h.done x hx).1, fun r hr => mem_noteNew.mpr (.inl ((h.done x hx).2 r hr))⟩
    · rw [List.mem_singleton.mp hx]
      exact ⟨hc, fun r hr => mem_noteNew.mpr (.inr hr)⟩
theorem BInv.sure {cs : List (List Nat)} {rs : List (List Nat)} (hne : ∀ c ∈ cs, c ≠ []) (h : BInv cs rs.length rs) : ¬ Reach cs [] := by
  have hd := h.done
  rw [List.take_length] at hd
  have all : ∀ d, Reach cs d → d ∈ rs := by
    intro d hr
    induction hr with
    | base ha hb e hz => exact h.first _ ha _ (mem_restsOf.mpr ⟨hne _ ha, hz, by rw [e]; exact hb⟩)
    | @left c d r _ hc e ih =>
      by_cases hr : r = []
      · subst hr
        rw [List.append_nil] at e
        exact absurd (e ▸ hc) (hd d ih).1
      · exact (hd d ih).2 r (List.mem_append_left _ (mem_restsOf.mpr ⟨(h.rc d ih).1, hr, by rw [e]; exact hc⟩))
    | @right c d r _ hc e ih =>
      by_cases hr : r = []
      · subst hr
        rw [List.append_nil] at e
        exact absurd (e ▸ hc) (hd d ih).1
      · exact (hd d ih).2 r (List.mem_append_right _ (mem_shorter.mpr ⟨c, hc, hne c hc, hr, e⟩))
  intro z
  exact (h.rc [] (all [] z)).1 rfl
theorem Reach.suffix {t : Km344.Table} {d : List Nat} (h : Reach (t.map Km344.Entry.cells) d) : ∃ e ∈ t, d <:+ e.cells := by
  induction h with
  | base ha hb e _ =>
    obtain ⟨y, hy, ey⟩ := List.mem_map.mp hb
    exact ⟨y, hy, ⟨_, by rw [ey]; exact e⟩⟩
  | left _ hc e _ =>
    obtain ⟨y, hy, ey⟩ := List.mem_map.mp hc
    exact ⟨y, hy, ⟨_, by rw [ey]; exact e⟩⟩
  | right _ _ e ih =>
    obtain ⟨y, hy, z⟩ := ih
    exact ⟨y, hy, List.IsSuffix.trans ⟨_, e⟩ z⟩
theorem BInv.few {t : Km344.Table} (h6 : ∀ e ∈ t, e.cells.length ≤ 6) {i : Nat} {rs : List (List Nat)} (h : BInv (t.map Km344.Entry.cells) i rs) : rs.length ≤ 6 * t.length + 1 := by
  have h1 : rs.length ≤ (ends t).length := nodup_le h.nd fun d hd => by
    obtain ⟨e, he, z⟩ := (h.rc d hd).2.suffix
    exact mem_ends he z
  have h2 := ends_length h6
  omega

theorem paired_append {α β : Type} {R : α → β → Prop} : ∀ {a c : List α} {b d : List β}, PySem.Paired R a b → PySem.Paired R c d → PySem.Paired R (a ++ c) (b ++ d)
  | _, _, _, _, .nil, h => h
  | _, _, _, _, .cons r t, h => .cons r (paired_append t h)
/-! ### dicts of True -/
def seenD (rs : List (List Nat)) : List (List L2.Key × V) := rs.map fun d => (kn d, V.bl true)
theorem seenD_val (rs : List (List Nat)) (w : List Nat) : (valV (seenD rs) (kn w)).isSome = decide (w ∈ rs) := by
  rw [← valV_any, Bool.eq_iff_iff, List.any_eq_true, decide_eq_true_eq]
  constructor
  · rintro ⟨x, hx, z⟩
    obtain ⟨e, he, rfl⟩ := List.mem_map.mp hx
    rw [← kn_inj (of_decide_eq_true z)]
    exact he
  · intro he
    exact ⟨_, List.mem_map.mpr ⟨w, he, rfl⟩, decide_eq_true rfl⟩
theorem seenD_none {rs : List (List Nat)} {w : List Nat} (h : w ∉ rs) : valV (seenD rs) (kn w) = none := by
  have := seenD_val rs w
  rw [decide_eq_false h] at this
  cases z : valV (seenD rs) (kn w) with
  | none => rfl
  | some v => rw [z] at this; cases this
theorem seenD_snoc (rs : List (List Nat)) (d : List Nat) : seenD (rs ++ [d]) = seenD rs ++ [(kn d, V.bl true)] := List.map_append
theorem seenD_length (rs : List (List Nat)) : (seenD rs).length = rs.length := List.length_map ..
section
variable {P : Program} {w : World} {K : PySem.W.Frag} {mg : Str → Option Value} {base : Heap}
/-! ### note_new -/
def spNote : Sp := fun vs H Q _ => ∃ (f r s : Addr) (fqs qs : List Addr) (fs rs : List (List Nat)), vs = [.ref f, .ref r, .ref s] ∧ H f = some (.lst (refs fqs)) ∧ Tups H fqs fs ∧ H r = some (.lst (refs qs)) ∧ Tups H qs rs ∧ H s = some (.dT (seenD rs)) ∧ f ≠ r ∧
  rs.length + fs.length ≤ 1000000 ∧ ∀ (H' : Hp) (qs' : List Addr), Keep [r, s] H H' → H' r = some (.lst (refs qs')) → Tups H' qs' (noteNew rs fs) → H' s = some (.dT (seenD (noteNew rs fs))) → Q .non H'
theorem scNN : FnScope ["found", "rests", "seen", "rest"] ["found", "rests", "seen"] (defScope sNote) := ⟨rfl, rfl, rfl, by decide +kernel, rfl, by decide +kernel, by decide +kernel⟩
theorem ok_note {f : Addr} {fd : FuncData} (F : Fun K "note_new" "note_new" sNote f fd) : FnOk P w K mg base CX0 1 f fd ["found", "rests", "seen"] spNote := by
  refine F.ok scNN (fun vs H Q E h => ?_) (fun cdv A outer s0 H vs Q E hr h => ?_)
  · obtain ⟨f, r, s, fqs, qs, fs, rs, rfl, _⟩ := h
    rfl
  · obtain ⟨f, r, s, fqs, qs, fs, rs, rfl, hf, htf, hr0, htr, hs, hfr, hlen, k⟩ := h
    refine ⟨_, pss_one (ps_for PassesOwn.never rfl (pi_list (pv 0)) (pg_name (i := 3) scNN.nd rfl (.inl rfl))
      (pss_one (ps_if (pt_cmp (pc_dnotin (hu_of hr) (pv 3) (pv 2)))
        (pss_cons (ps_dput (hu_of hr) (pv 2) (pv 3) pe_bl rfl)
        (pss_one (ps_expr (pe_bm PySem.F.plainAttrs_list PySem.F.slot_list_append PySem.F.type_list_append mt_append (pv 1) (pa_cons (pv 3) pa_nil))))) pss_nil))), ?_⟩
    have fs' : f ≠ s := ne_of hf hs (fun z => by cases z)
    have rs' : r ≠ s := ne_of hr0 hs (fun z => by cases z)
    have nin : ∀ {b : Addr}, b ≠ r → b ≠ s → b ∉ [r, s] := fun h1 h2 z => by
      rcases List.mem_cons.mp z with z | z
      · exact h1 z
      · exact h2 (List.mem_singleton.mp z)
    have tupk : ∀ {H' : Hp}, Keep [r, s] H H' → ∀ b xs, H b = some (.tup xs) → H' b = some (.tup xs) := fun kp b xs e => kp b _ e (nin (ne_of e hr0 (fun z => by cases z)) (ne_of e hs (fun z => by cases z)))
    refine ⟨_, rfl, f, rfl, ⟨_, SqL.of hf⟩, for_it (walk_list (xs := refs fqs)) (fun i σ H' => ∃ (v3 : Option V) (qs' : List Addr), σ = [some (.ref f), some (.ref r), some (.ref s), v3] ∧ Keep [r, s] H H' ∧ H' r = some (.lst (refs qs')) ∧ Tups H' qs' (noteNew rs (fs.take i)) ∧
      H' s = some (.dT (seenD (noteNew rs (fs.take i))))) ?_ ?_ ?_ ?_⟩
    · exact ⟨_, qs, rfl, Keep.of (Same.refl H), hr0, htr, hs⟩
    · rintro i σ H' hi ⟨v3, qs', rfl, kp, _⟩
      exact SqL.of (kp _ _ hf (nin hfr fs'))
    · rintro i x σ H0 H' hi ⟨v3, qs', rfl, kp, h1, h2, h3⟩ ⟨rfl, hx⟩
      obtain ⟨q, hq, rfl⟩ := refs_of hx
      obtain ⟨d, hd, hqd⟩ := htf.get' hq
      have hqd' := tupk kp _ _ hqd
      have hil := (List.getElem?_eq_some_iff.mp hd).1
      have hln := noteNew_length rs (fs.take i)
      rw [List.length_take] at hln
      refine ⟨_, rfl, _, rfl, s, _, rfl, DGet.t (k := kn d) h3 (by rw [kn_kV]; exact hqd'), _, rfl, ?_⟩
      rw [seenD_val]
      by_cases hin : d ∈ noteNew rs (fs.take i)
      · rw [decide_eq_true hin]
        refine iteF ⟨_, qs', rfl, kp, h1, ?_, ?_⟩
        · rw [take_more hd, noteNew_snoc, if_pos hin]
          exact h2
        · rw [take_more hd, noteNew_snoc, if_pos hin]
          exact h3
      · rw [decide_eq_false hin]
        refine iteT ⟨_, rfl, _, rfl, s, _, rfl, DPut.t (k := kn d) h3 (by rw [kn_kV]; exact hqd') (big _ (by rw [seenD_length]; omega)), ?_⟩
        rw [putK_new _ (seenD_none hin)]
        have h1' : (upd H' s (.dT (seenD (noteNew rs (fs.take i)) ++ [(kn d, V.bl true)]))) r = some (.lst (refs qs')) := by rw [upd_ne rs']; exact h1
        refine ⟨_, rfl, .inl ⟨rfl, _, SqL.of h1'⟩, _, rfl, r, _, _, rfl, rfl, h1', big _ (by rw [refs_length, h2.length]; omega), ?_⟩
        have kt : ∀ b xs, H' b = some (.tup xs) → (upd (upd H' s (.dT (seenD (noteNew rs (fs.take i)) ++ [(kn d, V.bl true)]))) r (.lst (refs qs' ++ [.ref q]))) b = some (.tup xs) := fun b xs eb => by
          rw [upd_ne (ne_of eb h1 (fun z => by cases z)), upd_ne (ne_of eb h3 (fun z => by cases z))]
          exact eb
        refine ⟨_, qs' ++ [q], rfl, Keep.upd (Keep.upd kp (.inl (by simp))) (.inl (by simp)), ?_, ?_, ?_⟩
        · rw [upd_same, refs_snoc]
        · rw [take_more hd, noteNew_snoc, if_neg hin]
          exact (h2.keep kt).snoc (kt _ _ hqd')
        · rw [take_more hd, noteNew_snoc, if_neg hin, upd_ne rs'.symm, upd_same, seenD_snoc]
    · rintro σ H' ⟨v3, qs', rfl, kp, h1, h2, h3⟩
      rw [refs_length, htf.length, List.take_length] at h2 h3
      exact k H' qs' kp h1 h2 h3

/-! ### tails_by_start -/
/-- a dict of lists of tuples: what stands behind each beginning; the lists are new since H0 -/
structure TailsK (H0 H : Hp) (d : Addr) (kvs : List (List L2.Key × V)) (ps : List (List Nat × List Nat)) : Prop where
  dict : H d = some (.dT kvs)
  few : kvs.length ≤ ps.length
  at_ : ∀ p, (valV kvs (kn p) = none ∧ restsOf ps p = []) ∨ ∃ (l : Addr) (qs : List Addr), valV kvs (kn p) = some (.ref l) ∧ H0 l = none ∧ H l = some (.lst (refs qs)) ∧ Tups H qs (restsOf ps p)
  inj : ∀ p p' l, valV kvs (kn p) = some (.ref l) → valV kvs (kn p') = some (.ref l) → p = p'
theorem TailsK.same {H0 H H' : Hp} {d : Addr} {kvs : List (List L2.Key × V)} {ps : List (List Nat × List Nat)} (h : TailsK H0 H d kvs ps) (s : Same H H') : TailsK H0 H' d kvs ps :=
  ⟨s _ _ h.dict, h.few, fun p => (h.at_ p).imp id fun ⟨l, qs, h1, h2, h3, h4⟩ => ⟨l, qs, h1, h2, s _ _ h3, h4.same s⟩, h.inj⟩
theorem restsOf_length (ps : List (List Nat × List Nat)) (p : List Nat) : (restsOf ps p).length ≤ ps.length := List.length_filterMap_le _ _
/-- one more behind a beginning that is there -/
theorem TailsK.old {H0 H : Hp} {d l p2 : Addr} {kvs : List (List L2.Key × V)} {ps : List (List Nat × List Nat)} {p r : List Nat} {qs : List Addr} (h : TailsK H0 H d kvs ps) (hl : valV kvs (kn p) = some (.ref l)) (hls : H l = some (.lst (refs qs)))
    (hq : Tups H qs (restsOf ps p)) (h2 : H p2 = some (.tup (nv r))) : TailsK H0 (upd H l (.lst (refs qs ++ [.ref p2]))) d kvs (ps ++ [(p, r)]) := by
  have ld : d ≠ l := ne_of h.dict hls (fun z => by cases z)
  have kt : ∀ b xs, H b = some (.tup xs) → (upd H l (.lst (refs qs ++ [.ref p2]))) b = some (.tup xs) := fun b xs e => by
    rw [upd_ne (ne_of e hls (fun z => by cases z))]
    exact e
  refine ⟨by rw [upd_ne ld]; exact h.dict, by rw [List.length_append]; have := h.few; omega, fun p' => ?_, h.inj⟩
  rw [restsOf_snoc]
  by_cases e : p = p'
  · subst e
    rw [if_pos rfl]
    rcases h.at_ p with ⟨z, _⟩ | ⟨l', qs', z, h0, h3, h4⟩
    · rw [hl] at z
      cases z
    · rw [hl] at z
      cases z
      right
      refine ⟨l, qs ++ [p2], hl, h0, by rw [upd_same, refs_snoc], (hq.keep kt).snoc (kt _ _ h2)⟩
  · rw [if_neg e, List.append_nil]
    refine (h.at_ p').imp id fun ⟨l', qs', h1, h2, h3, h4⟩ => ⟨l', qs', h1, h2, ?_, h4.keep kt⟩
    rw [upd_ne (fun z => e (h.inj p p' l hl (by rw [h1, z])))]
    exact h3
/-- the first behind a beginning -/
theorem TailsK.new {H0 H : Hp} {d l p2 : Addr} {kvs : List (List L2.Key × V)} {ps : List (List Nat × List Nat)} {p r : List Nat} (h : TailsK H0 H d kvs ps) (hl : valV kvs (kn p) = none) (h0 : H0 l = none) (hls : H l = some (.lst [])) (hn : ∀ p', valV kvs (kn p') ≠ some (.ref l))
    (h2 : H p2 = some (.tup (nv r))) : TailsK H0 (upd (upd H d (.dT (putK kvs (kn p) (.ref l)))) l (.lst [.ref p2])) d (putK kvs (kn p) (.ref l)) (ps ++ [(p, r)]) := by
  have ld : d ≠ l := ne_of h.dict hls (fun z => by cases z)
  have kt : ∀ b xs, H b = some (.tup xs) → (upd (upd H d (.dT (putK kvs (kn p) (.ref l)))) l (.lst [.ref p2])) b = some (.tup xs) := fun b xs e => by
    rw [upd_ne (ne_of e hls (fun z => by cases z)), upd_ne (ne_of e h.dict (fun z => by cases z))]
    exact e
  have val : ∀ p', valV (putK kvs (kn p) (V.ref l)) (kn p') = if p' = p then some (.ref l) else valV kvs (kn p') := fun p' => by
    rw [valV_put]
    by_cases e : p' = p
    · rw [if_pos e, if_pos (by rw [e])]
    · rw [if_neg e, if_neg (fun z => e (kn_inj z))]
  refine ⟨by rw [upd_ne ld, upd_same], ?_, fun p' => ?_, fun a b l' h3 h4 => ?_⟩
  · have := length_putK kvs (kn p) (V.ref l)
    have := h.few
    rw [List.length_append, List.length_singleton]
    omega
  · rw [restsOf_snoc, val]
    by_cases e : p = p'
    · subst e
      rw [if_pos rfl, if_pos rfl]
      right
      rcases h.at_ p with ⟨_, z⟩ | ⟨l', qs', z, _⟩
      · refine ⟨l, [p2], rfl, h0, upd_same, ?_⟩
        rw [z]
        exact Paired.cons (kt _ _ h2) .nil
      · rw [hl] at z
        cases z
    · rw [if_neg e, if_neg (Ne.symm e), List.append_nil]
      refine (h.at_ p').imp id fun ⟨l', qs', h1, h2, h3, h4⟩ => ⟨l', qs', h1, h2, ?_, h4.keep kt⟩
      rw [upd_ne (fun z => hn p' (by rw [h1, z])), upd_ne (ne_of h3 h.dict (fun z => by cases z))]
      exact h3
  · rw [val] at h3 h4
    by_cases ea : a = p
    · by_cases eb : b = p
      · rw [ea, eb]
      · rw [if_pos ea] at h3
        rw [if_neg eb] at h4
        cases h3
        exact absurd h4 (hn b)
    · by_cases eb : b = p
      · rw [if_neg ea] at h3
        rw [if_pos eb] at h4
        cases h4
        exact absurd h3 (hn a)
      · rw [if_neg ea] at h3
        rw [if_neg eb] at h4
        exact h.inj a b l' h3 h4
/-- the dict as it is read -/
def TailsR (H : Hp) (d : Addr) (cs : List (List Nat)) : Prop := ∃ kvs, H d = some (.dT kvs) ∧ ∀ p, (valV kvs (kn p) = none ∧ restsOf (cutsAll cs) p = []) ∨ ∃ (l : Addr) (qs : List Addr), valV kvs (kn p) = some (.ref l) ∧ H l = some (.lst (refs qs)) ∧ Tups H qs (restsOf (cutsAll cs) p)
theorem TailsR.same {H H' : Hp} {d : Addr} {cs : List (List Nat)} (h : TailsR H d cs) (s : Same H H') : TailsR H' d cs := by
  obtain ⟨kvs, h1, h2⟩ := h
  exact ⟨kvs, s _ _ h1, fun p => (h2 p).imp id fun ⟨l, qs, a, b, c⟩ => ⟨l, qs, a, s _ _ b, c.same s⟩⟩
def spTails : Sp := fun vs H Q _ => ∃ (c : Addr) (cs : List (List Nat)), vs = [.ref c] ∧ H c = some (.dT (seenD cs)) ∧ (∀ x ∈ cs, x.length ≤ 6) ∧ cs.length ≤ 30000 ∧ ∀ (H' : Hp) (d : Addr), Same H H' → H d = none → TailsR H' d cs → Q (.ref d) H'
theorem scTB : FnScope ["codes", "tails", "code", "cut"] ["codes"] (defScope sTails) := ⟨rfl, rfl, rfl, by decide +kernel, rfl, by decide +kernel, by decide +kernel⟩
theorem cutsAll_length : ∀ {cs : List (List Nat)}, (∀ x ∈ cs, x.length ≤ 6) → (cutsAll cs).length ≤ 6 * cs.length
  | [], _ => Nat.le_refl _
  | c :: cs, h => by
    have ih := cutsAll_length (cs := cs) fun x hx => h x (List.mem_cons_of_mem _ hx)
    have h1 := h c (List.mem_cons_self ..)
    unfold cutsAll at ih ⊢
    rw [List.flatMap_cons, List.length_append]
    have : (cuts c).length = c.length - 1 := by unfold cuts; rw [List.length_map, List.length_range]
    rw [this, List.length_cons]
    omega
theorem ok_tails {f : Addr} {fd : FuncData} (F : Fun K "tails_by_start" "tails_by_start" sTails f fd) (b1 : mg "len" = none) (b2 : mg "range" = none) : FnOk P w K mg base CX0 1 f fd ["codes"] spTails := by
  refine F.ok scTB (fun vs H Q E h => ?_) (fun cdv A outer s0 H vs Q E hr h => ?_)
  · obtain ⟨c, cs, rfl, _⟩ := h
    rfl
  · obtain ⟨c, cs, rfl, hc, h6, hlen, k⟩ := h
    refine ⟨_, pss_cons (ps_set (i := 1) scTB.nd rfl (.inl rfl) pe_dnewT)
      (pss_cons (ps_lock (ps_for PassesOwn.never rfl (pi_keys (pv 0)) (pg_name (i := 2) scTB.nd rfl (.inl rfl))
        (pss_one (ps_for PassesOwn.never rfl (pi_range2 rfl b2 (pa_cons pe_int (pa_cons (pe_callB call_len_seq (by rfl) b1 PySem.boot_len (pa_cons (pv 2) pa_nil)) pa_nil))) (pg_name (i := 3) scTB.nd rfl (.inl rfl))
          (pss_one (ps_expr (pe_bm PySem.F.plainAttrs_list PySem.F.slot_list_append PySem.F.type_list_append mt_append (pe_dsetdT (hu_of hr) (pv 1) (pe_slice sl_tup (pv 2) po_none (po_some (pv 3))) (pe_lst pa_nil) ⟨rfl, rfl, rfl, rfl⟩) (pa_cons (pe_slice sl_tup (pv 2) (po_some (pv 3)) po_none) pa_nil))))))))
      (pss_one (ps_ret (pv 1)))), ?_⟩
    intro d nd
    have cd : c ≠ d := ne_of_none hc nd
    have hc1 : (upd H d (.dT [])) c = some (.dT (seenD cs)) := by rw [upd_ne cd]; exact hc
    refine ⟨c, .dT (seenD cs), hc1, trivial, fun od => ?_⟩
    have tail0 : ∀ x : List Nat, cutsAll (([] : List (List Nat))) = [] := fun _ => rfl
    refine ⟨_, rfl, c, od, rfl, .inr ⟨seenD cs, upd_same, for_it walk_keysT (fun i σ H' => ∃ (v2 v3 : Option V) (kvs : List (List L2.Key × V)), σ = [some (.ref c), some (.ref d), v2, v3] ∧ (∀ b o, H b = some o → b ≠ c → H' b = some o) ∧
      H' c = some (.frz od (.dT (seenD cs))) ∧ TailsK H H' d kvs (cutsAll (cs.take i))) ?_ ?_ ?_ ?_⟩⟩
    · refine ⟨_, _, [], rfl, fun b o e hb => ?_, upd_same, ⟨by rw [upd_ne cd.symm, upd_same], Nat.le_refl _, fun p => .inl ⟨rfl, rfl⟩, fun p p' l z => by cases z⟩⟩
      rw [upd_ne hb, upd_ne (ne_of_none e nd)]
      exact e
    · rintro i σ H' hi ⟨v2, v3, kvs, rfl, _, hf, _⟩
      exact hf
    · rintro i x σ H0 H' hi ⟨v2, v3, kvs, rfl, kp, hf, ht⟩ ⟨rfl, ky, vv, q, hky, rfl, hq⟩
      unfold seenD at hky
      rw [List.getElem?_map] at hky
      obtain ⟨code, hcode, eky⟩ : ∃ code, cs[i]? = some code ∧ ky = kn code := by
        cases z : cs[i]? with
        | none => rw [z] at hky; cases hky
        | some code =>
          rw [z] at hky
          exact ⟨code, rfl, (congrArg Prod.fst (Option.some.inj hky)).symm⟩
      rw [eky, kn_kV] at hq
      have hl6 := h6 code (List.mem_of_getElem? hcode)
      have hmore : cutsAll (cs.take (i + 1)) = cutsAll (cs.take i) ++ cuts code := by
        rw [take_more hcode]
        unfold cutsAll
        rw [List.flatMap_append]
        simp
      have hclen : (cuts code).length = code.length - 1 := by unfold cuts; rw [List.length_map, List.length_range]
      have hps : (cutsAll (cs.take i)).length ≤ 180000 := by
        have := cutsAll_length (cs := cs.take i) fun x hx => h6 x (List.mem_of_mem_take hx)
        rw [List.length_take] at this
        omega
      refine ⟨_, rfl, q, _, rfl, .inr (SqT.of hq), _, _, rfl, ⟨by omega, by omega, by omega, by rw [nv_length]; omega⟩, ?_⟩
      rw [nv_length, show ((code.length : Int) - 1).toNat = code.length - 1 by omega]
      refine for_range (fun j σ H' => ∃ (v3 : Option V) (kvs : List (List L2.Key × V)), σ = [some (.ref c), some (.ref d), some (.ref q), v3] ∧ (∀ b o, H b = some o → b ≠ c → H' b = some o) ∧
        H' c = some (.frz od (.dT (seenD cs))) ∧ H' q = some (.tup (nv code)) ∧ TailsK H H' d kvs (cutsAll (cs.take i) ++ (cuts code).take j)) ?_ ?_ ?_
      · exact ⟨_, kvs, rfl, kp, hf, hq, by rw [List.take_zero, List.append_nil]; exact ht⟩
      · rintro j σ H2 hj ⟨v3, kvs2, rfl, kp2, hf2, hq2, ht2⟩
        have ej : (1 : Int) + ((j : Nat) : Int) = ((j + 1 : Nat) : Int) := by omega
        rw [ej]
        have hcut : (cuts code)[j]? = some (code.take (j + 1), code.drop (j + 1)) := by
          unfold cuts
          rw [List.getElem?_map, List.getElem?_range hj]
          rfl
        have hnext : cutsAll (cs.take i) ++ (cuts code).take (j + 1) = (cutsAll (cs.take i) ++ (cuts code).take j) ++ [(code.take (j + 1), code.drop (j + 1))] := by
          rw [take_more hcut, List.append_assoc]
        have hfew : kvs2.length ≤ 1000000 := by
          have := ht2.few
          rw [List.length_append, List.length_take] at this
          omega
        -- code[:cut]
        refine ⟨_, rfl, d, rfl, .inr ⟨_, .inl ht2.dict⟩, _, rfl, _, rfl, _, rfl, q, _, rfl, SqT.of hq2, ?_, fun p1 n1 => ?_⟩
        · rw [nv_length, HT.sIx_nat]
          omega
        rw [cut_nv0 _ _ (by omega)]
        have s1 := Same.upd_new (o := .tup (nv (code.take (j + 1)))) n1
        -- []
        refine ⟨by show 0 ≤ sizeLine; decide, fun z nz => ?_⟩
        have s2 := s1.trans (Same.upd_new (o := .lst []) nz)
        have ht3 := ht2.same s2
        have hq3 := s2 _ _ hq2
        have hp1 : (upd (upd H2 p1 (.tup (nv (code.take (j + 1))))) z (.lst [])) p1 = some (.tup (nv (code.take (j + 1)))) := Same.upd_new nz _ _ upd_same
        have hzH : H z = none := by
          cases e : H z with
          | none => rfl
          | some o =>
            exfalso
            by_cases ez : z = c
            · rw [ez, s1 _ _ hf2] at nz
              cases nz
            · rw [s1 _ _ (kp2 z o e ez)] at nz
              cases nz
        -- the list of that beginning: there, or new
        refine ⟨kvs2, kn (code.take (j + 1)), p1, ht3.dict, rfl, (by rw [kn_kV]; exact hp1), big _ (by omega), fun v hv => ?_, fun hv => ?_⟩
        · rcases ht3.at_ (code.take (j + 1)) with ⟨h1, _⟩ | ⟨l, qs, h1, h2, h3, h4⟩
          · rw [hv] at h1
            cases h1
          · rw [hv] at h1
            cases h1
            refine ⟨.inl ⟨rfl, _, SqL.of h3⟩, _, rfl, _, rfl, _, rfl, q, _, rfl, SqT.of hq3, ?_, fun p2 n2 => ?_⟩
            · rw [nv_length, HT.sIx_nat]
              omega
            rw [cut_nv' _ _ (by omega)]
            have s3 := Same.upd_new (o := .tup (nv (code.drop (j + 1)))) n2
            have rl := restsOf_length (cutsAll (cs.take i) ++ (cuts code).take j) (code.take (j + 1))
            have ql := h4.length
            rw [List.length_append, List.length_take] at rl
            refine ⟨l, _, _, rfl, rfl, s3 _ _ h3, big _ (by rw [refs_length]; omega), ?_⟩
            have lc : l ≠ c := fun z => by rw [z] at h2; rw [hc] at h2; cases h2
            refine ⟨_, kvs2, rfl, fun b o e hb => ?_, ?_, ?_, ?_⟩
            · rw [upd_ne (fun z => by rw [z, h2] at e; cases e)]
              exact s3 _ _ (s2 _ _ (kp2 b o e hb))
            · rw [upd_ne lc.symm]
              exact s3 _ _ (s2 _ _ hf2)
            · rw [upd_ne (ne_of hq3 h3 (fun z => by cases z))]
              exact s3 _ _ hq3
            · rw [hnext]
              exact (ht3.same s3).old hv (s3 _ _ h3) (h4.same s3) upd_same
        · have hzz : (upd (upd H2 p1 (.tup (nv (code.take (j + 1))))) z (.lst [])) z = some (.lst []) := upd_same
          have dz : d ≠ z := ne_of ht3.dict hzz (fun e => by cases e)
          have hz4 : (upd (upd (upd H2 p1 (.tup (nv (code.take (j + 1))))) z (.lst [])) d (.dT (putK kvs2 (kn (code.take (j + 1))) (.ref z)))) z = some (.lst []) := by
            rw [upd_ne dz.symm]
            exact hzz
          have qd : q ≠ d := ne_of hq3 ht3.dict (fun e => by cases e)
          refine ⟨.inl ⟨rfl, _, SqL.of hz4⟩, _, rfl, _, rfl, _, rfl, q, _, rfl, SqT.of (by rw [upd_ne qd]; exact hq3), ?_, fun p2 n2 => ?_⟩
          · rw [nv_length, HT.sIx_nat]
            omega
          rw [cut_nv' _ _ (by omega)]
          have s3 := Same.upd_new (o := .tup (nv (code.drop (j + 1)))) n2
          refine ⟨z, _, _, rfl, rfl, s3 _ _ hz4, by show 0 < sizeLine; decide, ?_⟩
          have p2d : p2 ≠ d := fun e => by rw [e, upd_same] at n2; cases n2
          have p2z : p2 ≠ z := fun e => by rw [e, hz4] at n2; cases n2
          have n2' : (upd (upd H2 p1 (.tup (nv (code.take (j + 1))))) z (.lst [])) p2 = none := by
            rw [upd_ne p2d] at n2
            exact n2
          have dc : d ≠ c := cd.symm
          have zc : z ≠ c := fun e => by rw [e, hc] at hzH; cases hzH
          -- the order of the two stores does not matter
          have swap : upd (upd (upd (upd (upd H2 p1 (.tup (nv (code.take (j + 1))))) z (.lst [])) d (.dT (putK kvs2 (kn (code.take (j + 1))) (.ref z)))) p2 (.tup (nv (code.drop (j + 1))))) z (.lst ([] ++ [.ref p2])) =
              upd (upd (upd (upd (upd H2 p1 (.tup (nv (code.take (j + 1))))) z (.lst [])) p2 (.tup (nv (code.drop (j + 1))))) d (.dT (putK kvs2 (kn (code.take (j + 1))) (.ref z)))) z (.lst [.ref p2]) := by
            funext b
            unfold upd
            by_cases e1 : b = z
            · simp only [if_pos e1]
              rfl
            · simp only [if_neg e1]
              by_cases e2 : b = p2
              · have e3 : ¬ b = d := fun e => p2d (e2.symm.trans e)
                simp only [if_pos e2, if_neg e3]
              · simp only [if_neg e2]
          have s4 := Same.upd_new (o := .tup (nv (code.drop (j + 1)))) n2'
          have hnot : ∀ p', valV kvs2 (kn p') ≠ some (.ref z) := fun p' e => by
            rcases ht2.at_ p' with ⟨h1, _⟩ | ⟨l, qs, h1, h2, h3, h4⟩
            · rw [e] at h1
              cases h1
            · rw [e] at h1
              cases h1
              rw [s1 _ _ h3] at nz
              cases nz
          have fin := (ht3.same s4).new (l := z) hv hzH (s4 _ _ hzz) hnot upd_same
          rw [← swap] at fin
          refine ⟨_, _, rfl, fun b o e hb => ?_, ?_, ?_, by rw [hnext]; exact fin⟩
          · rw [upd_ne (fun e' => by rw [e', hzH] at e; cases e), upd_ne (fun e' => by rw [← e', s2 _ _ (kp2 b o e hb)] at n2'; cases n2'), upd_ne (ne_of_none e nd)]
            exact s2 _ _ (kp2 b o e hb)
          · rw [upd_ne zc.symm, upd_ne (fun e' => by rw [← e', s2 _ _ hf2] at n2'; cases n2'), upd_ne dc.symm]
            exact s2 _ _ hf2
          · rw [upd_ne (ne_of hq3 hzz (fun e => by cases e)), upd_ne (fun e' => by rw [← e', hq3] at n2'; cases n2'), upd_ne qd]
            exact hq3
      · rintro σ H2 ⟨v3, kvs2, rfl, kp2, hf2, hq2, ht2⟩
        rw [← hclen, List.take_length, ← hmore] at ht2
        exact ⟨_, _, kvs2, rfl, kp2, hf2, ht2⟩
    · rintro σ H' ⟨v2, v3, kvs, rfl, kp, hf, ht⟩
      rw [seenD_length, List.take_length] at ht
      refine ⟨hf, _, rfl, k _ d (fun b o e => ?_) nd ?_⟩
      · by_cases hb : b = c
        · rw [hb, upd_same]
          rw [hb, hc] at e
          exact e
        · rw [upd_ne hb]
          exact kp b o e hb
      · have kt : ∀ b xs, H' b = some (.tup xs) → (upd H' c (.dT (seenD cs))) b = some (.tup xs) := fun b xs e => by
          rw [upd_ne (ne_of e hf (fun z => by cases z))]
          exact e
        refine ⟨kvs, by rw [upd_ne cd.symm]; exact ht.dict, fun p => (ht.at_ p).imp id fun ⟨l, qs, h1, h2, h3, h4⟩ => ⟨l, qs, h1, ?_, h4.keep kt⟩⟩
        rw [upd_ne (ne_of h3 hf (fun z => by cases z))]
        exact h3

/-! ### rests_behind -/
def spBehind : Sp := fun vs H Q _ => ∃ (q c d : Addr) (x : List Nat) (cs : List (List Nat)), vs = [.ref q, .ref c, .ref d] ∧ H q = some (.tup (nv x)) ∧ H c = some (.dT (seenD cs)) ∧ TailsR H d cs ∧ x.length ≤ 6 ∧ (∀ y ∈ cs, y.length ≤ 6) ∧ cs.length ≤ 30000 ∧
  ∀ (H' : Hp) (p : Addr) (qs : List Addr), Same H H' → H p = none → H' p = some (.lst (refs qs)) → Tups H' qs (behind cs x) → Q (.ref p) H'
theorem scRBh : FnScope ["rest", "codes", "tails", "shorter", "cut"] ["rest", "codes", "tails"] (defScope sBehind) := ⟨rfl, rfl, rfl, by decide +kernel, rfl, by decide +kernel, by decide +kernel⟩
/-- shorter, of the first i cuts -/
def shortI (cs : List (List Nat)) (x : List Nat) (i : Nat) : List (List Nat) := ((List.range i).filter fun k => decide (x.take (k + 1) ∈ cs)).map fun k => x.drop (k + 1)
theorem shortI_succ (cs : List (List Nat)) (x : List Nat) (i : Nat) : shortI cs x (i + 1) = if x.take (i + 1) ∈ cs then shortI cs x i ++ [x.drop (i + 1)] else shortI cs x i := by
  unfold shortI
  rw [List.range_succ, List.filter_append, List.map_append]
  by_cases h : x.take (i + 1) ∈ cs
  · rw [if_pos h]
    simp [h]
  · rw [if_neg h]
    simp [h]
theorem shortI_length (cs : List (List Nat)) (x : List Nat) (i : Nat) : (shortI cs x i).length ≤ i := by
  unfold shortI
  rw [List.length_map]
  have := List.length_filter_le (fun k => decide (x.take (k + 1) ∈ cs)) (List.range i)
  rw [List.length_range] at this
  exact this
theorem ok_behind {f : Addr} {fd : FuncData} (F : Fun K "rests_behind" "rests_behind" sBehind f fd) (b1 : mg "len" = none) (b2 : mg "range" = none) : FnOk P w K mg base CX0 1 f fd ["rest", "codes", "tails"] spBehind := by
  refine F.ok scRBh (fun vs H Q E h => ?_) (fun cdv A outer s0 H vs Q E hr h => ?_)
  · obtain ⟨q, c, d, x, cs, rfl, _⟩ := h
    rfl
  · obtain ⟨q, c, d, x, cs, rfl, hq, hc, hT, hx6, h6, hlen, k⟩ := h
    refine ⟨_, pss_cons (ps_setLc (i := 3) (own := [("cut", 4)]) (g := gName 4) rfl scRBh.nd rfl rfl (sw_true rfl rfl rfl (by decide +kernel)) (pi_range2 rfl b2 (pa_cons pe_int (pa_cons (pe_callB call_len_seq (by rfl) b1 PySem.boot_len (pa_cons (pv 0) pa_nil)) pa_nil)))
        (blkOk_by (N := ["rest", "codes", "tails", "shorter", "cut"]) (sc := defScope sBehind) (by decide +kernel)) (fun _ _ _ _ _ => pg_name (i := 4) scRBh.nd rfl (Or.inl rfl)) (fun _ _ _ _ _ => pts_one (pt_cmp (pc_din (hu_of hr) (pe_slice (r := rSlT K) sl_tup (pv 0) po_none (po_some (pv 4))) (pv 1))))
        (fun _ _ _ _ _ => pe_slice (r := rSlT K) sl_tup (pv 0) (po_some (pv 4)) po_none))
      (pss_one (ps_ret (pe_op op_cat (pe_dget2 (hu_of hr) (pv 2) (pv 0) (pe_lst pa_nil) ⟨rfl, rfl, rfl, rfl⟩) (pv 3)))), ?_⟩
    refine ⟨_, rfl, q, _, rfl, .inr (SqT.of hq), _, _, rfl, ⟨by omega, by omega, by omega, by rw [nv_length]; omega⟩, ?_⟩
    rw [nv_length, show ((x.length : Int) - 1).toNat = x.length - 1 by omega]
    intro D nD
    refine lc_range (fun i H' => ∃ qs, Same H H' ∧ H' D = some (.lst (refs qs)) ∧ Tups H' qs (shortI cs x i)) ⟨[], Same.upd_new nD, upd_same, .nil⟩ ?_ ?_
    · rintro i H1 hi ⟨qs, sm, hD, ht⟩
      have ei : (1 : Int) + ((i : Nat) : Int) = ((i + 1 : Nat) : Int) := by omega
      rw [ei]
      have hq1 := sm _ _ hq
      have hsl := shortI_length cs x i
      refine ⟨rfl, _, rfl, _, rfl, _, rfl, q, _, rfl, SqT.of hq1, ?_, fun p1 n1 => ?_⟩
      · rw [nv_length, HT.sIx_nat]
        omega
      rw [cut_nv0 _ _ (by omega)]
      have s1 := Same.upd_new (o := .tup (nv (x.take (i + 1)))) n1
      refine ⟨_, rfl, c, _, rfl, DGet.t (k := kn (x.take (i + 1))) (s1 _ _ (sm _ _ hc)) (by rw [kn_kV]; exact upd_same), _, rfl, ?_⟩
      rw [seenD_val]
      by_cases hin : x.take (i + 1) ∈ cs
      · rw [decide_eq_true hin]
        refine iteT ⟨_, rfl, _, rfl, _, rfl, q, _, rfl, SqT.of (s1 _ _ hq1), ?_, fun p2 n2 => ?_⟩
        · rw [nv_length, HT.sIx_nat]
          omega
        rw [cut_nv' _ _ (by omega)]
        have s2 := s1.trans (Same.upd_new (o := .tup (nv (x.drop (i + 1)))) n2)
        refine ⟨_, s2 _ _ hD, big _ (by rw [refs_length, ht.length]; omega), qs ++ [p2], Same.upd_own (sm.trans s2) nD, by rw [upd_same, refs_snoc], ?_⟩
        rw [shortI_succ, if_pos hin]
        refine ((ht.same s2).snoc upd_same).keep fun b xs eb => ?_
        rw [upd_ne (ne_of eb (s2 _ _ hD) (fun z => by cases z))]
        exact eb
      · rw [decide_eq_false hin]
        refine iteF ⟨qs, sm.trans s1, s1 _ _ hD, ?_⟩
        rw [shortI_succ, if_neg hin]
        exact ht.same s1
    · rintro H1 ⟨qs, sm, hD, ht⟩
      obtain ⟨kvs, h1, h2⟩ := hT.same sm
      refine ⟨_, rfl, d, rfl, .inr ⟨kvs, .inl h1⟩, _, rfl, (by show 0 ≤ sizeLine; decide), fun z nz => ?_⟩
      have s1 := Same.upd_new (o := .lst []) nz
      refine ⟨valV kvs (kn x), DGet.t (k := kn x) (s1 _ _ h1) (by rw [kn_kV]; exact s1 _ _ (sm _ _ hq)), _, rfl, ?_⟩
      have hsl := shortI_length cs x (x.length - 1)
      have htl := ht.length
      have hD1 := s1 _ _ hD
      have hsh : shortI cs x (x.length - 1) = shorter cs x := rfl
      rcases h2 x with ⟨e1, e2⟩ | ⟨l, ql, e1, e2, e3⟩
      · rw [e1]
        refine ⟨z, D, [], _, rfl, rfl, upd_same, hD1, (by rw [refs_length]; exact Nat.le_of_lt (big _ (by show 0 + qs.length ≤ 10000000; omega))), fun p np => ?_⟩
        have s2 := s1.trans (Same.upd_new (o := .lst ([] ++ refs qs)) np)
        refine k _ p qs (sm.trans s2) ((sm.trans s1).free np) (by rw [upd_same]; rfl) ?_
        unfold behind
        rw [e2, List.nil_append, ← hsh]
        exact ht.same s2
      · rw [e1]
        have rl := restsOf_length (cutsAll cs) x
        have cl := cutsAll_length h6
        have el := e3.length
        refine ⟨l, D, _, _, rfl, rfl, s1 _ _ e2, hD1, (by rw [refs_length, refs_length]; exact Nat.le_of_lt (big _ (by omega))), fun p np => ?_⟩
        have s2 := s1.trans (Same.upd_new (o := .lst (refs ql ++ refs qs)) np)
        refine k _ p (ql ++ qs) (sm.trans s2) ((sm.trans s1).free np) (by rw [upd_same]; unfold refs; rw [List.map_append]) ?_
        unfold behind
        rw [← hsh]
        exact paired_append (e3.same s2) (ht.same s2)
end
end Fc

set_option Elab.async false
set_option linter.all false
set_option maxRecDepth 100000
set_option maxHeartbeats 4000000
/-! sure.py: is_sure -/
namespace Fc
open PySem PySem.Spec PyProof.Rows L2 FcR
/-- the first rests, of the first i codes -/
structure FInv (cs : List (List Nat)) (i : Nat) (rs : List (List Nat)) : Prop where
  nd : rs.Nodup
  rc : ∀ d ∈ rs, d ≠ [] ∧ Reach cs d
  first : ∀ c ∈ cs.take i, ∀ d ∈ restsOf (cutsAll cs) c, d ∈ rs
theorem FInv.go {cs : List (List Nat)} {i : Nat} {rs : List (List Nat)} {c : List Nat} (h : FInv cs i rs) (hc : cs[i]? = some c) : FInv cs (i + 1) (noteNew rs (restsOf (cutsAll cs) c)) := by
  refine ⟨nodup_noteNew h.nd, fun x hx => ?_, fun y hy x hx => ?_⟩
  · rcases mem_noteNew.mp hx with hx | hx
    · exact h.rc x hx
    · obtain ⟨_, h2, h3⟩ := mem_restsOf.mp hx
      exact ⟨h2, .base (List.mem_of_getElem? hc) h3 rfl h2⟩
  · rw [take_more hc] at hy
    rcases List.mem_append.mp hy with hy | hy
    · exact mem_noteNew.mpr (.inl (h.first y hy x hx))
    · rw [List.mem_singleton.mp hy] at hx
      exact mem_noteNew.mpr (.inr hx)
theorem FInv.few {t : Km344.Table} (h6 : ∀ e ∈ t, e.cells.length ≤ 6) {i : Nat} {rs : List (List Nat)} (h : FInv (t.map Km344.Entry.cells) i rs) : rs.length ≤ 6 * t.length + 1 := by
  have h1 : rs.length ≤ (ends t).length := nodup_le h.nd fun d hd => by
    obtain ⟨e, he, z⟩ := (h.rc d hd).2.suffix
    exact mem_ends he z
  have h2 := ends_length h6
  omega
theorem FInv.bfs {cs : List (List Nat)} {rs : List (List Nat)} (h : FInv cs cs.length rs) : BInv cs 0 rs := by
  have hf := h.first
  rw [List.take_length] at hf
  exact ⟨Nat.zero_le _, h.nd, h.rc, hf, fun d hd => by simp at hd⟩
/-- all but what stands at c is as it was -/
def But (c : Addr) (H H' : Hp) : Prop := ∀ b o, H b = some o → b ≠ c → H' b = some o
theorem TailsR.but {H H' : Hp} {d c : Addr} {cs : List (List Nat)} (h : TailsR H d cs) (hc : H c = some (.dT (seenD cs))) (hd : d ≠ c) (s : But c H H') : TailsR H' d cs := by
  obtain ⟨kvs, h1, h2⟩ := h
  refine ⟨kvs, s _ _ h1 hd, fun p => (h2 p).imp id fun ⟨l, qs, a, b, t⟩ => ⟨l, qs, a, s _ _ b (ne_of b hc (fun z => by cases z)), t.keep fun b xs e => s _ _ e (ne_of e hc (fun z => by cases z))⟩⟩
theorem Same.keep {H H1 H2 : Hp} {ms : List Addr} (a : Same H H1) (b : Keep ms H1 H2) (h : ∀ m ∈ ms, H m = none) : Same H H2 := fun x o e => b x o (a x o e) fun z => by rw [h x z] at e; cases e
section
variable {P : Program} {w : World} {K : PySem.W.Frag} {mg : Str → Option Value} {base : Heap}
def spSure : Sp := fun vs H Q _ => ∃ (a : Addr) (qs : List Addr) (t : Km344.Table), vs = [.ref a] ∧ H a = some (.lst (refs qs)) ∧ EntsAt H qs t ∧ t.good = true ∧ ∀ H', Same H H' → Q (.bl t.sure) H'
theorem scSu : FnScope ["entries", "codes", "entry", "tails", "rests", "seen", "code", "at"] ["entries"] (defScope sIsSure) := ⟨rfl, rfl, rfl, by decide +kernel, rfl, by decide +kernel, by decide +kernel⟩
theorem ok_sure {f fT fB fN : Addr} {fd fdT fdB fdN : FuncData} (F : Fun K "is_sure" "is_sure" sIsSure f fd)
    (FT : FnOk P w K mg base CX0 1 fT fdT ["codes"] spTails) (kT : PySem.W.keepIn K (.ref fT) = true) (bT : Binds K fdT ["codes"] []) (gT : mg "tails_by_start" = some (.ref fT))
    (FB : FnOk P w K mg base CX0 1 fB fdB ["rest", "codes", "tails"] spBehind) (kB : PySem.W.keepIn K (.ref fB) = true) (bB : Binds K fdB ["rest", "codes", "tails"] []) (gB : mg "rests_behind" = some (.ref fB))
    (FN : FnOk P w K mg base CX0 1 fN fdN ["found", "rests", "seen"] spNote) (kN : PySem.W.keepIn K (.ref fN) = true) (bN : Binds K fdN ["found", "rests", "seen"] []) (gN : mg "note_new" = some (.ref fN))
    (b1 : mg "len" = none) : FnOk P w K mg base CX0 2 f fd ["entries"] spSure := by
  refine F.ok scSu (fun vs H Q E h => ?_) (fun cdv A outer s0 H vs Q E hr h => ?_)
  · obtain ⟨a, qs, t, rfl, _⟩ := h
    rfl
  · obtain ⟨a, qs, t, rfl, ha, he, hgood, k⟩ := h
    refine ⟨_, pss_cons (ps_set (i := 1) scSu.nd rfl (.inl rfl) pe_dnewT)
      (pss_cons (ps_for PassesOwn.never rfl (pi_list (pv 0)) (pg_name (i := 2) scSu.nd rfl (.inl rfl))
        (pss_cons (ps_if (pt_cmp (pc_din (hu_of hr) (pe_ix ix_tup (pv 2) pe_int (fun _ _ => rfl)) (pv 1))) (pss_one (ps_ret pe_bl)) pss_nil)
        (pss_one (ps_dput (hu_of hr) (pv 1) (pe_ix ix_tup (pv 2) pe_int (fun _ _ => rfl)) pe_bl rfl))))
      (pss_cons (ps_set (i := 3) scSu.nd rfl (.inl rfl) (pe_call FT hr (by rfl) gT kT bT .nil pass0 (pa_cons (pv 1) pa_nil)))
      (pss_cons (ps_set (i := 4) scSu.nd rfl (.inl rfl) (pe_lst pa_nil))
      (pss_cons (ps_set (i := 5) scSu.nd rfl (.inl rfl) pe_dnewT)
      (pss_cons (ps_lock (ps_for PassesOwn.never rfl (pi_keys (pv 1)) (pg_name (i := 6) scSu.nd rfl (.inl rfl))
        (pss_one (ps_expr (pe_call FN hr (by rfl) gN kN bN .nil pass0 (pa_cons (pe_dget2 (hu_of hr) (pv 3) (pv 6) (pe_lst pa_nil) ⟨rfl, rfl, rfl, rfl⟩) (pa_cons (pv 4) (pa_cons (pv 5) pa_nil))))))))
      (pss_cons (ps_set (i := 7) scSu.nd rfl (.inl rfl) pe_int)
      (pss_cons (ps_while PassesOwn.never (pt_cmpR op_lt (pv 7) (pe_callB call_len_seq (by rfl) b1 PySem.boot_len (pa_cons (pv 4) pa_nil)) (nomark _))
        (pss_cons (ps_if (pt_cmp (pc_din (hu_of hr) (pe_ix ix_list (pv 4) (pv 7) (fun _ _ => rfl)) (pv 1))) (pss_one (ps_ret pe_bl)) pss_nil)
        (pss_cons (ps_expr (pe_call FN hr (by rfl) gN kN bN .nil pass0 (pa_cons (pe_call FB hr (by rfl) gB kB bB .nil pass0 (pa_cons (pe_ix ix_list (pv 4) (pv 7) (fun _ _ => rfl)) (pa_cons (pv 1) (pa_cons (pv 3) pa_nil)))) (pa_cons (pv 4) (pa_cons (pv 5) pa_nil)))))
        (pss_one (ps_aug (i := 7) scSu.nd rfl (.inl rfl) pe_int ip_add)))))
      (pss_one (ps_ret pe_bl))))))))), ?_⟩
    have hg := tabGood_iff.mp hgood
    have T := Tab.of hgood
    have h6 : ∀ e ∈ t, e.cells.length ≤ 6 := fun e hee => (good_iff.mp (T.good e hee)).2.2.2.1
    have hne : ∀ c ∈ t.map Km344.Entry.cells, c ≠ [] := fun c hc z => by
      obtain ⟨e, hee, rfl⟩ := List.mem_map.mp hc
      have := (good_iff.mp (T.good e hee)).2.2.1
      rw [z] at this
      simp at this
    have h6c : ∀ y ∈ t.map Km344.Entry.cells, y.length ≤ 6 := fun y hy => by
      obtain ⟨e, hee, rfl⟩ := List.mem_map.mp hy
      exact h6 e hee
    have hsc := sure_codes h6 T.nodup
    have hl : qs.length = t.length := Paired.length he
    have kf : ∀ H', Same H H' → t.sure = false → Q (.bl false) H' := fun H' sm z => by
      have := k H' sm
      rw [z] at this
      exact this
    intro c nc
    have ac : a ≠ c := ne_of_none ha nc
    refine ⟨_, rfl, a, rfl, ⟨_, SqL.of (by rw [upd_ne ac]; exact ha)⟩, for_it (walk_list (xs := refs qs)) (fun i σ H' => ∃ v2 v3 v4 v5 v6 v7 : Option V, σ = [some (.ref a), some (.ref c), v2, v3, v4, v5, v6, v7] ∧ Same H H' ∧
      H' c = some (.dT (seenD ((t.map Km344.Entry.cells).take i))) ∧ ((t.map Km344.Entry.cells).take i).Nodup) ?_ ?_ ?_ ?_⟩
    · exact ⟨_, _, _, _, _, _, rfl, Same.upd_new nc, upd_same, by simp⟩
    · rintro i σ H' hi ⟨v2, v3, v4, v5, v6, v7, rfl, sm, _⟩
      exact SqL.of (sm _ _ ha)
    · rintro i x σ H0 H' hi ⟨v2, v3, v4, v5, v6, v7, rfl, sm, hc, hn⟩ ⟨rfl, hx⟩
      obtain ⟨q, hq, rfl⟩ := refs_of hx
      obtain ⟨e, hei, q1, q2, g0, g1, g2⟩ := he.get' hq
      have hci : (t.map Km344.Entry.cells)[i]? = some e.cells := by rw [List.getElem?_map, hei]; rfl
      have hit := (List.getElem?_eq_some_iff.mp hei).1
      have gg := sm _ _ g0
      refine ⟨_, rfl, q, _, _, _, rfl, rfl, SqT.of gg, atI_nat (j := 1) rfl, _, rfl, c, _, rfl, DGet.t (k := kn e.cells) hc (by rw [kn_kV]; exact sm _ _ g2), _, rfl, ?_⟩
      rw [seenD_val]
      by_cases hin : e.cells ∈ (t.map Km344.Entry.cells).take i
      · rw [decide_eq_true hin]
        refine iteT (kf H' sm ?_)
        rw [Bool.eq_false_iff]
        intro z
        obtain ⟨j, hj⟩ := List.getElem?_of_mem hin
        have hji : j < i := by
          have := (List.getElem?_eq_some_iff.mp hj).1
          rw [List.length_take] at this
          omega
        rw [List.getElem?_take, if_pos hji] at hj
        have := nodup_ix' (hsc.mp z).1 hj hci
        omega
      · rw [decide_eq_false hin]
        refine iteF ⟨_, rfl, _, rfl, q, _, _, _, rfl, rfl, SqT.of gg, atI_nat (j := 1) rfl, c, _, rfl, DPut.t (k := kn e.cells) hc (by rw [kn_kV]; exact sm _ _ g2) (big _ (by rw [seenD_length, List.length_take, List.length_map]; omega)), ?_⟩
        rw [putK_new _ (seenD_none hin)]
        refine ⟨_, _, _, _, _, _, rfl, Same.upd_own sm nc, ?_, ?_⟩
        · rw [upd_same, take_more hci, seenD_snoc]
        · rw [take_more hci]
          exact List.nodup_append.mpr ⟨hn, by simp, fun x hx y hy z => hin (by rw [List.mem_singleton] at hy; rw [← hy, ← z]; exact hx)⟩
    · rintro σ H1 ⟨v2, v3, v4, v5, v6, v7, rfl, sm1, hc1, hn⟩
      obtain ⟨cs, hcs⟩ : ∃ cs, cs = t.map Km344.Entry.cells := ⟨_, rfl⟩
      have hlc : cs.length = t.length := by rw [hcs, List.length_map]
      rw [refs_length, hl, ← hcs, ← hlc, List.take_length] at hc1 hn
      rw [← hcs] at h6c hne hsc
      -- tails = tails_by_start(codes)
      refine ⟨_, rfl, c, cs, rfl, hc1, h6c, by omega, fun H2 d s2 nd ht2 => ?_⟩
      have hc2 := s2 _ _ hc1
      have dc : d ≠ c := fun z => by rw [z, hc1] at nd; cases nd
      -- rests = []; seen = {}
      refine ⟨by show 0 ≤ sizeLine; decide, fun r nr => ?_⟩
      intro s ns
      have nrH : H r = none := (sm1.trans s2).free nr
      have s3 := (Same.upd_new (o := .lst []) nr).trans (Same.upd_new (o := .dT []) ns)
      have ns2 : H2 s = none := (Same.upd_new (o := .lst []) nr).free ns
      have rs' : r ≠ s := fun z => by rw [← z, upd_same] at ns; cases ns
      have nsH : H s = none := (sm1.trans s2).free ns2
      obtain ⟨HT, hHT⟩ : ∃ HT, HT = (upd (upd H2 r (.lst [])) s (.dT [])) := ⟨_, rfl⟩
      have rc : r ≠ c := fun z => by rw [z, hc2] at nr; cases nr
      have sc : s ≠ c := fun z => by rw [z, hc2] at ns2; cases ns2
      have hr0 : (upd (upd H2 r (.lst [])) s (.dT [])) r = some (.lst (refs [])) := by rw [upd_ne rs', upd_same]; rfl
      -- H2 is the heap behind the tails; r, s are new since
      refine ⟨c, .dT (seenD cs), s3 _ _ hc2, trivial, fun od => ?_⟩
      refine ⟨_, rfl, c, od, rfl, .inr ⟨seenD cs, upd_same, for_it walk_keysT (fun i σ H' => ∃ (v6 : Option V) (qr : List Addr) (rs : List (List Nat)), σ = [some (.ref a), some (.ref c), v2, some (.ref d), some (.ref r), some (.ref s), v6, v7] ∧ But c H2 H' ∧
        H' c = some (.frz od (.dT (seenD cs))) ∧ H' r = some (.lst (refs qr)) ∧ Tups H' qr rs ∧ H' s = some (.dT (seenD rs)) ∧ FInv cs i rs) ?_ ?_ ?_ ?_⟩⟩
      · refine ⟨_, [], [], rfl, fun b o e hb => by rw [upd_ne hb]; exact s3 _ _ e, upd_same, by rw [upd_ne rc]; exact hr0, .nil, by rw [upd_ne sc]; exact upd_same, List.nodup_nil, fun d hd => by (cases hd), fun c hc => by simp at hc⟩
      · rintro i σ H' hi ⟨v6, qr, rs, rfl, _, hf, _⟩
        exact hf
      · rintro i x σ H0 H' hi ⟨v6, qr, rs, rfl, kp, hf, hr', htr, hs', hF⟩ ⟨rfl, ky, vv, q, hky, rfl, hq⟩
        unfold seenD at hky
        rw [List.getElem?_map] at hky
        obtain ⟨code, hcode, eky⟩ : ∃ code, cs[i]? = some code ∧ ky = kn code := by
          cases z : cs[i]? with
          | none => rw [z] at hky; cases hky
          | some code =>
            rw [z] at hky
            exact ⟨code, rfl, (congrArg Prod.fst (Option.some.inj hky)).symm⟩
        have htR : TailsR H' d cs := ht2.but hc2 dc kp
        obtain ⟨kvs, h1, h2⟩ := htR
        have hfew := FInv.few (t := t) h6 (by rw [← hcs]; exact hF)
        have cl := cutsAll_length h6c
        have rl := restsOf_length (cutsAll cs) code
        -- what follows the call
        have fin : ∀ (H3 H4 : Hp) (qr' : List Addr), Same H' H3 → Keep [r, s] H3 H4 → H4 r = some (.lst (refs qr')) → Tups H4 qr' (noteNew rs (restsOf (cutsAll cs) code)) → H4 s = some (.dT (seenD (noteNew rs (restsOf (cutsAll cs) code)))) →
            ∃ (v6 : Option V) (qr : List Addr) (rs : List (List Nat)), [some (.ref a), some (.ref c), v2, some (.ref d), some (.ref r), some (.ref s), some (.ref q), v7] = [some (.ref a), some (.ref c), v2, some (.ref d), some (.ref r), some (.ref s), v6, v7] ∧ But c H2 H4 ∧
            H4 c = some (.frz od (.dT (seenD cs))) ∧ H4 r = some (.lst (refs qr)) ∧ Tups H4 qr rs ∧ H4 s = some (.dT (seenD rs)) ∧ FInv cs (i + 1) rs := by
          intro H3 H4 qr' s34 k34 a1 a2 a3
          have nin : ∀ {b : Addr}, b ≠ r → b ≠ s → b ∉ [r, s] := fun h1 h2 z => by
            rcases List.mem_cons.mp z with z | z
            · exact h1 z
            · exact h2 (List.mem_singleton.mp z)
          refine ⟨_, qr', _, rfl, fun b o e hb => ?_, ?_, a1, a2, a3, hF.go hcode⟩
          · exact k34 _ _ (s34 _ _ (kp b o e hb)) (nin (fun z => by rw [z, nr] at e; cases e) (fun z => by rw [z, ns2] at e; cases e))
          · exact k34 _ _ (s34 _ _ hf) (nin rc.symm sc.symm)
        refine ⟨_, rfl, d, rfl, .inr ⟨kvs, .inl h1⟩, _, rfl, (by show 0 ≤ sizeLine; decide), fun z nz => ?_⟩
        have s1 := Same.upd_new (o := .lst []) nz
        have hrz := s1 _ _ hr'
        refine ⟨valV kvs (kn code), DGet.t (k := kn code) (s1 _ _ h1) (by rw [kn_kV]; rw [eky, kn_kV] at hq; exact s1 _ _ hq), _, rfl, _, rfl, ?_⟩
        rcases h2 code with ⟨e1, e2⟩ | ⟨l, ql, e1, e2, e3⟩
        · rw [e1]
          refine ⟨z, r, s, [], qr, [], rs, rfl, upd_same, .nil, hrz, htr.same s1, s1 _ _ hs', (fun e => by rw [e, hr'] at nz; cases nz), (by show rs.length + 0 ≤ 1000000; omega), fun H4 qr' k4 a1 a2 a3 => ?_⟩
          exact fin _ H4 qr' s1 k4 a1 (by rw [e2]; exact a2) (by rw [e2]; exact a3)
        · rw [e1]
          have lr : l ≠ r := by
            obtain ⟨kvs0, g1, g2⟩ := ht2
            rcases g2 code with ⟨z1, _⟩ | ⟨l0, q0, z1, z2, _⟩
            · have : kvs0 = kvs := by
                have := kp _ _ g1 dc
                rw [h1] at this
                cases this
                rfl
              rw [this, e1] at z1
              cases z1
            · have : kvs0 = kvs := by
                have := kp _ _ g1 dc
                rw [h1] at this
                cases this
                rfl
              rw [this, e1] at z1
              cases z1
              exact fun z => by rw [z, nr] at z2; cases z2
          refine ⟨l, r, s, ql, qr, _, rs, rfl, s1 _ _ e2, e3.same s1, hrz, htr.same s1, s1 _ _ hs', lr, by omega, fun H4 qr' k4 a1 a2 a3 => fin _ H4 qr' s1 k4 a1 a2 a3⟩
      · rintro σ H' ⟨v6, qr, rs, rfl, kp, hf, hr', htr, hs', hF⟩
        rw [seenD_length] at hF
        refine ⟨hf, ?_⟩
        have sU : Same H2 (upd H' c (.dT (seenD cs))) := fun b o e => by
          by_cases hb : b = c
          · rw [hb, upd_same]
            rw [hb, hc2] at e
            exact e
          · rw [upd_ne hb]
            exact kp b o e hb
        have nin : ∀ {b : Addr}, b ≠ r → b ≠ s → b ∉ [r, s] := fun h1 h2 z => by
          rcases List.mem_cons.mp z with z | z
          · exact h1 z
          · exact h2 (List.mem_singleton.mp z)
        refine while_by (fun σ H' => ∃ (i : Nat) (v6 : Option V) (qr : List Addr) (rs : List (List Nat)), σ = [some (.ref a), some (.ref c), v2, some (.ref d), some (.ref r), some (.ref s), v6, some (vn i)] ∧ Same H2 H' ∧
          H' r = some (.lst (refs qr)) ∧ Tups H' qr rs ∧ H' s = some (.dT (seenD rs)) ∧ BInv cs i rs) (fun σ _ => 6 * t.length + 2 - natAt σ 7) ?_ ?_ ?_
        · refine ⟨0, _, qr, rs, rfl, sU, by rw [upd_ne rc]; exact hr', htr.keep fun b xs e => ?_, by rw [upd_ne sc]; exact hs', hF.bfs⟩
          rw [upd_ne (ne_of e hf (fun z => by cases z))]
          exact e
        · rintro σ H' ⟨i, v6, qr, rs, rfl, sm2, hr', htr, hs', hB⟩
          have hfew := BInv.few (t := t) h6 (by rw [← hcs]; exact hB)
          have hql := htr.length
          refine ⟨_, rfl, _, rfl, r, _, rfl, .inl (SqL.of hr'), _, _, rfl, rfl, _, rfl, ?_⟩
          rw [refs_length]
          by_cases hlt : i < rs.length
          · rw [decide_eq_true (show (i : Int) < (qr.length : Int) by omega)]
            refine iteT ?_
            have hx : rs[i]? = some rs[i] := List.getElem?_eq_getElem hlt
            obtain ⟨x, hx⟩ : ∃ x, rs[i]? = some x := ⟨_, hx⟩
            obtain ⟨q, hq, hqx⟩ := htr.get hx
            have hrx := hB.rc x (List.mem_of_getElem? hx)
            have hcx := sm2 _ _ hc2
            refine ⟨_, rfl, _, rfl, r, _, _, _, rfl, rfl, SqL.of hr', atI_nat (refs_get hq), _, rfl, c, _, rfl, DGet.t (k := kn x) hcx (by rw [kn_kV]; exact hqx), _, rfl, ?_⟩
            rw [seenD_val]
            by_cases hin : x ∈ cs
            · rw [decide_eq_true hin]
              refine iteT (kf H' ((sm1.trans s2).trans sm2) ?_)
              rw [Bool.eq_false_iff]
              exact fun z => (hsc.mp z).2 (.left hrx.2 hin (List.append_nil x))
            · rw [decide_eq_false hin]
              have hx6 : x.length ≤ 6 := by
                have h := hrx.2
                rw [hcs] at h
                obtain ⟨e, hee, z⟩ := Reach.suffix h
                have := z.length_le
                have := h6 e hee
                omega
              refine iteF ⟨_, rfl, _, rfl, r, _, _, _, rfl, rfl, SqL.of hr', atI_nat (refs_get hq), _, rfl, _, rfl, q, c, d, x, cs, rfl, hqx, hcx, ht2.same sm2, hx6, h6c, by omega, fun H3 p qb s4 np hp hqb => ?_⟩
              have hr3 := s4 _ _ hr'
              have bl : (behind cs x).length ≤ 6 * cs.length + 6 := by
                unfold behind
                rw [List.length_append]
                have h1 := restsOf_length (cutsAll cs) x
                have h2 := cutsAll_length h6c
                have h3 := shortI_length cs x (x.length - 1)
                have h4 : shortI cs x (x.length - 1) = shorter cs x := rfl
                rw [h4] at h3
                omega
              refine ⟨_, rfl, _, rfl, p, r, s, qb, qr, _, rs, rfl, hp, hqb, hr3, htr.same s4, s4 _ _ hs', fun z => by (rw [z, hr'] at np; cases np), by omega, fun H4 qr' k4 a1 a2 a3 => ?_⟩
              refine ⟨_, rfl, _, _, rfl, rfl, ⟨i + 1, _, qr', _, rfl, Same.keep (sm2.trans s4) k4 ?_, a1, a2, a3, hB.go hx hin⟩, ?_⟩
              · intro m hm
                rcases List.mem_cons.mp hm with z | z
                · rw [z]
                  exact nr
                · rw [List.mem_singleton.mp z]
                  exact ns2
              · show 6 * t.length + 2 - ((i : Int) + 1).toNat < 6 * t.length + 2 - ((i : Int)).toNat
                omega
          · rw [decide_eq_false (show ¬ (i : Int) < (qr.length : Int) by omega)]
            have hi : i = rs.length := by have := hB.le; omega
            rw [hi] at hB
            have hs : t.sure = true := hsc.mpr ⟨hn, hB.sure hne⟩
            have := k H' ((sm1.trans s2).trans sm2)
            rw [hs] at this
            exact iteF this
        · rintro σ H' Q1 Q2 hq ⟨v, e, v2, e2, p, ys, e3, hs, i, j, ei, ej, k, ek, q⟩
          exact ⟨v, e, v2, e2, p, ys, e3, hs, i, j, ei, ej, k, ek, hq _ _ q⟩
end
end Fc

set_option Elab.async false
set_option linter.all false
set_option maxRecDepth 100000
set_option maxHeartbeats 4000000
/-! books.py: the records, one word on lines -/
namespace Fc
open PySem PySem.Spec PyProof.Rows L2 FcR
abbrev sLaidInit : Stmt := inClass (top 25) 0
abbrev sBookInit : Stmt := inClass (top 26) 0
abbrev sNoBook : Stmt := top 27
abbrev sBookOf : Stmt := top 28
abbrev sParOf : Stmt := top 29
abbrev sLayWord : Stmt := top 30
abbrev sCellFor : Stmt := top 31
abbrev sSpots : Stmt := top 32
abbrev sCellsOfLine : Stmt := top 33
abbrev sLaidAt : Stmt := top 34
abbrev sPlaceOf : Stmt := top 35

/-! ### records, lines -/
def laidF (p : Nat) (q1 : Addr) (c : Nat) (q2 : Addr) : List (Str × V) := [("place", vn p), ("text", .ref q1), ("cell", vn c), ("cells", .ref q2)]
theorem laidF_new (p : Nat) (q1 : Addr) (c : Nat) (q2 : Addr) : putF "cells" (.ref q2) (putF "cell" (vn c) (putF "text" (.ref q1) (putF "place" (vn p) []))) = laidF p q1 c q2 := by
  have e1 : putF "text" (.ref q1) (putF "place" (vn p) []) = ([("place", vn p), ("text", .ref q1)] : List (Str × V)) := (put_past (by decide +kernel)).trans rfl
  have e2 : putF "cell" (vn c) ([("place", vn p), ("text", .ref q1)] : List (Str × V)) = ([("place", vn p), ("text", .ref q1), ("cell", vn c)] : List (Str × V)) := (put_past (by decide +kernel)).trans (congrArg _ ((put_past (by decide +kernel)).trans rfl))
  have e3 : putF "cells" (.ref q2) ([("place", vn p), ("text", .ref q1), ("cell", vn c)] : List (Str × V)) = laidF p q1 c q2 := (put_past (by decide +kernel)).trans (congrArg _ ((put_past (by decide +kernel)).trans (congrArg _ ((put_past (by decide +kernel)).trans rfl))))
  rw [e1, e2, e3]
theorem laidF_cell (p : Nat) (q1 : Addr) (c : Nat) (q2 : Addr) : (laidF p q1 c q2).lookup ("cell" : Str) = some (vn c) := (lk_past (by decide +kernel)).trans ((lk_past (by decide +kernel)).trans lk_here)
theorem laidF_cells (p : Nat) (q1 : Addr) (c : Nat) (q2 : Addr) : (laidF p q1 c q2).lookup ("cells" : Str) = some (.ref q2) := (lk_past (by decide +kernel)).trans ((lk_past (by decide +kernel)).trans ((lk_past (by decide +kernel)).trans lk_here))
theorem laidF_place (p : Nat) (q1 : Addr) (c : Nat) (q2 : Addr) : (laidF p q1 c q2).lookup ("place" : Str) = some (vn p) := lk_here
theorem laidF_text (p : Nat) (q1 : Addr) (c : Nat) (q2 : Addr) : (laidF p q1 c q2).lookup ("text" : Str) = some (.ref q1) := (lk_past (by decide +kernel)).trans lk_here
structure TxtL (K : PySem.W.Frag) (C : Addr) : Prop where
  cl : Cls K C
  nP : NoAttr K C "place"
  nT : NoAttr K C "text"
  nC : NoAttr K C "cell"
  nS : NoAttr K C "cells"
/-- all that is no list is as it was -/
def NL (H H' : Hp) : Prop := ∀ b o, H b = some o → (∀ xs, o ≠ HO.lst xs) → H' b = some o
theorem NL.of {H H' : Hp} (s : Same H H') : NL H H' := fun b o e _ => s b o e
theorem NL.upd {H : Hp} {a : Addr} {xs : List V} {o : HO} (h : H a = some (.lst xs)) : NL H (upd H a o) := fun b u e hn => by
  rw [upd_ne]
  · exact e
  · rintro rfl
    rw [h] at e
    exact hn _ (Option.some.inj e).symm
def LaidAt (C : Addr) (H : Hp) (a : Addr) (x : Rec) : Prop := ∃ dx q1 q2, H a = some (.ins C dx (laidF x.1 q1 x.2.2 q2)) ∧ H q1 = some (.tup (nv x.2.1.text)) ∧ H q2 = some (.tup (nv x.2.1.cells))
theorem LaidAt.keep {C : Addr} {H H' : Hp} {a : Addr} {x : Rec} (h : LaidAt C H a x) (s : NL H H') : LaidAt C H' a x := by
  obtain ⟨dx, q1, q2, h1, h2, h3⟩ := h
  exact ⟨dx, q1, q2, s _ _ h1 (fun xs z => by cases z), s _ _ h2 (fun xs z => by cases z), s _ _ h3 (fun xs z => by cases z)⟩
def LineAt (C : Addr) (H : Hp) (a : Addr) (l : List Rec) : Prop := ∃ qs : List Addr, H a = some (.lst (refs qs)) ∧ PySem.Paired (LaidAt C H) qs l
theorem LineAt.keep {C : Addr} {H H' : Hp} {a : Addr} {l : List Rec} (h : LineAt C H a l) (s : NL H H') (ha : ∀ o, H a = some o → H' a = some o) : LineAt C H' a l := by
  obtain ⟨qs, h1, h2⟩ := h
  exact ⟨qs, ha _ h1, Paired.mapP h2 fun _ _ z => z.keep s⟩
/-- lines in a list: each a list of records -/
structure LinesAt (C : Addr) (H : Hp) (LA : Addr) (as : List Addr) (ls : List (List Rec)) : Prop where
  lst : H LA = some (.lst (refs as))
  all : PySem.Paired (LineAt C H) as ls
  nd : as.Nodup
  out : LA ∉ as
theorem paired_keep {C : Addr} {H H' : Hp} {as : List Addr} {ls : List (List Rec)} (h : PySem.Paired (LineAt C H) as ls) (s : NL H H') (ha : ∀ a ∈ as, ∀ o, H a = some o → H' a = some o) : PySem.Paired (LineAt C H') as ls := by
  induction h with
  | nil => exact .nil
  | cons r t ih => exact .cons (r.keep s (ha _ (List.mem_cons_self ..))) (ih fun a m => ha a (List.mem_cons_of_mem _ m))
theorem LinesAt.same {C : Addr} {H H' : Hp} {LA : Addr} {as : List Addr} {ls : List (List Rec)} (h : LinesAt C H LA as ls) (s : Same H H') : LinesAt C H' LA as ls :=
  ⟨s _ _ h.lst, paired_keep h.all (.of s) fun a _ o e => s _ _ e, h.nd, h.out⟩
theorem paired_snoc_inv {α β : Type} {R : α → β → Prop} {as : List α} {bs : List β} {b : β} (h : PySem.Paired R as (bs ++ [b])) : ∃ as' a, as = as' ++ [a] ∧ PySem.Paired R as' bs ∧ R a b := by
  induction bs generalizing as with
  | nil =>
    cases h with
    | cons r t =>
      cases t
      exact ⟨[], _, rfl, .nil, r⟩
  | cons x bs ih =>
    cases h with
    | cons r t =>
      obtain ⟨as', a, rfl, h1, h2⟩ := ih t
      exact ⟨_ :: as', a, rfl, .cons r h1, h2⟩
/-- the last line -/
theorem LinesAt.last {C : Addr} {H : Hp} {LA : Addr} {as : List Addr} {done : List (List Rec)} {cur : List Rec} (h : LinesAt C H LA as (done ++ [cur])) : ∃ ad la qs, as = ad ++ [la] ∧ H la = some (.lst (refs qs)) ∧ PySem.Paired (LaidAt C H) qs cur ∧ PySem.Paired (LineAt C H) ad done ∧ la ∉ ad ∧ la ≠ LA := by
  obtain ⟨ad, la, e, h1, qs, h2, h3⟩ := paired_snoc_inv h.all
  have hn := h.nd
  have ho := h.out
  rw [e] at hn ho
  refine ⟨ad, la, qs, e, h2, h3, h1, fun z => ?_, fun z => ho (by rw [z]; simp)⟩
  exact (List.nodup_append.mp hn).2.2 _ z _ (List.mem_singleton_self _) rfl
/-- one record more on the last line -/
theorem LinesAt.more {C : Addr} {H : Hp} {LA la x : Addr} {ad qs : List Addr} {done : List (List Rec)} {cur : List Rec} {r : Rec} (h : LinesAt C H LA (ad ++ [la]) (done ++ [cur])) (hl : H la = some (.lst (refs qs))) (hq : PySem.Paired (LaidAt C H) qs cur) (hx : LaidAt C H x r) :
    LinesAt C (upd H la (.lst (refs qs ++ [.ref x]))) LA (ad ++ [la]) (done ++ [cur ++ [r]]) := by
  obtain ⟨ad', la', qs', e, _, _, h3, h4, h5⟩ := h.last
  obtain ⟨rfl, e2⟩ := List.append_inj' e rfl
  have e3 : la = la' := List.head_eq_of_cons_eq e2
  subst e3
  have s : NL H (upd H la (.lst (refs qs ++ [.ref x]))) := NL.upd hl
  refine ⟨by rw [upd_ne h5.symm]; exact h.lst, ?_, h.nd, h.out⟩
  refine paired_append (paired_keep h3 s fun a ha o eo => ?_) (.cons ⟨qs ++ [x], by rw [upd_same, refs_snoc], ?_⟩ .nil)
  · have ne : a ≠ la := fun z => h4 (by rw [← z]; exact ha)
    rw [upd_ne ne]
    exact eo
  · exact Paired.snoc (Paired.mapP hq fun _ _ z => z.keep s) (hx.keep s)
/-- one line more -/
theorem LinesAt.open_ {C : Addr} {H : Hp} {LA z : Addr} {as : List Addr} {ls : List (List Rec)} (h : LinesAt C H LA as ls) (nz : H z = none) : LinesAt C (upd (upd H z (.lst [])) LA (.lst (refs as ++ [.ref z]))) LA (as ++ [z]) (ls ++ [[]]) := by
  have zL : z ≠ LA := fun e => by rw [e, h.lst] at nz; cases nz
  have hin : ∀ a ∈ as, ∃ o, H a = some o := fun a ha => by
    have : ∀ {as : List Addr} {ls : List (List Rec)}, PySem.Paired (LineAt C H) as ls → a ∈ as → ∃ o, H a = some o := by
      intro as ls p
      induction p with
      | nil => intro z; cases z
      | cons r t ih =>
        intro z
        rcases List.mem_cons.mp z with rfl | z
        · obtain ⟨qs, h1, _⟩ := r
          exact ⟨_, h1⟩
        · exact ih z
    exact this h.all ha
  have za : z ∉ as := fun m => by
    obtain ⟨o, e⟩ := hin z m
    rw [nz] at e
    cases e
  have s1 : Same H (upd H z (.lst [])) := Same.upd_new nz
  have s2 : NL (upd H z (.lst [])) (upd (upd H z (.lst [])) LA (.lst (refs as ++ [.ref z]))) := NL.upd (s1 _ _ h.lst)
  have s3 : NL H (upd (upd H z (.lst [])) LA (.lst (refs as ++ [.ref z]))) := fun b o e hn => s2 b o (s1 b o e) hn
  refine ⟨by rw [upd_same, refs_snoc], paired_append (paired_keep h.all s3 fun a ha o e => ?_) (.cons ⟨[], by rw [upd_ne zL, upd_same]; rfl, .nil⟩ .nil), ?_, ?_⟩
  · have ne : a ≠ LA := fun q => h.out (by rw [← q]; exact ha)
    rw [upd_ne ne]
    exact s1 _ _ e
  · exact List.nodup_append.mpr ⟨h.nd, by simp, fun a ha b hb e => za (by rw [List.mem_singleton] at hb; rw [← hb, ← e]; exact ha)⟩
  · intro m
    rcases List.mem_append.mp m with m | m
    · exact h.out m
    · exact zL (List.mem_singleton.mp m).symm
/-- how much stands on lines -/
def wt (ls : List (List Rec)) : Nat := (ls.map fun l => l.length + 1).sum
theorem wt_snoc (ls : List (List Rec)) (l : List Rec) : wt (ls ++ [l]) = wt ls + (l.length + 1) := by
  unfold wt
  rw [List.map_append, List.sum_append]
  simp
theorem wt_length (ls : List (List Rec)) : ls.length ≤ wt ls := by
  induction ls with
  | nil => exact Nat.le_refl _
  | cons l ls ih =>
    show ls.length + 1 ≤ (l.length + 1) + wt ls
    omega
theorem wt_step {width : Nat} (s : LS) (x : Nat × Km344.Entry) : wt ((stepC width s x).1 ++ [(stepC width s x).2.1]) ≤ wt (s.1 ++ [s.2.1]) + 2 := by
  unfold stepC
  split
  · rw [wt_snoc (s.1 ++ [s.2.1])]
    simp
  · rw [wt_snoc, wt_snoc]
    simp
    omega
theorem wt_steps {width : Nat} : ∀ (us : List (Nat × Km344.Entry)) (s : LS), wt ((us.foldl (stepC width) s).1 ++ [(us.foldl (stepC width) s).2.1]) ≤ wt (s.1 ++ [s.2.1]) + 2 * us.length
  | [], s => Nat.le_refl _
  | x :: us, s => by
    have ih := wt_steps (width := width) us (stepC width s x)
    have := wt_step (width := width) s x
    rw [List.foldl_cons, List.length_cons]
    omega
theorem wt_begun {width n : Nat} {done : List (List Rec)} {cur : List Rec} : wt ((begun width n done cur).1 ++ [(begun width n done cur).2.1]) ≤ wt (done ++ [cur]) + 1 := by
  unfold begun
  split
  · rw [wt_snoc (done ++ [cur])]
    simp
  · exact Nat.le_succ _
theorem wt_layW {width p : Nat} {es : List Km344.Entry} {done : List (List Rec)} {cur : List Rec} : wt ((layW width p es done cur).1 ++ [(layW width p es done cur).2.1]) ≤ wt (done ++ [cur]) + 2 * es.length + 1 := by
  unfold layW
  have h1 := wt_steps (width := width) (placed p es) (begun width (wordCells es) done cur)
  have h2 := wt_begun (width := width) (n := wordCells es) (done := done) (cur := cur)
  rw [placed_length] at h1
  omega

section
variable {P : Program} {w : World} {K : PySem.W.Frag} {mg : Str → Option Value} {base : Heap}
/-! ### the classes -/
def spLaidInit (C : Addr) : Sp := fun vs H Q _ => ∃ (p dx : Addr) (place : Nat) (q1 : Addr) (c : Nat) (q2 : Addr), vs = [.ref p, vn place, .ref q1, vn c, .ref q2] ∧ H p = some (.ins C dx []) ∧
  ∀ H' : Hp, H' p = some (.ins C dx (laidF place q1 c q2)) → Keep [p] H H' → Q .non H'
theorem scLI : FnScope ["self", "place", "text", "cell", "cells"] ["self", "place", "text", "cell", "cells"] (defScope sLaidInit) := ⟨rfl, rfl, rfl, by decide +kernel, rfl, by decide +kernel, by decide +kernel⟩
theorem ok_laidInit {f C : Addr} {fd : FuncData} (F : Fun K "__init__" "Laid.__init__" sLaidInit f fd) (T : TxtL K C) : FnOk P w K mg base CX0 1 f fd ["self", "place", "text", "cell", "cells"] (spLaidInit C) := by
  refine F.ok scLI (fun vs H Q E h => ?_) (fun cdv A outer s H vs Q E hr h => ?_)
  · obtain ⟨p, dx, place, q1, c, q2, rfl, _⟩ := h
    rfl
  · obtain ⟨p, dx, place, q1, c, q2, rfl, hp, k⟩ := h
    refine ⟨_, pss_cons (ps_fld (pv 0) (pv 1) rfl) (pss_cons (ps_fld (pv 0) (pv 2) rfl) (pss_cons (ps_fld (pv 0) (pv 3) rfl) (pss_one (ps_fld (pv 0) (pv 4) rfl)))), ?_⟩
    refine ⟨_, rfl, _, rfl, p, C, dx, _, rfl, hp, T.cl, T.nP, (by show 0 < 1000; decide), ?_⟩
    refine ⟨_, rfl, _, rfl, p, C, dx, _, rfl, upd_same, T.cl, T.nT, (by show 1 < 1000; decide), ?_⟩
    refine ⟨_, rfl, _, rfl, p, C, dx, _, rfl, upd_same, T.cl, T.nC, (by show 2 < 1000; decide), ?_⟩
    refine ⟨_, rfl, _, rfl, p, C, dx, _, rfl, upd_same, T.cl, T.nS, (by show 3 < 1000; decide), ?_⟩
    refine k _ ?_ ?_
    · rw [upd_same, laidF_new]
    · exact Keep.upd (Keep.upd (Keep.upd (Keep.upd (Keep.of (Same.refl H)) (.inl (by simp))) (.inl (by simp))) (.inl (by simp))) (.inl (by simp))
/-! ### cell_for_word -/
def spCellFor (C : Addr) : Sp := fun vs H Q _ => ∃ (a : Addr) (l : List Rec), vs = [.ref a] ∧ LineAt C H a l ∧ Q (vn (cellFor l)) H
theorem scCF : FnScope ["line", "last"] ["line"] (defScope sCellFor) := ⟨rfl, rfl, rfl, by decide +kernel, rfl, by decide +kernel, by decide +kernel⟩
theorem ok_cellFor {f C : Addr} {fd : FuncData} (F : Fun K "cell_for_word" "cell_for_word" sCellFor f fd) (T : TxtL K C) (b1 : mg "len" = none) : FnOk P w K mg base CX0 1 f fd ["line"] (spCellFor C) := by
  refine F.ok scCF (fun vs H Q E h => ?_) (fun cdv A outer s H vs Q E hr h => ?_)
  · obtain ⟨a, l, rfl, _⟩ := h
    rfl
  · obtain ⟨a, l, rfl, ⟨qs, ha, hq⟩, k⟩ := h
    refine ⟨_, pss_cons (ps_if (pt_cmpR op_eq (pe_callB call_len_seq (by rfl) b1 PySem.boot_len (pa_cons (pv 0) pa_nil)) pe_int (nomark _)) (pss_one (ps_ret pe_int)) pss_nil)
      (pss_cons (ps_set (i := 1) scCF.nd rfl (.inl rfl) (pe_ix ix_list (pv 0) (pe_un un_neg pe_int) (fun _ _ => rfl)))
      (pss_one (ps_ret (pe_op op_add (pe_op op_add (pe_fld (pv 1) rfl) (pe_callB call_len_seq (by rfl) b1 PySem.boot_len (pa_cons (pe_fld (pv 1) rfl) pa_nil))) pe_int)))), ?_⟩
    refine ⟨_, rfl, a, _, rfl, .inl (SqL.of ha), rfl, _, rfl, ?_⟩
    have hl := Paired.length hq
    rw [refs_length]
    rcases List.eq_nil_or_concat l with rfl | ⟨l', x, rfl⟩
    rotate_left
    rw [List.concat_eq_append] at hq k
    rotate_left
    · rw [hl]
      refine iteT ?_
      exact k
    · obtain ⟨qs', q, rfl, _, dx, q1, q2, h1, h2, h3⟩ := paired_snoc_inv hq
      have hne : ¬ V.int (((qs' ++ [q]).length : Nat) : Int) = V.int 0 := fun z => by
        injection z with z
        rw [List.length_append, List.length_singleton] at z
        omega
      rw [decide_eq_false hne]
      refine iteF ⟨_, rfl, _, rfl, a, _, _, _, rfl, rfl, SqL.of ha, by rw [refs_snoc]; exact atI_last _ _, ?_⟩
      refine ⟨_, rfl, q, C, dx, _, _, rfl, h1, T.cl, T.nC, laidF_cell _ _ _ _, _, rfl, q, C, dx, _, _, rfl, h1, T.cl, T.nS, laidF_cells _ _ _ _, q2, _, rfl, .inr (SqT.of h3), _, _, rfl, rfl, _, _, rfl, rfl, ?_⟩
      rw [nv_length]
      rw [cellFor_snoc] at k
      exact k
end
end Fc

set_option Elab.async false
set_option linter.all false
set_option maxRecDepth 100000
set_option maxHeartbeats 4000000
/-! books.py: spots_of_letters, cells_of_line, laid_at_cell, place_of_bytes -/
namespace Fc
open PySem PySem.Spec PyProof.Rows L2 FcR

/-! ### a list that tells of places -/
def Spot (D : Nat → Nat → Nat → Prop) (H : Hp) (sp : Addr) (n : Nat) : Prop := ∃ xs : List V, H sp = some (.lst xs) ∧ xs.length = n ∧
  ∀ i, i < n → (xs[i]? = some V.non ∧ ∀ k c, ¬ D i k c) ∨ ∃ q k c, xs[i]? = some (V.ref q) ∧ H q = some (.tup [vn k, vn c]) ∧ D i k c
theorem Spot.same {D : Nat → Nat → Nat → Prop} {H H' : Hp} {sp : Addr} {n : Nat} (h : Spot D H sp n) (s : Same H H') : Spot D H' sp n := by
  obtain ⟨xs, h1, h2, h3⟩ := h
  refine ⟨xs, s _ _ h1, h2, fun i hi => ?_⟩
  rcases h3 i hi with h | ⟨q, k, c, e1, e2, e3⟩
  · exact .inl h
  · exact .inr ⟨q, k, c, e1, s _ _ e2, e3⟩
theorem Spot.iff {D D' : Nat → Nat → Nat → Prop} {H : Hp} {sp : Addr} {n : Nat} (h : Spot D H sp n) (e : ∀ i k c, D i k c ↔ D' i k c) : Spot D' H sp n := by
  obtain ⟨xs, h1, h2, h3⟩ := h
  refine ⟨xs, h1, h2, fun i hi => ?_⟩
  rcases h3 i hi with ⟨h, hn⟩ | ⟨q, k, c, e1, e2, e3⟩
  · exact .inl ⟨h, fun k c z => hn k c ((e i k c).mpr z)⟩
  · exact .inr ⟨q, k, c, e1, e2, (e i k c).mp e3⟩
theorem Spot.put {D : Nat → Nat → Nat → Prop} {H : Hp} {sp t : Addr} {n p k c : Nat} {xs : List V} (hp : p < n) (h1 : H sp = some (.lst xs)) (h2 : xs.length = n)
    (h3 : ∀ i, i < n → (xs[i]? = some V.non ∧ ∀ k c, ¬ D i k c) ∨ ∃ q k c, xs[i]? = some (V.ref q) ∧ H q = some (.tup [vn k, vn c]) ∧ D i k c) (nt : H t = none) :
    Spot (fun i k' c' => D i k' c' ∨ (i = p ∧ k' = k ∧ c' = c)) (upd (upd H t (.tup [vn k, vn c])) sp (.lst (xs.set p (.ref t)))) sp n := by
  have ts : t ≠ sp := (ne_of_none h1 nt).symm
  refine ⟨_, upd_same, by rw [List.length_set]; exact h2, fun i hi => ?_⟩
  by_cases e : i = p
  · subst e
    exact .inr ⟨t, k, c, List.getElem?_set_self (by omega), by rw [upd_ne ts]; exact upd_same, .inr ⟨rfl, rfl, rfl⟩⟩
  · rw [List.getElem?_set_ne (Ne.symm e)]
    rcases h3 i hi with ⟨h, hn⟩ | ⟨q, k', c', e1, e2, e3⟩
    · refine .inl ⟨h, fun k' c' z => ?_⟩
      rcases z with z | z
      · exact hn _ _ z
      · exact e z.1
    · refine .inr ⟨q, k', c', e1, ?_, .inl e3⟩
      rw [upd_ne (ne_of e2 h1 (fun z => by cases z)), upd_ne (ne_of_none e2 nt)]
      exact e2
/-- what's painted by the first i lines -/
def paintL (L : List (List Rec)) (i : Nat) (a k c : Nat) : Prop := ∃ l x, k < i ∧ L[k]? = some l ∧ x ∈ l ∧ x.1 ≤ a ∧ a < x.1 + x.2.1.text.length ∧ c = x.2.2
/-- .. and by records of line i -/
def paintR (L : List (List Rec)) (i : Nat) (r : List Rec) (a k c : Nat) : Prop := paintL L i a k c ∨ (k = i ∧ ∃ x ∈ r, x.1 ≤ a ∧ a < x.1 + x.2.1.text.length ∧ c = x.2.2)
/-- .. and by m places of a record -/
def paintP (L : List (List Rec)) (i : Nat) (r : List Rec) (x : Rec) (m : Nat) (a k c : Nat) : Prop := paintR L i r a k c ∨ (k = i ∧ x.1 ≤ a ∧ a < x.1 + m ∧ c = x.2.2)
def SpotsAt (H : Hp) (sp : Addr) (n : Nat) (L : List (List Rec)) : Prop := Spot (paintL L L.length) H sp n
theorem paint_one {L : List (List Rec)} {i : Nat} {r : List Rec} {x : Rec} {m a k c : Nat} : (paintP L i r x m a k c ∨ (a = x.1 + m ∧ k = i ∧ c = x.2.2)) ↔ paintP L i r x (m + 1) a k c := by
  unfold paintP
  constructor
  · rintro ((h | ⟨h1, h2, h3, h4⟩) | ⟨h1, h2, h3⟩)
    · exact .inl h
    · exact .inr ⟨h1, h2, by omega, h4⟩
    · exact .inr ⟨h2, by omega, by omega, h3⟩
  · rintro (h | ⟨h1, h2, h3, h4⟩)
    · exact .inl (.inl h)
    · by_cases e : a = x.1 + m
      · exact .inr ⟨e, h1, h4⟩
      · exact .inl (.inr ⟨h1, h2, by omega, h4⟩)
theorem paint_rec {L : List (List Rec)} {i : Nat} {r : List Rec} {x : Rec} {a k c : Nat} : paintP L i r x x.2.1.text.length a k c ↔ paintR L i (r ++ [x]) a k c := by
  unfold paintP paintR
  constructor
  · rintro ((h | ⟨h1, y, hy, h2⟩) | ⟨h1, h2, h3, h4⟩)
    · exact .inl h
    · exact .inr ⟨h1, y, List.mem_append_left _ hy, h2⟩
    · exact .inr ⟨h1, x, List.mem_append_right _ (List.mem_singleton_self _), h2, h3, h4⟩
  · rintro (h | ⟨h1, y, hy, h2⟩)
    · exact .inl (.inl h)
    · rcases List.mem_append.mp hy with hy | hy
      · exact .inl (.inr ⟨h1, y, hy, h2⟩)
      · rw [List.mem_singleton.mp hy] at h2
        exact .inr ⟨h1, h2.1, h2.2.1, h2.2.2⟩
theorem paint_line {L : List (List Rec)} {i : Nat} {l : List Rec} (h : L[i]? = some l) {a k c : Nat} : paintR L i l a k c ↔ paintL L (i + 1) a k c := by
  unfold paintR paintL
  constructor
  · rintro (⟨l', x, h1, h2⟩ | ⟨rfl, x, hx, h2⟩)
    · exact ⟨l', x, by omega, h2⟩
    · exact ⟨l, x, by omega, h, hx, h2⟩
  · rintro ⟨l', x, h1, h2, h3, h4⟩
    by_cases e : k = i
    · subst e
      rw [h] at h2
      cases h2
      exact .inr ⟨rfl, x, h3, h4⟩
    · exact .inl ⟨l', x, by omega, h2, h3, h4⟩
theorem pget {α β : Type} {R : α → β → Prop} : ∀ {as : List α} {bs : List β} {i : Nat} {a : α}, PySem.Paired R as bs → as[i]? = some a → ∃ b, bs[i]? = some b ∧ R a b
  | _, _, _, _, .nil, e => by simp at e
  | _, _, 0, _, .cons r _, e => by simp at e; subst e; exact ⟨_, rfl, r⟩
  | _, _, i + 1, a, .cons _ t, e => by
    obtain ⟨b, h1, h2⟩ := pget (i := i) (a := a) t (by simpa using e)
    exact ⟨b, by simpa using h1, h2⟩
theorem pget' {α β : Type} {R : α → β → Prop} : ∀ {as : List α} {bs : List β} {i : Nat} {b : β}, PySem.Paired R as bs → bs[i]? = some b → ∃ a, as[i]? = some a ∧ R a b
  | _, _, _, _, .nil, e => by simp at e
  | _, _, 0, _, .cons r _, e => by simp at e; subst e; exact ⟨_, rfl, r⟩
  | _, _, i + 1, b, .cons _ t, e => by
    obtain ⟨a, h1, h2⟩ := pget' (i := i) (b := b) t (by simpa using e)
    exact ⟨a, by simpa using h1, h2⟩
section
variable {P : Program} {w : World} {K : PySem.W.Frag} {mg : Str → Option Value} {base : Heap}
/-! ### spots_of_letters -/
def spSpots (CL : Addr) : Sp := fun vs H Q _ => ∃ (n : Nat) (LA : Addr) (as : List Addr) (L : List (List Rec)), vs = [vn n, .ref LA] ∧ LinesAt CL H LA as L ∧ n ≤ 30000 ∧ (∀ l ∈ L, ∀ x ∈ l, x.1 + x.2.1.text.length ≤ n) ∧
  ∀ (H' : Hp) (sp : Addr), Same H H' → H sp = none → SpotsAt H' sp n L → Q (.ref sp) H'
theorem scSp : FnScope ["count", "lines", "spots", "number", "line", "laid", "place"] ["count", "lines"] (defScope sSpots) := ⟨rfl, rfl, rfl, by decide +kernel, rfl, by decide +kernel, by decide +kernel⟩
theorem ok_spots {f CL : Addr} {fd : FuncData} (F : Fun K "spots_of_letters" "spots_of_letters" sSpots f fd) (T : TxtL K CL) (b1 : mg "len" = none) (b2 : mg "range" = none) (b3 : mg "enumerate" = none) : FnOk P w K mg base CX0 1 f fd ["count", "lines"] (spSpots CL) := by
  refine F.ok scSp (fun vs H Q E h => ?_) (fun cdv A outer s H vs Q E hr h => ?_)
  · obtain ⟨n, LA, as, L, rfl, _⟩ := h
    rfl
  · obtain ⟨n, LA, as, L, rfl, hL, hn, hin, k⟩ := h
    refine ⟨_, pss_cons (ps_set (i := 2) scSp.nd rfl (.inl rfl) (pe_op op_rep (pe_lst (pa_cons pe_non pa_nil)) (pv 0)))
      (pss_cons (ps_for PassesOwn.never rfl (pi_enumB (by rfl) b3 (pa_cons (pv 1) pa_nil)) (pg_tup rfl (pgs_cons (pg_name (i := 3) scSp.nd rfl (.inl rfl)) (pgs_cons (pg_name (i := 4) scSp.nd rfl (.inl rfl)) pgs_nil)))
        (pss_one (ps_for PassesOwn.never rfl (pi_list (pv 4)) (pg_name (i := 5) scSp.nd rfl (.inl rfl))
          (pss_one (ps_for PassesOwn.never rfl (pi_range2 rfl b2 (pa_cons (pe_fld (pv 5) rfl) (pa_cons (pe_op op_add (pe_fld (pv 5) rfl) (pe_callB call_len_seq (by rfl) b1 PySem.boot_len (pa_cons (pe_fld (pv 5) rfl) pa_nil))) pa_nil))) (pg_name (i := 6) scSp.nd rfl (.inl rfl))
            (pss_one (ps_asg (pe_tup (pa_cons (pv 3) (pa_cons (pe_fld (pv 5) rfl) pa_nil))) (pg_sub (pv 2) (pv 6) set_list))))))))
      (pss_one (ps_ret (pv 2)))), ?_⟩
    refine ⟨by show 1 ≤ sizeLine; decide, fun p1 n1 => ⟨_, rfl, p1, (n : Int), [V.non], rfl, rfl, upd_same, by omega, by omega, (by show 1 * (n : Int).toNat ≤ sizeLine; rw [Int.toNat_natCast]; exact Nat.le_of_lt (big _ (by omega))), fun sp nsp => ?_⟩⟩
    have s1 := (Same.upd_new (o := .lst [V.non]) n1).trans (Same.upd_new (o := .lst (List.replicate (n : Int).toNat [V.non]).flatten) nsp)
    have hsp : H sp = none := (Same.upd_new n1).free nsp
    refine ⟨_, rfl, LA, refs as, rfl, for_enumL (SqL.of (s1 _ _ hL.lst)) (fun i σ H' => ∃ v3 v4 v5 v6 : Option V, σ = [some (vn n), some (.ref LA), some (.ref sp), v3, v4, v5, v6] ∧ Same H H' ∧ Spot (paintL L i) H' sp n) ?_ ?_ ?_ ?_⟩
    · refine ⟨_, _, _, _, rfl, s1, _, upd_same, ?_, fun i hi => .inl ⟨?_, ?_⟩⟩
      · rw [Int.toNat_natCast, flat_one, List.length_replicate]
      · rw [Int.toNat_natCast, flat_one, List.getElem?_replicate, if_pos hi]
      · rintro k c ⟨l, x, h, _⟩
        omega
    · rintro i σ H' hi ⟨v3, v4, v5, v6, rfl, sm, _⟩
      exact SqL.of (sm _ _ hL.lst)
    · rintro i x σ H1 Tt hx ⟨v3, v4, v5, v6, rfl, sm, hS⟩ nT
      obtain ⟨la, hla, rfl⟩ := refs_of hx
      obtain ⟨l, hl, qs, hq1, hq2⟩ := pget hL.all hla
      have sT := Same.upd_new (o := .tup [.int (i : Nat), .ref la]) nT
      have sm1 := sm.trans sT
      have hlL : l ∈ L := List.mem_of_getElem? hl
      refine ⟨Tt, _, rfl, SqT.of upd_same, rfl, _, _, rfl, _, _, rfl, rfl, ?_⟩
      refine ⟨_, rfl, la, rfl, ⟨_, SqL.of (sm1 _ _ hq1)⟩, for_it (walk_list (xs := refs qs)) (fun j σ H' => ∃ v5 v6 : Option V, σ = [some (vn n), some (.ref LA), some (.ref sp), some (vn i), some (.ref la), v5, v6] ∧ Same H H' ∧ Spot (paintR L i (l.take j)) H' sp n) ?_ ?_ ?_ ?_⟩
      · refine ⟨_, _, rfl, sm1, (hS.same sT).iff fun a k c => ?_⟩
        unfold paintR
        rw [List.take_zero]
        constructor
        · exact .inl
        · rintro (h | ⟨_, x, hx, _⟩)
          · exact h
          · cases hx
      · rintro j σ H' hj ⟨v5, v6, rfl, sm2, _⟩
        exact SqL.of (sm2 _ _ hq1)
      · rintro j y σ H0 H' hj ⟨v5, v6, rfl, sm2, hS2⟩ ⟨rfl, hy⟩
        obtain ⟨q, hqj, rfl⟩ := refs_of hy
        obtain ⟨r, hr2, dx, q1, q2, h1, h2, h3⟩ := pget hq2 hqj
        have hrl : r ∈ l := List.mem_of_getElem? hr2
        have hrn := hin l hlL r hrl
        have g1 := sm2 _ _ h1
        refine ⟨_, rfl, q, CL, dx, _, _, rfl, g1, T.cl, T.nP, laidF_place _ _ _ _, _, rfl, q, CL, dx, _, _, rfl, g1, T.cl, T.nP, laidF_place _ _ _ _, _, rfl, q, CL, dx, _, _, rfl, g1, T.cl, T.nT, laidF_text _ _ _ _, q1, _, rfl, .inr (SqT.of (sm2 _ _ h2)), _, _, rfl, rfl, _, _, rfl, ⟨by omega, by omega, by rw [nv_length]; omega, by rw [nv_length]; omega⟩, ?_⟩
        rw [nv_length, show ((r.1 : Int) + (r.2.1.text.length : Int) - (r.1 : Int)).toNat = r.2.1.text.length by omega]
        refine for_range (fun m σ H' => ∃ v6 : Option V, σ = [some (vn n), some (.ref LA), some (.ref sp), some (vn i), some (.ref la), some (.ref q), v6] ∧ Same H H' ∧ Spot (paintP L i (l.take j) r m) H' sp n) ?_ ?_ ?_
        · refine ⟨_, rfl, sm2, hS2.iff fun a k c => ?_⟩
          unfold paintP
          constructor
          · exact .inl
          · rintro (h | ⟨_, h4, h5, _⟩)
            · exact h
            · omega
        · rintro m σ H2 hm ⟨v6, rfl, sm3, xs, x1, x2, x3⟩
          have em : (r.1 : Int) + ((m : Nat) : Int) = ((r.1 + m : Nat) : Int) := by omega
          rw [em]
          refine ⟨_, rfl, _, rfl, q, CL, dx, _, _, rfl, sm3 _ _ h1, T.cl, T.nC, laidF_cell _ _ _ _, by show 2 ≤ sizeLine; decide, fun t nt => ?_⟩
          refine ⟨_, rfl, _, rfl, sp, xs, _, r.1 + m, rfl, rfl, Same.upd_new nt _ _ x1, by rw [x2]; exact ixN_nat (by omega), ?_⟩
          refine ⟨_, rfl, Same.upd_own (sm3.trans (Same.upd_new nt)) hsp, (Spot.put (D := paintP L i (l.take j) r m) (p := r.1 + m) (k := i) (c := r.2.2) (by omega) x1 x2 x3 nt).iff fun a k c => paint_one⟩
        · rintro σ H2 ⟨v6, rfl, sm3, hS3⟩
          exact ⟨_, _, rfl, sm3, hS3.iff fun a k c => by rw [take_more hr2]; exact paint_rec⟩
      · rintro σ H' ⟨v5, v6, rfl, sm2, hS2⟩
        have e : (refs qs).length = l.length := by rw [refs_length]; exact Paired.length hq2
        rw [e, List.take_length] at hS2
        exact ⟨_, _, _, _, rfl, sm2, hS2.iff fun a k c => paint_line hl⟩
    · rintro σ H' ⟨v3, v4, v5, v6, rfl, sm, hS⟩
      have e : (refs as).length = L.length := by rw [refs_length]; exact Paired.length hL.all
      rw [e] at hS
      exact ⟨_, rfl, k H' sp sm hsp hS⟩
end
end Fc

set_option Elab.async false
set_option linter.all false
set_option maxRecDepth 100000
set_option maxHeartbeats 4000000
/-! books.py: cells_of_line, laid_at_cell, place_of_bytes -/
namespace Fc
open PySem PySem.Spec PyProof.Rows L2 FcR
section
variable {P : Program} {w : World} {K : PySem.W.Frag} {mg : Str → Option Value} {base : Heap}
/-! ### cells_of_line -/
theorem nv_zeros (n : Nat) : (List.replicate n [V.int 0]).flatten = nv (List.replicate n 0) := by
  rw [flat_one]
  unfold nv
  rw [List.map_replicate]
  rfl
def spCellsL (CL : Addr) : Sp := fun vs H Q _ => ∃ (a : Addr) (l : List Rec), vs = [.ref a] ∧ LineAt CL H a l ∧ GL l ∧ (marks l).length ≤ 48 ∧
  ∀ (H' : Hp) (p : Addr), Same H H' → H p = none → H' p = some (.lst (nv (lcells l))) → Q (.ref p) H'
theorem scCL : FnScope ["line", "cells", "laid"] ["line"] (defScope sCellsOfLine) := ⟨rfl, rfl, rfl, by decide +kernel, rfl, by decide +kernel, by decide +kernel⟩
theorem ok_cellsL {f CL : Addr} {fd : FuncData} (F : Fun K "cells_of_line" "cells_of_line" sCellsOfLine f fd) (T : TxtL K CL) (b1 : mg "len" = none) (g1 : Num mg "EMPTY_CELL" 0) : FnOk P w K mg base CX0 1 f fd ["line"] (spCellsL CL) := by
  refine F.ok scCL (fun vs H Q E h => ?_) (fun cdv A outer s H vs Q E hr h => ?_)
  · obtain ⟨a, l, rfl, _⟩ := h
    rfl
  · obtain ⟨a, l, rfl, ⟨qs, ha, hq⟩, hg, h48, k⟩ := h
    refine ⟨_, pss_cons (ps_set (i := 1) scCL.nd rfl (.inl rfl) (pe_lst pa_nil))
      (pss_cons (ps_for PassesOwn.never rfl (pi_list (pv 0)) (pg_name (i := 2) scCL.nd rfl (.inl rfl))
        (pss_cons (ps_expr (pe_bm PySem.F.plainAttrs_list PySem.F.slot_list_extend PySem.F.type_list_extend mt_extend (pv 1) (pa_cons (pe_op op_rep (pe_lst (pa_cons (pe_num g1) pa_nil)) (pe_op op_sub (pe_fld (pv 2) rfl) (pe_callB call_len_seq (by rfl) b1 PySem.boot_len (pa_cons (pv 1) pa_nil)))) pa_nil)))
        (pss_one (ps_expr (pe_bm PySem.F.plainAttrs_list PySem.F.slot_list_extend PySem.F.type_list_extend mt_extendT (pv 1) (pa_cons (pe_fld (pv 2) rfl) pa_nil))))))
      (pss_one (ps_ret (pv 1)))), ?_⟩
    refine ⟨by show 0 ≤ sizeLine; decide, fun c nc => ?_⟩
    have s1 := Same.upd_new (o := .lst []) nc
    refine ⟨_, rfl, a, rfl, ⟨_, SqL.of (s1 _ _ ha)⟩, for_it (walk_list (xs := refs qs)) (fun i σ H' => ∃ v2 : Option V, σ = [some (.ref a), some (.ref c), v2] ∧ Same H H' ∧ H' c = some (.lst (nv (lcells (l.take i))))) ?_ ?_ ?_ ?_⟩
    · exact ⟨_, rfl, s1, upd_same⟩
    · rintro i σ H' hi ⟨v2, rfl, sm, _⟩
      exact SqL.of (sm _ _ ha)
    · rintro i y σ H0 H' hi ⟨v2, rfl, sm, hc⟩ ⟨rfl, hy⟩
      obtain ⟨q, hqi, rfl⟩ := refs_of hy
      obtain ⟨r, hr2, dx, q1, q2, h1, h2, h3⟩ := pget hq hqi
      have e1 : l.take (i + 1) = l.take i ++ [r] := take_more hr2
      have hgl : GL (l.take i ++ [r]) := by
        rw [← e1]
        exact GL.begins (l.drop (i + 1)) (by rw [List.take_append_drop]; exact hg)
      have hnx := hgl.last.2.1
      have hends := lcells_ends hnx
      have hle := hg.ends r (List.mem_of_getElem? hr2)
      have hnext := lcells_snoc hnx
      have hlen : (lcells (l.take i)).length ≤ r.2.2 := by
        have := congrArg List.length hnext
        rw [List.length_append, List.length_append, List.length_replicate, hends] at this
        omega
      have es : ((r.2.2 : Int) - ((lcells (l.take i)).length : Int)).toNat = r.2.2 - (lcells (l.take i)).length := by omega
      refine ⟨_, rfl, .inl ⟨rfl, _, SqL.of hc⟩, by show 1 ≤ sizeLine; decide, fun p1 n1 => ?_⟩
      have s2 := Same.upd_new (o := .lst [.int 0]) n1
      refine ⟨_, rfl, q, CL, dx, _, _, rfl, (sm.trans s2) _ _ h1, T.cl, T.nC, laidF_cell _ _ _ _, _, rfl, c, _, rfl, .inl (SqL.of (s2 _ _ hc)), _, _, rfl, rfl, ?_⟩
      rw [nv_length]
      refine ⟨p1, _, [.int 0], rfl, rfl, upd_same, by omega, by omega, (by show 1 * ((r.2.2 : Int) - ((lcells (l.take i)).length : Int)).toNat ≤ sizeLine; rw [es]; exact Nat.le_of_lt (big _ (by omega))), fun p2 n2 => ?_⟩
      rw [es, nv_zeros]
      have s3 := s2.trans (Same.upd_new (o := .lst (nv (List.replicate (r.2.2 - (lcells (l.take i)).length) 0))) n2)
      refine ⟨c, p2, _, _, rfl, rfl, s3 _ _ hc, upd_same, (by rw [nv_length, nv_length, List.length_replicate]; exact Nat.le_of_lt (big _ (by omega))), ?_⟩
      rw [← nv_app]
      have sm4 := Same.upd_own (o := .lst (nv (lcells (l.take i) ++ List.replicate (r.2.2 - (lcells (l.take i)).length) 0))) (sm.trans s3) nc
      refine ⟨_, rfl, .inl ⟨rfl, _, SqL.of upd_same⟩, _, rfl, q, CL, dx, _, _, rfl, sm4 _ _ h1, T.cl, T.nS, laidF_cells _ _ _ _, c, q2, _, _, rfl, rfl, upd_same, SqT.of (sm4 _ _ h3), (by rw [nv_length, nv_length, List.length_append, List.length_replicate]; exact Nat.le_of_lt (big _ (by omega))), ?_⟩
      refine ⟨_, rfl, Same.upd_own sm4 nc, ?_⟩
      rw [upd_same, e1, hnext, ← nv_app]
    · rintro σ H' ⟨v2, rfl, sm, hc⟩
      have e : (refs qs).length = l.length := by rw [refs_length]; exact Paired.length hq
      rw [e, List.take_length] at hc
      exact ⟨_, rfl, k H' c sm nc hc⟩

/-! ### laid_at_cell -/
def spLaidAt (CL : Addr) : Sp := fun vs H Q _ => ∃ (a : Addr) (l : List Rec) (c : Nat), vs = [.ref a, vn c] ∧ LineAt CL H a l ∧ (l.find? (covC c) = none → Q .non H) ∧ (∀ x q, l.find? (covC c) = some x → LaidAt CL H q x → Q (.ref q) H)
theorem scLA : FnScope ["line", "cell", "laid"] ["line", "cell"] (defScope sLaidAt) := ⟨rfl, rfl, rfl, by decide +kernel, rfl, by decide +kernel, by decide +kernel⟩
theorem find_more {l : List Rec} {c i : Nat} {r : Rec} (h : l[i]? = some r) (h0 : (l.take i).find? (covC c) = none) : (l.take (i + 1)).find? (covC c) = if covC c r = true then some r else none := by
  rw [take_more h, List.find?_append, h0, Option.none_or, List.find?_cons]
  cases covC c r <;> rfl
theorem find_begins {l : List Rec} {c i : Nat} {r : Rec} (h : (l.take i).find? (covC c) = some r) : l.find? (covC c) = some r := by
  have e : l = l.take i ++ l.drop i := (List.take_append_drop i l).symm
  rw [e, List.find?_append, h]
  rfl
theorem ok_laidAt {f CL : Addr} {fd : FuncData} (F : Fun K "laid_at_cell" "laid_at_cell" sLaidAt f fd) (T : TxtL K CL) (b1 : mg "len" = none) : FnOk P w K mg base CX0 1 f fd ["line", "cell"] (spLaidAt CL) := by
  refine F.ok scLA (fun vs H Q E h => ?_) (fun cdv A outer s H vs Q E hr h => ?_)
  · obtain ⟨a, l, c, rfl, _⟩ := h
    rfl
  · obtain ⟨a, l, c, rfl, ⟨qs, ha, hq⟩, kN, kS⟩ := h
    refine ⟨_, pss_cons (ps_for PassesOwn.never rfl (pi_list (pv 0)) (pg_name (i := 2) scLA.nd rfl (.inl rfl))
        (pss_one (ps_if (pt_chain op_le op_lt (pe_fld (pv 2) rfl) (pv 1) (pe_op op_add (pe_fld (pv 2) rfl) (pe_callB call_len_seq (by rfl) b1 PySem.boot_len (pa_cons (pe_fld (pv 2) rfl) pa_nil)))) (pss_one (ps_ret (pv 2))) pss_nil)))
      (pss_one (ps_ret pe_non)), ?_⟩
    refine ⟨_, rfl, a, rfl, ⟨_, SqL.of ha⟩, for_it (walk_list (xs := refs qs)) (fun i σ H' => ∃ v2 : Option V, σ = [some (.ref a), some (vn c), v2] ∧ H' = H ∧ (l.take i).find? (covC c) = none) ?_ ?_ ?_ ?_⟩
    · exact ⟨_, rfl, rfl, rfl⟩
    · rintro i σ H' hi ⟨v2, rfl, rfl, _⟩
      exact SqL.of ha
    · rintro i y σ H0 H' hi ⟨v2, rfl, rfl, h0⟩ ⟨rfl, hy⟩
      obtain ⟨q, hqi, rfl⟩ := refs_of hy
      obtain ⟨r, hr2, hat⟩ := pget hq hqi
      obtain ⟨dx, q1, q2, h1, h2, h3⟩ := hat
      have hm := find_more (c := c) hr2 h0
      refine ⟨_, rfl, q, CL, dx, _, _, rfl, h1, T.cl, T.nC, laidF_cell _ _ _ _, _, rfl, _, _, rfl, rfl, _, rfl, ?_⟩
      by_cases w1 : r.2.2 ≤ c
      case neg =>
        rw [decide_eq_false (show ¬ (r.2.2 : Int) ≤ (c : Int) by omega)]
        refine iteF ⟨_, rfl, iteF ⟨_, rfl, rfl, ?_⟩⟩
        rw [hm, if_neg]
        rw [cov_is]
        omega
      rw [decide_eq_true (show (r.2.2 : Int) ≤ (c : Int) by omega)]
      refine iteT ⟨_, rfl, q, CL, dx, _, _, rfl, h1, T.cl, T.nC, laidF_cell _ _ _ _, _, rfl, q, CL, dx, _, _, rfl, h1, T.cl, T.nS, laidF_cells _ _ _ _, q2, _, rfl, .inr (SqT.of h3), _, _, rfl, rfl, _, _, rfl, rfl, _, rfl, ?_⟩
      rw [nv_length]
      by_cases w2 : c < r.2.2 + r.2.1.cells.length
      case neg =>
        rw [decide_eq_false (show ¬ (c : Int) < (r.2.2 : Int) + (r.2.1.cells.length : Int) by omega)]
        refine iteF ⟨_, rfl, rfl, ?_⟩
        rw [hm, if_neg]
        rw [cov_is]
        omega
      rw [decide_eq_true (show (c : Int) < (r.2.2 : Int) + (r.2.1.cells.length : Int) by omega)]
      refine iteT ⟨_, rfl, kS r q (find_begins (i := i + 1) ?_) ⟨dx, q1, q2, h1, h2, h3⟩⟩
      rw [hm, if_pos (cov_is.mpr ⟨w1, w2⟩)]
    · rintro σ H' ⟨v2, rfl, rfl, h0⟩
      have e : (refs qs).length = l.length := by rw [refs_length]; exact Paired.length hq
      rw [e, List.take_length] at h0
      exact kN h0

/-! ### place_of_bytes -/
def intsD (l : List Nat) : List PyData := l.map fun n : Nat => PyData.int (n : Int)
theorem dp_ints {H : Hp} : ∀ l : List Nat, DpAll K H (nv l) (intsD l)
  | [] => .nil
  | n :: l => .cons (.int _) (dp_ints l)
theorem eqv_ints : ∀ a b : List Nat, PyData.eqvAll (intsD a) (intsD b) = decide (a = b)
  | [], [] => rfl
  | [], _ :: _ => rfl
  | _ :: _, [] => rfl
  | x :: a, y :: b => by
    have ih := eqv_ints a b
    show (((x : Int) == (y : Int)) && PyData.eqvAll (intsD a) (intsD b)) = _
    rw [ih, Bool.eq_iff_iff, Bool.and_eq_true, beq_iff_eq, decide_eq_true_eq, decide_eq_true_eq, List.cons.injEq]
    constructor
    · rintro ⟨h1, h2⟩
      exact ⟨by omega, h2⟩
    · rintro ⟨h1, h2⟩
      exact ⟨by omega, h2⟩
theorem lay_ints : ∀ l : List Nat, PyData.canLayAll0 (intsD l) = true
  | [] => rfl
  | x :: l => by
    show (PyData.canLay0 (.int (x : Int)) && PyData.canLayAll0 (intsD l)) = true
    rw [lay_ints l]
    rfl
theorem depth_ints : ∀ l : List Nat, PyData.depthAll (intsD l) ≤ 1
  | [] => by show PyData.depthAll [] ≤ 1; decide
  | x :: l => by
    show max (PyData.depth (.int (x : Int))) (PyData.depthAll (intsD l)) ≤ 1
    have h1 := depth_ints l
    have h2 : PyData.depth (.int (x : Int)) ≤ 1 := by show 0 ≤ 1; decide
    exact Nat.max_le.mpr ⟨h2, h1⟩
theorem shaped_ints (l : List Nat) : SeqAt.shaped (.list (intsD l)) = true := by
  unfold SeqAt.shaped
  rw [Bool.and_eq_true, decide_eq_true_eq]
  refine ⟨lay_ints l, ?_⟩
  show PyData.depthAll (intsD l) + 1 ≤ 64
  have := depth_ints l
  omega
def foundAt (t x : List Nat) (b : Nat) : Option Nat := (List.range t.length).find? fun p => decide (b ≤ p) && Km344.standsAt t x p
def spPlaceOf (K : PySem.W.Frag) : Sp := fun vs H Q _ => ∃ (ta wa : Addr) (t x : List Nat) (b : Nat), vs = [.ref ta, .ref wa, vn b] ∧ SqL K H ta (nv t) ∧ SqL K H wa (nv x) ∧ x ≠ [] ∧ t.length ≤ 30000 ∧ x.length ≤ 30000 ∧ b < 4294967296 ∧
  (foundAt t x b = none → ∀ H', Same H H' → Q .non H') ∧ (∀ p, foundAt t x b = some p → ∀ H', Same H H' → Q (vn p) H')
theorem scPO : FnScope ["text", "what", "beginning", "place"] ["text", "what", "beginning"] (defScope sPlaceOf) := ⟨rfl, rfl, rfl, by decide +kernel, rfl, by decide +kernel, by decide +kernel⟩
theorem ok_placeOf {f : Addr} {fd : FuncData} (F : Fun K "place_of_bytes" "place_of_bytes" sPlaceOf f fd) (b1 : mg "len" = none) (b2 : mg "range" = none) : FnOk P w K mg base CX0 1 f fd ["text", "what", "beginning"] (spPlaceOf K) := by
  refine F.ok scPO (fun vs H Q E h => ?_) (fun cdv A outer s H vs Q E hr h => ?_)
  · obtain ⟨ta, wa, t, x, b, rfl, _⟩ := h
    rfl
  · obtain ⟨ta, wa, t, x, b, rfl, ht, hx, hne, hlt, hlx, hb, kN, kS⟩ := h
    refine ⟨_, pss_cons (ps_for PassesOwn.never rfl (pi_range2 rfl b2 (pa_cons (pv 2) (pa_cons (pe_op op_add (pe_op op_sub (pe_callB call_len_seq (by rfl) b1 PySem.boot_len (pa_cons (pv 0) pa_nil)) (pe_callB call_len_seq (by rfl) b1 PySem.boot_len (pa_cons (pv 1) pa_nil))) pe_int) pa_nil))) (pg_name (i := 3) scPO.nd rfl (.inl rfl))
        (pss_one (ps_if (pt_cmpR (op_eqD hr.units) (pe_slice sl_list (pv 0) (po_some (pv 3)) (po_some (pe_op op_add (pv 3) (pe_callB call_len_seq (by rfl) b1 PySem.boot_len (pa_cons (pv 1) pa_nil))))) (pv 1) (nomark _)) (pss_one (ps_ret (pv 3))) pss_nil)))
      (pss_one (ps_ret pe_non)), ?_⟩
    have h1x : 1 ≤ x.length := List.length_pos_iff.mpr hne
    refine ⟨_, rfl, _, rfl, ta, _, rfl, .inl ht, _, rfl, wa, _, rfl, .inl hx, _, _, rfl, rfl, _, _, rfl, rfl, _, _, rfl, ⟨by omega, by omega, by rw [nv_length, nv_length]; omega, by rw [nv_length, nv_length]; omega⟩, ?_⟩
    rw [nv_length, nv_length]
    refine for_range (fun i σ H' => ∃ v3 : Option V, σ = [some (.ref ta), some (.ref wa), some (vn b), v3] ∧ Same H H' ∧ ∀ q, b ≤ q → q < b + i → Km344.standsAt t x q = false) ?_ ?_ ?_
    · exact ⟨_, rfl, Same.refl H, fun q h1 h2 => by omega⟩
    · rintro i σ H1 hi ⟨v3, rfl, sm, hno⟩
      have ei : (b : Int) + ((i : Nat) : Int) = ((b + i : Nat) : Int) := by omega
      rw [ei]
      have hfit : b + i + x.length ≤ t.length := by omega
      refine ⟨_, rfl, _, rfl, _, rfl, _, rfl, _, rfl, wa, _, rfl, .inl (sm.seq hx), _, _, rfl, rfl, _, rfl, ta, nv t, rfl, sm.seq ht, fun p np => ?_⟩
      have hcut : cutV (nv t) (some ((b + i : Nat) : Int)) (some (((b + i : Nat) : Int) + ((nv x).length : Int))) = nv ((t.drop (b + i)).take x.length) := by
        have := cut_nv t (b + i) (b + i + x.length) (by omega) hfit
        rw [Nat.add_sub_cancel_left] at this
        rw [nv_length, show (((b + i : Nat) : Int) + (x.length : Int)) = ((b + i + x.length : Nat) : Int) by omega]
        exact this
      rw [hcut]
      have s2 := Same.upd_new (o := .lst (nv ((t.drop (b + i)).take x.length))) np
      refine ⟨_, rfl, .list (intsD ((t.drop (b + i)).take x.length)), .list (intsD x), .lst (SqL.of upd_same) (dp_ints _), .lst (s2.seq (sm.seq hx)) (dp_ints _), shaped_ints _, shaped_ints _, ?_⟩
      have ev : PyData.eqv (.list (intsD ((t.drop (b + i)).take x.length))) (.list (intsD x)) = decide ((t.drop (b + i)).take x.length = x) := eqv_ints _ _
      rw [ev]
      by_cases he : (t.drop (b + i)).take x.length = x
      · rw [decide_eq_true he]
        refine ⟨_, rfl, iteT ⟨_, rfl, kS (b + i) (found_at (by omega) (by omega) (stands_is.mpr he) fun q h1 h2 => hno q h1 h2) _ (sm.trans s2)⟩⟩
      · rw [decide_eq_false he]
        refine ⟨_, rfl, iteF ⟨_, rfl, sm.trans s2, fun q h1 h2 => ?_⟩⟩
        by_cases e : q = b + i
        · rw [e, ← Bool.not_eq_true, stands_is]
          exact he
        · exact hno q h1 (by omega)
    · rintro σ H1 ⟨v3, rfl, sm, hno⟩
      refine kN (found_no fun q h1 h2 => ?_) H1 sm
      by_cases h3 : q < b + ((t.length : Int) - (x.length : Int) + 1 - (b : Int)).toNat
      · exact hno q h1 h3
      · rw [← Bool.not_eq_true]
        intro h4
        have := stands_fits h4 hne
        omega
end
end Fc

set_option Elab.async false
set_option linter.all false
set_option maxRecDepth 100000
set_option maxHeartbeats 4000000
/-! books.py: lay_word -/
namespace Fc
open PySem PySem.Spec PyProof.Rows L2 FcR
/-- all but what stands at these: lists of lines -/
theorem Keep.cons {ms : List Addr} {H H' : Hp} (h : Keep ms H H') (x : Addr) : Keep (x :: ms) H H' := fun b o e n => h b o e fun z => n (List.mem_cons_of_mem _ z)
theorem Keep.trans' {ms : List Addr} {H H1 H2 : Hp} (a : Keep ms H H1) (b : Same H1 H2) : Keep ms H H2 := fun c o h n => b c o (a c o h n)
section
variable {P : Program} {w : World} {K : PySem.W.Frag} {mg : Str → Option Value} {base : Heap}
def spLayWord (CT CL : Addr) : Sp := fun vs H Q _ => ∃ (q LA tb : Addr) (wd : List Nat) (t : Km344.Table) (place width : Nat) (as : List Addr) (done : List (List Rec)) (cur : List Rec), vs = [.ref q, vn place, .ref LA, .ref tb, vn width] ∧
  H q = some (.tup (nv wd)) ∧ TableAt CT H tb t ∧ Tab t ∧ (∀ x ∈ wd, Km344.isLetter x = true) ∧ wd.length ≤ 30000 ∧ LinesAt CL H LA as (done ++ [cur]) ∧ wt (done ++ [cur]) ≤ 1000000 ∧
  ∀ (H' : Hp) (as' : List Addr), Keep (LA :: as) H H' → LinesAt CL H' LA as' ((layW width place (Km344.entriesOf t wd) done cur).1 ++ [(layW width place (Km344.entriesOf t wd) done cur).2.1]) → (∀ x ∈ as', x ∈ as ∨ H x = none) → Q .non H'
theorem scLW : FnScope ["word", "place", "lines", "table", "width", "texts", "cell", "text", "length", "letter_place", "cells"] ["word", "place", "lines", "table", "width"] (defScope sLayWord) := ⟨rfl, rfl, rfl, by decide +kernel, rfl, by decide +kernel, by decide +kernel⟩
/-- a list of numbers, made by a comprehension -/
theorem lc_ints {J : It} {n : Nat} {G : Hp → Prop} {Y : Nat → Hp → V → Hp → Prop} (wk : Walk J n G Y) {j : Nat} {te : TE} {σ : L2.St} {H1 : Hp} {D : Addr} {Qd : Hp → Prop} (hD : H1 D = none) (b : Nat → Int) (hn : n ≤ 100000)
    (hG : ∀ H', Same H1 H' → G H') (hY : ∀ i H' x H'', i < n → Same H1 H' → Y i H' x H'' → Same H' H'')
    (hs : ∀ i x H' H'', i < n → Same H1 H' → Y i H' x H'' → ∀ R : VK, (∀ H4, Same H'' H4 → R (.int (b i)) H4) → te ((wipe σ [j]).set j (some x)) H'' R)
    (hd : ∀ H', Same H1 H' → H' D = some (.lst (((List.range n).map b).map V.int)) → Qd H') :
    ∃ W : Nat → Nat → Hp → Prop, (∃ m, W 0 m (upd H1 D (.lst []))) ∧ ∀ i m H, W i m H →
      (J.stop i H ∧ Qd H) ∨ (J.go i H ∧ ∃ Nx : Hp → Prop, (∀ H', Nx H' → ∃ m', m' < m ∧ W (i + 1) m' H') ∧ ∀ x H', J.yld i H x H' → gName j x (wipe σ [j]) H' fun σ2 H2 => wipe σ2 [j] = wipe σ [j] ∧ tYes σ2 H2 fun b H3 =>
        if b = true then te σ2 H3 fun y H4 => ∃ acc, H4 D = some (.lst acc) ∧ acc.length < sizeLine ∧ Nx (upd H4 D (.lst (acc ++ [y]))) else Nx H3) := by
  refine lc_it (vs := [j]) (g := gName j) (tt := tYes) wk (fun i H' => Same H1 H' ∧ H' D = some (.lst (((List.range i).map b).map V.int))) ⟨Same.upd_new hD, upd_same⟩ (fun i H' _ p => hG H' p.1) ?_ (fun H' p => hd H' p.1 p.2)
  rintro i x H' H'' hi ⟨p1, p2⟩ y
  have hw : wipe (((wipe σ [j])).set j (some x)) [j] = wipe σ [j] := by
    show ((σ.set j none).set j (some x)).set j none = σ.set j none
    rw [List.set_set, List.set_set]
  refine ⟨hw, ?_⟩
  unfold tYes
  dsimp only
  rw [if_pos rfl]
  refine hs i x H' H'' hi p1 y _ fun H4 s4 => ⟨_, s4 _ _ (hY i H' x H'' hi p1 y _ _ p2), ?_, ?_, ?_⟩
  · rw [List.length_map, List.length_map, List.length_range]
    exact big _ (by omega)
  · exact Same.upd_own ((p1.trans (hY i H' x H'' hi p1 y)).trans s4) hD
  · rw [upd_same, List.range_succ, List.map_append, List.map_append]
    rfl
theorem sum_range {l : List Nat} : ((List.range l.length).map fun i => ((l.getD i 0 : Nat) : Int)).sum = ((l.sum : Nat) : Int) := by
  induction l with
  | nil => rfl
  | cons x l ih =>
    rw [List.length_cons, List.range_succ_eq_map, List.map_cons, List.map_map, List.sum_cons, List.sum_cons]
    have : ((fun i => (((x :: l).getD i 0 : Nat) : Int)) ∘ Nat.succ) = fun i => ((l.getD i 0 : Nat) : Int) := by
      funext i
      rfl
    rw [this, ih]
    show (x : Int) + _ = _
    omega
theorem placed_take (p : Nat) (es : List Km344.Entry) (j : Nat) {e : Km344.Entry} (h : es[j]? = some e) : (placed p es)[j]? = some (p + ((es.take j).flatMap Km344.Entry.text).length, e) := by
  induction es generalizing p j with
  | nil => simp at h
  | cons x es ih =>
    cases j with
    | zero =>
      have : x = e := Option.some.inj h
      subst this
      rfl
    | succ j =>
      have := ih (p + x.text.length) j h
      show (placed (p + x.text.length) es)[j]? = _
      rw [this, List.take_succ_cons, List.flatMap_cons, List.length_append, Nat.add_assoc]
theorem TableAt.nl {C : Addr} {H H' : Hp} {a : Addr} {t : Km344.Table} (h : TableAt C H a t) (s : NL H H') : TableAt C H' a t := by
  obtain ⟨dx, d1, d2, h1, ⟨k1, e1, f1⟩, ⟨k2, e2, f2⟩⟩ := h
  refine ⟨dx, d1, d2, s _ _ h1 (fun xs z => by cases z), ⟨k1, s _ _ e1 (fun xs z => by cases z), fun key => ?_⟩, ⟨k2, s _ _ e2 (fun xs z => by cases z), fun key => ?_⟩⟩
  · exact (f1 key).imp id fun ⟨q, v, a, b, c⟩ => ⟨q, v, a, b, s _ _ c (fun xs z => by cases z)⟩
  · exact (f2 key).imp id fun ⟨q, v, a, b, c⟩ => ⟨q, v, a, b, s _ _ c (fun xs z => by cases z)⟩
/-- lines as they change: since H, with another list at p that stays -/
structure LInv (C : Addr) (H H' : Hp) (LA : Addr) (as as' : List Addr) (ls : List (List Rec)) (p : Addr) (qs : List Addr) : Prop where
  keep : Keep (LA :: as) H H'
  lines : LinesAt C H' LA as' ls
  fresh : ∀ x ∈ as', x ∈ as ∨ H x = none
  old : ∀ x ∈ as, x ∈ as'
  hp : H' p = some (.lst (refs qs))
  np : p ∉ as'
  nL : p ≠ LA
theorem LInv.same {C : Addr} {H H1 H2 : Hp} {LA p : Addr} {as as' qs : List Addr} {ls : List (List Rec)} (h : LInv C H H1 LA as as' ls p qs) (s : Same H1 H2) : LInv C H H2 LA as as' ls p qs :=
  ⟨h.keep.trans' s, h.lines.same s, h.fresh, h.old, s _ _ h.hp, h.np, h.nL⟩
theorem LInv.open_ {C : Addr} {H H1 : Hp} {LA p z : Addr} {as as' qs : List Addr} {ls : List (List Rec)} (h : LInv C H H1 LA as as' ls p qs) (nz : H1 z = none) (nzH : H z = none) :
    LInv C H (upd (upd H1 z (.lst [])) LA (.lst (refs as' ++ [.ref z]))) LA as (as' ++ [z]) (ls ++ [[]]) p qs := by
  have pz : p ≠ z := fun e => by rw [← e, h.hp] at nz; cases nz
  refine ⟨Keep.upd (Keep.upd h.keep (.inr nzH)) (.inl (by simp)), h.lines.open_ nz, fun x hx => ?_, fun x hx => List.mem_append_left _ (h.old x hx), ?_, ?_, h.nL⟩
  · rcases List.mem_append.mp hx with hx | hx
    · exact h.fresh x hx
    · exact .inr (by rw [List.mem_singleton.mp hx]; exact nzH)
  · rw [upd_ne h.nL, upd_ne pz]
    exact h.hp
  · intro m
    rcases List.mem_append.mp m with m | m
    · exact h.np m
    · exact pz (List.mem_singleton.mp m)
theorem LInv.more {C : Addr} {H H1 : Hp} {LA la p x : Addr} {as ad ql qs : List Addr} {done : List (List Rec)} {cur : List Rec} {r : Rec} (h : LInv C H H1 LA as (ad ++ [la]) (done ++ [cur]) p qs) (hl : H1 la = some (.lst (refs ql))) (hq : PySem.Paired (LaidAt C H1) ql cur) (hx : LaidAt C H1 x r) :
    LInv C H (upd H1 la (.lst (refs ql ++ [.ref x]))) LA as (ad ++ [la]) (done ++ [cur ++ [r]]) p qs := by
  refine ⟨Keep.upd h.keep ?_, h.lines.more hl hq hx, h.fresh, h.old, ?_, h.np, h.nL⟩
  · rcases h.fresh la (by simp) with m | m
    · exact .inl (List.mem_cons_of_mem _ m)
    · exact .inr m
  · rw [upd_ne (fun e => h.np (by rw [e]; simp))]
    exact h.hp
theorem LinesAt.nl {C : Addr} {H H' : Hp} {LA : Addr} {as : List Addr} {ls : List (List Rec)} (h : LinesAt C H LA as ls) (k : Keep (LA :: as) H H') : NL H H' := by
  intro b o e hn
  refine k b o e fun m => ?_
  rcases List.mem_cons.mp m with rfl | m
  · rw [h.lst] at e
    exact hn _ (Option.some.inj e).symm
  · have : ∀ {as : List Addr} {ls : List (List Rec)}, PySem.Paired (LineAt C H) as ls → b ∈ as → ∃ xs, H b = some (.lst xs) := by
      intro as ls p
      induction p with
      | nil => intro z; cases z
      | cons r t ih =>
        intro z
        rcases List.mem_cons.mp z with rfl | z
        · obtain ⟨qs, h1, _⟩ := r
          exact ⟨_, h1⟩
        · exact ih z
    obtain ⟨xs, z⟩ := this h.all m
    rw [z] at e
    exact hn _ (Option.some.inj e).symm
theorem paired_some {C : Addr} {H : Hp} {b : Addr} : ∀ {as : List Addr} {ls : List (List Rec)}, PySem.Paired (LineAt C H) as ls → b ∈ as → ∃ xs, H b = some (.lst xs) := by
  intro as ls p
  induction p with
  | nil => intro z; cases z
  | cons r t ih =>
    intro z
    rcases List.mem_cons.mp z with rfl | z
    · obtain ⟨qs, h1, _⟩ := r
      exact ⟨_, h1⟩
    · exact ih z
theorem LInv.new {C : Addr} {H H1 : Hp} {LA p z : Addr} {as as' qs : List Addr} {ls l0 : List (List Rec)} (h : LInv C H H1 LA as as' ls p qs) (nz : H1 z = none) : H z = none := by
  cases e : H z with
  | none => rfl
  | some o =>
    exfalso
    by_cases m : z ∈ LA :: as
    · rcases List.mem_cons.mp m with m | m
      · rw [m, h.lines.lst] at nz
        cases nz
      · obtain ⟨xs, g⟩ := paired_some h.lines.all (h.old z m)
        rw [nz] at g
        cases g
    · rw [h.keep z _ e m] at nz
      cases nz
theorem LInv.nlOpen {C : Addr} {H H1 : Hp} {LA p z : Addr} {as as' qs : List Addr} {ls : List (List Rec)} {xs : List V} (h : LInv C H H1 LA as as' ls p qs) (nz : H1 z = none) : NL H1 (upd (upd H1 z (.lst [])) LA (.lst xs)) :=
  fun b o e hn => NL.upd (Same.upd_new nz _ _ h.lines.lst) b o (Same.upd_new nz b o e) hn
def rLenS (K : PySem.W.Frag) : List V → Hp → VK → Prop := fun xs H Q => ∃ p ys, xs = [.ref p] ∧ (SqL K H p ys ∨ SqT K H p ys) ∧ Q (.int ys.length) H
theorem ok_layWord {f fT fC fI CT CL : Addr} {fd fdT fdC fdI : FuncData} (F : Fun K "lay_word" "lay_word" sLayWord f fd)
    (FT : FnOk P w K mg base CX0 3 fT fdT ["word", "table"] (spTextsOf CT)) (kT : PySem.W.keepIn K (.ref fT) = true) (bT : Binds K fdT ["word", "table"] []) (gT : mg "texts_of_word" = some (.ref fT))
    (FC : FnOk P w K mg base CX0 1 fC fdC ["line"] (spCellFor CL)) (kC : PySem.W.keepIn K (.ref fC) = true) (bC : Binds K fdC ["line"] []) (gC : mg "cell_for_word" = some (.ref fC))
    (ML : Mk K CL fI) (FI : FnOk P w K mg base CX0 1 fI fdI ["self", "place", "text", "cell", "cells"] (spLaidInit CL)) (bI : Binds K fdI ["self", "place", "text", "cell", "cells"] []) (gL : mg "Laid" = some (.ref CL))
    (T : TxtT K CT) (b1 : mg "len" = none) (b2 : mg "sum" = none) : FnOk P w K mg base CX0 4 f fd ["word", "place", "lines", "table", "width"] (spLayWord CT CL) := by
  refine F.ok scLW (fun vs H Q E h => ?_) (fun cdv A outer s0 H vs Q E hr h => ?_)
  · obtain ⟨q, LA, tb, wd, t, place, width, as, done, cur, rfl, _⟩ := h
    rfl
  · obtain ⟨q, LA, tb, wd, t, place, width, as, done, cur, rfl, hq, hTb, hT, hwl, hlen, hL, hwt, k⟩ := h
    have hr1 : Room 1 _ := hr.mono (by decide)
    have hr2 : Room 2 _ := hr.mono (by decide)
    refine ⟨_, pss_cons (ps_set (i := 5) scLW.nd rfl (.inl rfl) (pe_call FT hr (by rfl) gT kT bT .nil pass0 (pa_cons (pv 0) (pa_cons (pv 3) pa_nil))))
      (pss_cons (ps_set (i := 6) scLW.nd rfl (.inl rfl) (pe_call FC hr1 (by rfl) gC kC bC .nil pass0 (pa_cons (pe_ix ix_list (pv 2) (pe_un un_neg pe_int) (fun _ _ => rfl)) pa_nil)))
      (pss_cons (ps_set (i := 8) scLW.nd rfl (.inl rfl) (pe_callB (cr_sum rfl) (by rfl) b2 (by decide +kernel) (pa_cons (pe_lc (own := [("text", 7)]) (g := gName 7) (tt := tYes) (te := tCB (rLenS K) (tCons (tDGet (tFld K (tVar 3) "cells_by_text") (tVar 7)) tNil)) rfl scLW.nd (pi_list (pv 5)) (blkOk_by (N := ["word", "place", "lines", "table", "width", "texts", "cell", "text", "length", "letter_place", "cells"]) (sc := defScope sLayWord) (by decide +kernel)) (fun _ _ _ _ _ => pg_name (i := 7) scLW.nd rfl (Or.inl rfl)) (fun _ _ _ _ _ => pts_nil)
          (fun _ _ _ _ _ => pe_callB (call_len_seq) (by rfl) b1 PySem.boot_len (pa_cons (pe_dget (hu_of hr) (pe_fld (pv 3) rfl) (pv 7) (fun _ _ => rfl)) pa_nil))) pa_nil)))
      (pss_cons (ps_if (PW.pt (pw_and (pt_cmpR op_gt (pv 6) pe_int (nomark _)) (pw_and1 (pt_cmpR op_gt (pe_op op_add (pv 6) (pv 8)) (pv 4) (nomark _)))))
        (pss_cons (ps_expr (pe_bm PySem.F.plainAttrs_list PySem.F.slot_list_append PySem.F.type_list_append mt_append (pv 2) (pa_cons (pe_lst pa_nil) pa_nil)))
        (pss_one (ps_set (i := 6) scLW.nd rfl (.inl rfl) pe_int))) pss_nil)
      (pss_cons (ps_set (i := 9) scLW.nd rfl (.inl rfl) (pv 1))
      (pss_one (ps_for PassesOwn.never rfl (pi_list (pv 5)) (pg_name (i := 7) scLW.nd rfl (.inl rfl))
        (pss_cons (ps_set (i := 10) scLW.nd rfl (.inl rfl) (pe_dget (hu_of hr) (pe_fld (pv 3) rfl) (pv 7) (fun _ _ => rfl)))
        (pss_cons (ps_if (pt_cmpR op_gt (pe_op op_add (pv 6) (pe_callB call_len_seq (by rfl) b1 PySem.boot_len (pa_cons (pv 10) pa_nil))) (pv 4) (nomark _))
          (pss_cons (ps_expr (pe_bm PySem.F.plainAttrs_list PySem.F.slot_list_append PySem.F.type_list_append mt_append (pv 2) (pa_cons (pe_lst pa_nil) pa_nil)))
          (pss_one (ps_set (i := 6) scLW.nd rfl (.inl rfl) pe_int))) pss_nil)
        (pss_cons (ps_expr (pe_bm PySem.F.plainAttrs_list PySem.F.slot_list_append PySem.F.type_list_append mt_append (pe_ix ix_list (pv 2) (pe_un un_neg pe_int) (fun _ _ => rfl))
          (pa_cons (pe_make ML FI hr2 (by rfl) gL bI .nil pass0 (pa_cons (pv 9) (pa_cons (pv 7) (pa_cons (pv 6) (pa_cons (pv 10) pa_nil))))) pa_nil)))
        (pss_cons (ps_aug (i := 6) scLW.nd rfl (.inl rfl) (pe_callB call_len_seq (by rfl) b1 PySem.boot_len (pa_cons (pv 10) pa_nil)) ip_add)
        (pss_one (ps_aug (i := 9) scLW.nd rfl (.inl rfl) (pe_callB call_len_seq (by rfl) b1 PySem.boot_len (pa_cons (pv 7) pa_nil)) ip_add)))))))))))), ?_⟩
    obtain ⟨es, hes⟩ : ∃ es, es = Km344.entriesOf t wd := ⟨_, rfl⟩
    have hrow := row_entries hT hwl
    rw [← hes] at k hrow
    have hel : es.length ≤ wd.length := by
      have : ∀ l : List Km344.Entry, (∀ e ∈ l, e ∈ t) → l.length ≤ (l.flatMap Km344.Entry.text).length := by
        intro l
        induction l with
        | nil => intro _; exact Nat.le_refl _
        | cons e l ih =>
          intro h
          have h1 := ih fun x hx => h x (List.mem_cons_of_mem _ hx)
          have g := good_iff.mp (hT.good e (h e (List.mem_cons_self ..)))
          rw [List.flatMap_cons, List.length_append, List.length_cons]
          omega
      have := this es hrow.2.2.1
      rw [hrow.2.2.2] at this
      exact this
    -- texts = texts_of_word(word, table)
    refine ⟨_, rfl, _, rfl, q, tb, wd, t, rfl, hq, hTb, hT, hwl, hlen, fun H1 p qs s1 np hp hqs => ?_⟩
    rw [← hes] at hqs
    have hlq := hqs.length
    rw [List.length_map] at hlq
    obtain ⟨ad, la, ql, eas, hla, hcur, had, hn1, hn2⟩ := hL.last
    -- cell = cell_for_word(lines[-1])
    refine ⟨_, rfl, _, rfl, LA, _, _, _, rfl, rfl, SqL.of (s1 _ _ hL.lst), (by rw [eas, refs_snoc]; exact atI_last _ _), la, cur, rfl, ⟨ql, s1 _ _ hla, Paired.mapP hcur fun _ _ z => z.keep (.of s1)⟩, ?_⟩
    -- length = sum([...])
    refine ⟨_, rfl, p, rfl, ⟨_, SqL.of hp⟩, fun D nD => lc_ints (walk_list (xs := refs qs)) nD (fun i => (((es.map fun e => e.cells.length).getD i 0 : Nat) : Int)) (by rw [refs_length, hlq]; omega) (fun H' s => SqL.of (s _ _ hp)) ?_ ?_ ?_⟩
    · rintro i H' x H'' _ _ ⟨rfl, _⟩
      exact Same.refl _
    · rintro i x H0 H' hi sm ⟨rfl, hx⟩ R hR
      obtain ⟨qi, hqi, rfl⟩ := refs_of hx
      obtain ⟨l, hl, hql⟩ := hqs.get' hqi
      rw [List.getElem?_map] at hl
      obtain ⟨e, he, rfl⟩ : ∃ e, es[i]? = some e ∧ l = e.text := by
        cases z : es[i]? with
        | none => rw [z] at hl; cases hl
        | some e =>
          rw [z] at hl
          exact ⟨e, rfl, (Option.some.inj hl).symm⟩
      obtain ⟨dx, d1, d2, ht, h1, h2⟩ := hTb.same (s1.trans sm)
      obtain ⟨q3, hget, hq3⟩ := h1.get (sm _ _ hql) ((cellsAt_some hT.texts).mpr ⟨e, hrow.2.2.1 e (List.mem_of_getElem? he), rfl, rfl⟩)
      refine ⟨_, rfl, tb, CT, dx, _, _, rfl, ht, T.cl, T.n1, tabF_1 d1 d2, _, rfl, d1, _, rfl, hget, q3, _, rfl, .inr (SqT.of hq3), ?_⟩
      have := hR _ (Same.refl _)
      rw [List.getD_eq_getElem?_getD, List.getElem?_map, he] at this
      rw [nv_length]
      exact this
    intro H2 s2 hD
    rw [refs_length, hlq] at hD
    have esum : (((List.range es.length).map fun i => (((es.map fun e => e.cells.length).getD i 0 : Nat) : Int))).sum = ((wordCells es : Nat) : Int) := by
      have := sum_range (l := es.map fun e => e.cells.length)
      rw [List.length_map] at this
      exact this
    refine ⟨D, _, rfl, SqL.of hD, ?_⟩
    rw [esum]
    have s12 := s1.trans s2
    have hpas : p ∉ as := fun m => by
      have hnl := hL.all
      have : ∀ {as : List Addr} {ls : List (List Rec)}, PySem.Paired (LineAt CL H) as ls → p ∈ as → ∃ o, H p = some o := by
        intro as ls pp
        induction pp with
        | nil => intro z; cases z
        | cons r t ih =>
          intro z
          rcases List.mem_cons.mp z with rfl | z
          · obtain ⟨qs, h1, _⟩ := r
            exact ⟨_, h1⟩
          · exact ih z
      obtain ⟨o, z⟩ := this hnl m
      rw [np] at z
      cases z
    have pLA : p ≠ LA := fun e => by rw [e, hL.lst] at np; cases np
    have J0 : LInv CL H H2 LA as as (done ++ [cur]) p qs := ⟨Keep.of s12, hL.same s12, fun x hx => .inl hx, fun x hx => hx, s2 _ _ hp, hpas, pLA⟩
    obtain ⟨b, hb⟩ : ∃ b, b = begun width (wordCells es) done cur := ⟨_, rfl⟩
    have nlk : ∀ {H' : Hp} {as' : List Addr} {ls : List (List Rec)}, LInv CL H H' LA as as' ls p qs → NL H H' := fun j => hL.nl j.keep
        -- if cell > 0 and cell + length > width
    dsimp only [gName]
    refine seq_mid (fun σ2 H3 => ∃ (as2 : List Addr) (v7 v9 v10 : Option V), σ2 = [some (.ref q), some (vn place), some (.ref LA), some (.ref tb), some (vn width), some (.ref p), some (vn b.2.2), v7, some (vn (wordCells es)), v9, v10] ∧
      LInv CL H H3 LA as as2 (b.1 ++ [b.2.1]) p qs ∧ Tups H3 qs (es.map Km344.Entry.text)) ?_ ?_
    · rintro σ2 H3 ⟨as2, v7, v9, v10, rfl, J, hq3⟩
      -- letter_place = place; for text in texts
      refine ⟨_, rfl, ?_⟩
      refine ⟨_, rfl, p, rfl, ⟨_, SqL.of J.hp⟩, for_it (walk_list (xs := refs qs)) (fun j σ H' => ∃ (as' : List Addr) (v7 v10 : Option V), σ = [some (.ref q), some (vn place), some (.ref LA), some (.ref tb), some (vn width), some (.ref p),
          some (vn (((placed place es).take j).foldl (stepC width) b).2.2), v7, some (vn (wordCells es)), some (vn (place + ((es.take j).flatMap Km344.Entry.text).length)), v10] ∧
        LInv CL H H' LA as as' ((((placed place es).take j).foldl (stepC width) b).1 ++ [(((placed place es).take j).foldl (stepC width) b).2.1]) p qs ∧ Tups H' qs (es.map Km344.Entry.text)) ?_ ?_ ?_ ?_⟩
      · exact ⟨as2, _, _, rfl, J, hq3⟩
      · rintro j σ H' hj ⟨as', v7, v10, rfl, J, _⟩
        exact SqL.of J.hp
      · rintro j x σ H0 H' hj ⟨as', v7, v10, rfl, J, ht'⟩ ⟨rfl, hx⟩
        obtain ⟨qj, hqj, rfl⟩ := refs_of hx
        obtain ⟨l, hl, hql⟩ := ht'.get' hqj
        rw [List.getElem?_map] at hl
        obtain ⟨e, he, rfl⟩ : ∃ e, es[j]? = some e ∧ l = e.text := by
          cases z : es[j]? with
          | none => rw [z] at hl; cases hl
          | some e =>
            rw [z] at hl
            exact ⟨e, rfl, (Option.some.inj hl).symm⟩
        have hpj := placed_take place es j he
        obtain ⟨s, hs⟩ : ∃ s, s = ((placed place es).take j).foldl (stepC width) b := ⟨_, rfl⟩
        have hs1 : ((placed place es).take (j + 1)).foldl (stepC width) b = stepC width s (place + ((es.take j).flatMap Km344.Entry.text).length, e) := by
          rw [take_more hpj, List.foldl_append, ← hs]
          rfl
        rw [← hs] at J
        obtain ⟨pl, hpl⟩ : ∃ pl, pl = place + ((es.take j).flatMap Km344.Entry.text).length := ⟨_, rfl⟩
        have hpl1 : place + ((es.take (j + 1)).flatMap Km344.Entry.text).length = pl + e.text.length := by
          rw [take_more he, List.flatMap_append, List.length_append, hpl]
          simp
          omega
        rw [← hpl] at hs1
        have hwtj : wt (s.1 ++ [s.2.1]) ≤ 1070000 := by
          have h1 := wt_steps (width := width) ((placed place es).take j) b
          rw [← hs, List.length_take, placed_length] at h1
          have h2 := wt_begun (width := width) (n := wordCells es) (done := done) (cur := cur)
          rw [← hb] at h2
          omega
        -- cells = table.cells_by_text[text]
        obtain ⟨dx, d1, d2, ht, h1, h2⟩ := hTb.nl (nlk J)
        obtain ⟨q3, hget, hq3⟩ := h1.get hql ((cellsAt_some hT.texts).mpr ⟨e, hrow.2.2.1 e (List.mem_of_getElem? he), rfl, rfl⟩)
        refine ⟨_, rfl, tb, CT, dx, _, _, rfl, ht, T.cl, T.n1, tabF_1 d1 d2, _, rfl, d1, _, rfl, hget, ?_⟩
        obtain ⟨s', hs'⟩ : ∃ s' : LS, s' = if width < s.2.2 + e.cells.length then (s.1 ++ [s.2.1], [], 0) else s := ⟨_, rfl⟩
        have hst : stepC width s (pl, e) = (s'.1, s'.2.1 ++ [(pl, e, s'.2.2)], s'.2.2 + e.cells.length) := by
          rw [hs']
          unfold stepC
          split
          · simp
          · rfl
        -- if cell + len(cells) > width
        dsimp only [gName]
        refine seq_mid (fun σ4 H4 => ∃ as4 : List Addr, σ4 = [some (.ref q), some (vn place), some (.ref LA), some (.ref tb), some (vn width), some (.ref p), some (vn s'.2.2), some (.ref qj), some (vn (wordCells es)), some (vn pl), some (.ref q3)] ∧
          LInv CL H H4 LA as as4 (s'.1 ++ [s'.2.1]) p qs ∧ NL H' H4) ?_ ?_
        · rintro σ4 H4 ⟨as4, rfl, J4, nl4⟩
          have hwt4 : wt (s'.1 ++ [s'.2.1]) ≤ 1070001 := by
            rw [hs']
            split
            · rw [wt_snoc (s.1 ++ [s.2.1])]
              simp
              omega
            · omega
          obtain ⟨ad4, la4, ql4, eas4, hla4, hcur4, _, _, ne4⟩ := J4.lines.last
          have hql4 := Paired.length hcur4
          have hcw : s'.2.1.length + 1 ≤ wt (s'.1 ++ [s'.2.1]) := by
            rw [wt_snoc]
            omega
          -- lines[-1].append(Laid(letter_place, text, cell, cells))
          refine ⟨_, rfl, _, rfl, LA, _, _, V.ref la4, rfl, rfl, SqL.of J4.lines.lst, (by rw [eas4, refs_snoc]; exact atI_last _ _), .inl ⟨rfl, _, SqL.of hla4⟩, _, rfl, _, rfl, _, rfl, _, rfl, ?_⟩
          intro x dx nx nd ne
          refine ⟨x, dx, pl, qj, s'.2.2, q3, rfl, upd_same, fun H5 hx5 kp5 => ⟨rfl, ?_⟩⟩
          have s5 : Same H4 H5 := Same.made nx nd fun b o eb hb => kp5 b o eb (by simpa using hb)
          have J5 := J4.same s5
          have hla5 := s5 _ _ hla4
          have lx : LaidAt CL H5 x (pl, e, s'.2.2) := ⟨dx, qj, q3, hx5, s5 _ _ (nl4 _ _ hql (fun xs z => by cases z)), s5 _ _ (nl4 _ _ hq3 (fun xs z => by cases z))⟩
          rw [eas4] at J5
          have J6 := J5.more hla5 (Paired.mapP hcur4 fun _ _ z => z.keep (.of s5)) lx
          have nl6 : NL H' (upd H5 la4 (.lst (refs ql4 ++ [.ref x]))) := fun b o eb hn => NL.upd hla5 b o (s5 _ _ (nl4 b o eb hn)) hn
          refine ⟨la4, _, _, rfl, rfl, hla5, big _ (by rw [refs_length]; omega), ?_⟩
          have hq6 := nl6 _ _ hq3 (fun xs z => by cases z)
          have ht6 := nl6 _ _ hql (fun xs z => by cases z)
          refine ⟨_, rfl, _, rfl, q3, _, rfl, .inr (SqT.of hq6), _, _, rfl, rfl, ?_⟩
          refine ⟨_, rfl, _, rfl, qj, _, rfl, .inr (SqT.of ht6), _, _, rfl, rfl, ?_⟩
          refine ⟨ad4 ++ [la4], some (.ref qj), some (.ref q3), ?_, ?_, ht'.keep fun b xs eb => nl6 _ _ eb (fun ys z => by cases z)⟩
          · rw [hs1, hst, hpl1, nv_length, nv_length]
            rfl
          · rw [hs1, hst]
            exact J6
        · intro N hN
          refine ⟨_, rfl, _, rfl, q3, _, rfl, .inr (SqT.of hq3), _, _, rfl, rfl, _, rfl, _, _, rfl, rfl, _, rfl, ?_⟩
          rw [nv_length]
          by_cases hov : width < s.2.2 + e.cells.length
          · rw [← hs, decide_eq_true (show (width : Int) < (s.2.2 : Int) + (e.cells.length : Int) by omega)]
            rw [if_pos hov] at hs'
            refine iteT ⟨_, rfl, .inl ⟨rfl, _, SqL.of J.lines.lst⟩, (by show 0 ≤ sizeLine; decide), fun z nz => ?_⟩
            have zL : LA ≠ z := fun e' => by rw [← e', J.lines.lst] at nz; cases nz
            have hzH : H z = none := J.new (l0 := []) nz
            have hal := Paired.length J.lines.all
            have hwl2 := wt_length (s.1 ++ [s.2.1])
            refine ⟨LA, _, _, rfl, rfl, (by rw [upd_ne zL]; exact J.lines.lst), big _ (by rw [refs_length]; omega), ?_⟩
            refine hN _ _ ⟨as' ++ [z], ?_, ?_, J.nlOpen nz⟩
            · rw [hs', hpl]
              rfl
            · rw [hs']
              exact J.open_ nz hzH
          · rw [← hs, decide_eq_false (show ¬ (width : Int) < (s.2.2 : Int) + (e.cells.length : Int) by omega)]
            rw [if_neg hov] at hs'
            refine iteF (hN _ _ ⟨as', ?_, ?_, fun b o eb _ => eb⟩)
            · rw [hs', hpl]
              rfl
            · rw [hs']
              exact J
      · rintro σ H' ⟨as', v7, v10, rfl, J, _⟩
        have hl : (refs qs).length = (placed place es).length := by rw [refs_length, hlq, placed_length]
        rw [hl, List.take_length, hb] at J
        exact k H' as' J.keep J.lines J.fresh
    · intro N hN
      refine ⟨_, rfl, _, _, rfl, rfl, _, rfl, ?_⟩
      have keepgo : ¬ (0 < cellFor cur ∧ width < cellFor cur + wordCells es) → N [some (.ref q), some (vn place), some (.ref LA), some (.ref tb), some (vn width), some (.ref p), some (vn (cellFor cur)), none, some (vn (wordCells es)), none, none] H2 := fun hnot => by
        refine hN _ _ ⟨as, none, none, none, ?_, ?_, hqs.same s2⟩
        · rw [hb]
          unfold begun
          rw [if_neg hnot]
        · rw [hb]
          unfold begun
          rw [if_neg hnot]
          exact J0
      by_cases c1 : 0 < cellFor cur
      · rw [decide_eq_true (show (0 : Int) < (cellFor cur : Int) by omega)]
        refine iteT ⟨_, rfl, _, rfl, _, _, rfl, rfl, _, rfl, _, _, rfl, rfl, _, rfl, ?_⟩
        by_cases c2 : width < cellFor cur + wordCells es
        · rw [decide_eq_true (show (width : Int) < (cellFor cur : Int) + (wordCells es : Int) by omega)]
          refine iteT ⟨_, rfl, .inl ⟨rfl, _, SqL.of J0.lines.lst⟩, (by show 0 ≤ sizeLine; decide), fun z nz => ?_⟩
          have zL : LA ≠ z := fun e' => by rw [← e', J0.lines.lst] at nz; cases nz
          have hzH : H z = none := J0.new (l0 := []) nz
          have hal := Paired.length J0.lines.all
          have hwl2 := wt_length (done ++ [cur])
          refine ⟨LA, _, _, rfl, rfl, (by rw [upd_ne zL]; exact J0.lines.lst), big _ (by rw [refs_length]; omega), ?_⟩
          refine hN _ _ ⟨as ++ [z], none, none, none, ?_, ?_, (hqs.same s2).keep fun b xs eb => J0.nlOpen nz b _ eb (fun ys z => by cases z)⟩
          · rw [hb]
            unfold begun
            rw [if_pos ⟨c1, c2⟩]
            rfl
          · rw [hb]
            unfold begun
            rw [if_pos ⟨c1, c2⟩]
            exact J0.open_ nz hzH
        · rw [decide_eq_false (show ¬ (width : Int) < (cellFor cur : Int) + (wordCells es : Int) by omega)]
          exact iteF (keepgo fun z => c2 z.2)
      · rw [decide_eq_false (show ¬ (0 : Int) < (cellFor cur : Int) by omega)]
        exact iteF (iteF (keepgo fun z => c1 z.1))
end
end Fc

set_option Elab.async false
set_option linter.all false
set_option maxRecDepth 100000
set_option maxHeartbeats 4000000
/-! books.py: lines_of_paragraph, book_of_text -/
namespace Fc
open PySem PySem.Spec PyProof.Rows L2 FcR
theorem sited_length : ∀ (p : Nat) (l : List (List Nat)), (sited p l).length = l.length
  | _, [] => rfl
  | p, w :: l => congrArg (· + 1) (sited_length (p + w.length + 1) l)
theorem sited_get (p : Nat) (l : List (List Nat)) (i : Nat) {w : List Nat} (h : l[i]? = some w) : (sited p l)[i]? = some (p + ((l.take i).map fun x => x.length + 1).sum, w) := by
  induction l generalizing p i with
  | nil => simp at h
  | cons x l ih =>
    cases i with
    | zero =>
      have : x = w := Option.some.inj h
      subst this
      rfl
    | succ i =>
      have := ih (p + x.length + 1) i h
      show (sited (p + x.length + 1) l)[i]? = _
      rw [this, List.take_succ_cons, List.map_cons, List.sum_cons]
      congr 2
      omega
theorem sum_more {l : List (List Nat)} {i : Nat} {w : List Nat} (h : l[i]? = some w) : ((l.take (i + 1)).map fun x => x.length + 1).sum = ((l.take i).map fun x => x.length + 1).sum + (w.length + 1) := by
  rw [take_more h, List.map_append, List.sum_append]
  simp
theorem es_few {t : Km344.Table} (T : Tab t) {wd : List Nat} (hl : ∀ x ∈ wd, Km344.isLetter x = true) : (Km344.entriesOf t wd).length ≤ wd.length := by
  have hrow := row_entries T hl
  have : ∀ l : List Km344.Entry, (∀ e ∈ l, e ∈ t) → l.length ≤ (l.flatMap Km344.Entry.text).length := by
    intro l
    induction l with
    | nil => intro _; exact Nat.le_refl _
    | cons e l ih =>
      intro h
      have h1 := ih fun x hx => h x (List.mem_cons_of_mem _ hx)
      have g := good_iff.mp (T.good e (h e (List.mem_cons_self ..)))
      rw [List.flatMap_cons, List.length_append, List.length_cons]
      omega
  have := this _ hrow.2.2.1
  rw [hrow.2.2.2] at this
  exact this
theorem wt_layP {t : Km344.Table} (T : Tab t) {width : Nat} {s : List (List Rec) × List Rec} {x : Nat × List Nat} (hl : ∀ y ∈ x.2, Km344.isLetter y = true) : wt ((layP t width s x).1 ++ [(layP t width s x).2]) ≤ wt (s.1 ++ [s.2]) + 2 * (x.2.length + 1) := by
  unfold layP
  split
  · omega
  · have h1 := wt_layW (width := width) (p := x.1) (es := Km344.entriesOf t x.2) (done := s.1) (cur := s.2)
    have h2 := es_few T hl
    dsimp only
    omega
theorem wt_layPs {t : Km344.Table} (T : Tab t) {width : Nat} : ∀ (l : List (List Nat)) (p : Nat) (s : List (List Rec) × List Rec), (∀ wd ∈ l, ∀ y ∈ wd, Km344.isLetter y = true) → ∀ i, wt ((((sited p l).take i).foldl (layP t width) s).1 ++ [(((sited p l).take i).foldl (layP t width) s).2]) ≤ wt (s.1 ++ [s.2]) + 2 * (l.map fun x => x.length + 1).sum
  | [], p, s, _, i => by
    have e : (sited p []).take i = [] := by
      show ([] : List (Nat × List Nat)).take i = []
      exact List.take_nil
    rw [e]
    exact Nat.le_add_right _ _
  | w :: l, p, s, h, 0 => Nat.le_add_right _ _
  | w :: l, p, s, h, i + 1 => by
    have ih := wt_layPs T (width := width) l (p + w.length + 1) (layP t width s (p, w)) (fun wd hwd => h wd (List.mem_cons_of_mem _ hwd)) i
    have h1 := wt_layP T (width := width) (s := s) (x := (p, w)) (h w (List.mem_cons_self ..))
    show wt ((((sited (p + w.length + 1) l).take i).foldl (layP t width) (layP t width s (p, w))).1 ++ [(((sited (p + w.length + 1) l).take i).foldl (layP t width) (layP t width s (p, w))).2]) ≤ _
    rw [List.map_cons, List.sum_cons]
    dsimp only at h1
    omega
section
variable {P : Program} {w : World} {K : PySem.W.Frag} {mg : Str → Option Value} {base : Heap}
def spPar (CT CL : Addr) : Sp := fun vs H Q _ => ∃ (q tb : Addr) (text : List Nat) (t : Km344.Table) (place width : Nat), vs = [.ref q, vn place, .ref tb, vn width] ∧ H q = some (.tup (nv text)) ∧ TableAt CT H tb t ∧ Tab t ∧ (∀ x ∈ text, Km344.isLetter x = true ∨ x = 32) ∧ text.length ≤ 30000 ∧
  ∀ (H' : Hp) (LA : Addr) (as : List Addr), Same H H' → H LA = none → LinesAt CL H' LA as (parR t width place text) → (∀ x ∈ as, H x = none) → Q (.ref LA) H'
theorem scPa : FnScope ["paragraph", "place", "table", "width", "lines", "word_place", "word"] ["paragraph", "place", "table", "width"] (defScope sParOf) := ⟨rfl, rfl, rfl, by decide +kernel, rfl, by decide +kernel, by decide +kernel⟩
theorem ok_par {f fP fL CT CL : Addr} {fd fdP fdL : FuncData} (F : Fun K "lines_of_paragraph" "lines_of_paragraph" sParOf f fd)
    (FP : FnOk P w K mg base CX0 1 fP fdP ["numbers", "mark"] (spPieces K)) (kP : PySem.W.keepIn K (.ref fP) = true) (bP : Binds K fdP ["numbers", "mark"] []) (gP : mg "pieces" = some (.ref fP))
    (FL : FnOk P w K mg base CX0 4 fL fdL ["word", "place", "lines", "table", "width"] (spLayWord CT CL)) (kL : PySem.W.keepIn K (.ref fL) = true) (bL : Binds K fdL ["word", "place", "lines", "table", "width"] []) (gL : mg "lay_word" = some (.ref fL))
    (b1 : mg "len" = none) (g1 : Num mg "BLANK" 32) : FnOk P w K mg base CX0 5 f fd ["paragraph", "place", "table", "width"] (spPar CT CL) := by
  refine F.ok scPa (fun vs H Q E h => ?_) (fun cdv A outer s0 H vs Q E hr h => ?_)
  · obtain ⟨q, tb, text, t, place, width, rfl, _⟩ := h
    rfl
  · obtain ⟨q, tb, text, t, place, width, rfl, hq, hTb, hT, hl, hlen, k⟩ := h
    have hr1 : Room 1 _ := hr.mono (by decide)
    refine ⟨_, pss_cons (ps_set (i := 4) scPa.nd rfl (.inl rfl) (pe_lst (pa_cons (pe_lst pa_nil) pa_nil)))
      (pss_cons (ps_set (i := 5) scPa.nd rfl (.inl rfl) (pv 1))
      (pss_cons (ps_for PassesOwn.never rfl (pi_list (pe_call FP hr1 (by rfl) gP kP bP .nil pass0 (pa_cons (pv 0) (pa_cons (pe_num g1) pa_nil)))) (pg_name (i := 6) scPa.nd rfl (.inl rfl))
        (pss_cons (ps_if (pt_cmpR op_gt (pe_callB call_len_seq (by rfl) b1 PySem.boot_len (pa_cons (pv 6) pa_nil)) pe_int (nomark _))
          (pss_one (ps_expr (pe_call FL hr (by rfl) gL kL bL .nil pass0 (pa_cons (pv 6) (pa_cons (pv 5) (pa_cons (pv 4) (pa_cons (pv 2) (pa_cons (pv 3) pa_nil)))))))) pss_nil)
        (pss_one (ps_aug (i := 5) scPa.nd rfl (.inl rfl) (pe_op op_add (pe_callB call_len_seq (by rfl) b1 PySem.boot_len (pa_cons (pv 6) pa_nil)) pe_int) ip_add))))
      (pss_one (ps_ret (pv 4))))), ?_⟩
    refine ⟨by show 0 ≤ sizeLine; decide, fun l0 nl => ⟨by show 1 ≤ sizeLine; decide, fun LA nLA => ?_⟩⟩
    have s1 := (Same.upd_new (o := .lst []) nl).trans (Same.upd_new (o := .lst [V.ref l0]) nLA)
    have l0L : l0 ≠ LA := fun e => by rw [← e, upd_same] at nLA; cases nLA
    have nLAH : H LA = none := (Same.upd_new (o := .lst []) nl).free nLA
    have L0 : LinesAt CL (upd (upd H l0 (.lst [])) LA (.lst [V.ref l0])) LA [l0] [[]] := ⟨upd_same, .cons ⟨[], by rw [upd_ne l0L, upd_same]; rfl, .nil⟩ .nil, by simp, by simpa using l0L.symm⟩
    refine ⟨_, rfl, ?_⟩
    refine ⟨_, rfl, q, text, 32, rfl, .inr (s1 _ _ hq), hlen, fun H1 p qs s2 np hp hqs => ?_⟩
    have hlq := hqs.length
    have L1 := L0.same s2
    have hsum := parts_length (b := 32) text
    have hwl : ∀ wd ∈ Km344.parts 32 text, ∀ y ∈ wd, Km344.isLetter y = true := fun wd hwd y hy => by
      have := mem_parts text wd hwd y hy
      exact (hl y this.1).resolve_right this.2
    have pLA : p ≠ LA := fun e => by rw [e, upd_same] at np; cases np
    have pl0 : p ≠ l0 := fun e => by rw [e, upd_ne l0L, upd_same] at np; cases np
    refine ⟨p, rfl, ⟨_, SqL.of hp⟩, for_it (walk_list (xs := refs qs)) (fun i σ H' => ∃ (as : List Addr) (v6 : Option V), σ = [some (.ref q), some (vn place), some (.ref tb), some (vn width), some (.ref LA), some (vn (place + (((Km344.parts 32 text).take i).map fun x => x.length + 1).sum)), v6] ∧
      Same H H' ∧ H' p = some (.lst (refs qs)) ∧ Tups H' qs (Km344.parts 32 text) ∧ LinesAt CL H' LA as ((((sited place (Km344.parts 32 text)).take i).foldl (layP t width) ([], [])).1 ++ [(((sited place (Km344.parts 32 text)).take i).foldl (layP t width) ([], [])).2]) ∧
      (∀ x ∈ as, H x = none) ∧ p ∉ as) ?_ ?_ ?_ ?_⟩
    · refine ⟨[l0], _, rfl, s1.trans s2, hp, hqs, L1, fun x hx => by rw [List.mem_singleton.mp hx]; exact nl, by simpa using pl0⟩
    · rintro i σ H' hi ⟨as, v6, rfl, sm, hp', _⟩
      exact SqL.of hp'
    · rintro i x σ H0 H' hi ⟨as, v6, rfl, sm, hp', ht', L, hfr, hpas⟩ ⟨rfl, hx⟩
      obtain ⟨qi, hqi, rfl⟩ := refs_of hx
      obtain ⟨wd, hwd, hqt⟩ := ht'.get' hqi
      have hmem := List.mem_of_getElem? hwd
      have hlw := mem_len _ wd hmem
      have hs1 : ((sited place (Km344.parts 32 text)).take (i + 1)).foldl (layP t width) ([], []) = layP t width (((sited place (Km344.parts 32 text)).take i).foldl (layP t width) ([], [])) (place + (((Km344.parts 32 text).take i).map fun x => x.length + 1).sum, wd) := by
        rw [take_more (sited_get place _ i hwd), List.foldl_append]
        rfl
      have hw0 := wt_layPs hT (width := width) (Km344.parts 32 text) place ([], []) hwl i
      obtain ⟨s, hs⟩ : ∃ s, s = ((sited place (Km344.parts 32 text)).take i).foldl (layP t width) ([], []) := ⟨_, rfl⟩
      rw [← hs] at L hs1 hw0
      obtain ⟨pl, hpl⟩ : ∃ pl, pl = place + (((Km344.parts 32 text).take i).map fun x => x.length + 1).sum := ⟨_, rfl⟩
      have hpl1 : place + (((Km344.parts 32 text).take (i + 1)).map fun x => x.length + 1).sum = pl + (wd.length + 1) := by
        rw [sum_more hwd, hpl]
        omega
      rw [← hpl] at hs1
      have hw1 : wt (([] : List (List Rec)) ++ [[]]) = 1 := rfl
      dsimp only at hw0
      rw [hw1, hsum] at hw0
      have hse : [some (V.ref q), some (vn place), some (V.ref tb), some (vn width), some (V.ref LA), some (vn (place + (((Km344.parts 32 text).take i).map fun x => x.length + 1).sum)), v6] = [some (V.ref q), some (vn place), some (V.ref tb), some (vn width), some (V.ref LA), some (vn pl), v6] := by rw [hpl]
      rw [hse]
      dsimp only [gName]
      refine seq_mid (fun σ2 H2 => ∃ as2 : List Addr, σ2 = [some (.ref q), some (vn place), some (.ref tb), some (vn width), some (.ref LA), some (vn pl), some (.ref qi)] ∧ Same H H2 ∧ H2 p = some (.lst (refs qs)) ∧ Tups H2 qs (Km344.parts 32 text) ∧
        LinesAt CL H2 LA as2 ((layP t width s (pl, wd)).1 ++ [(layP t width s (pl, wd)).2]) ∧ (∀ x ∈ as2, H x = none) ∧ p ∉ as2) ?_ ?_
      · rintro σ2 H2 ⟨as2, rfl, sm2, hp2, ht2, L2, hfr2, hpas2⟩
        obtain ⟨wd', hwd', hqt'⟩ := ht2.get' hqi
        rw [hwd] at hwd'
        cases hwd'
        refine ⟨_, rfl, _, rfl, qi, _, rfl, .inr (SqT.of hqt'), _, _, rfl, rfl, _, _, rfl, rfl, ⟨as2, some (.ref qi), ?_, sm2, hp2, ht2, by rw [hs1]; exact L2, hfr2, hpas2⟩⟩
        rw [hpl1, nv_length]
        rfl
      · intro N hN
        refine ⟨_, rfl, qi, _, rfl, .inr (SqT.of hqt), _, _, rfl, rfl, _, rfl, ?_⟩
        rw [nv_length]
        by_cases hz : wd = []
        · have h0 : wd.length = 0 := by rw [hz]; rfl
          rw [decide_eq_false (show ¬ (0 : Int) < (wd.length : Int) by omega)]
          refine iteF (hN _ _ ⟨as, rfl, sm, hp', ht', ?_, hfr, hpas⟩)
          have e1 : layP t width s (pl, wd) = s := if_pos hz
          rw [e1]
          exact L
        · have h0 : 0 < wd.length := List.length_pos_iff.mpr hz
          rw [decide_eq_true (show (0 : Int) < (wd.length : Int) by omega)]
          have e1 : layP t width s (pl, wd) = ((layW width pl (Km344.entriesOf t wd) s.1 s.2).1, (layW width pl (Km344.entriesOf t wd) s.1 s.2).2.1) := if_neg hz
          refine iteT ⟨_, rfl, _, rfl, _, rfl, _, rfl, _, rfl, qi, LA, tb, wd, t, pl, width, as, s.1, s.2, rfl, hqt, hTb.same sm, hT, hwl wd hmem, by omega, L, by omega, fun H2 as2 k2 L2 f2 => ?_⟩
          have nl2 := L.nl k2
          have sm2 : Same H H2 := Same.keep sm k2 fun m hm => by
            rcases List.mem_cons.mp hm with hm | hm
            · rw [hm]
              exact nLAH
            · exact hfr m hm
          refine hN _ _ ⟨as2, rfl, sm2, ?_, ht'.keep fun b xs eb => nl2 b _ eb (fun ys z => by cases z), by rw [e1]; exact L2, fun x hx => ?_, fun m => ?_⟩
          · exact k2 _ _ hp' fun m => by
              rcases List.mem_cons.mp m with m | m
              · exact pLA m
              · exact hpas m
          · rcases f2 x hx with h | h
            · exact hfr x h
            · exact sm.free h
          · rcases f2 p m with h | h
            · exact hpas h
            · rw [hp'] at h
              cases h
    · rintro σ H' ⟨as, v6, rfl, sm, hp', ht', L, hfr, hpas⟩
      have hl2 : (refs qs).length = (sited place (Km344.parts 32 text)).length := by rw [refs_length, hlq, sited_length]
      rw [hl2, List.take_length] at L
      exact ⟨_, rfl, k H' LA as sm nLAH L hfr⟩

/-! ### Book, book_of_text -/
def bookF (a LA sp : Addr) : List (Str × V) := [("text", .ref a), ("lines", .ref LA), ("spots", .ref sp)]
theorem bookF_new (a LA sp : Addr) : putF "spots" (.ref sp) (putF "lines" (.ref LA) (putF "text" (.ref a) [])) = bookF a LA sp := by
  have e1 : putF "lines" (.ref LA) (putF "text" (.ref a) []) = ([("text", .ref a), ("lines", .ref LA)] : List (Str × V)) := (put_past (by decide +kernel)).trans rfl
  have e2 : putF "spots" (.ref sp) ([("text", .ref a), ("lines", .ref LA)] : List (Str × V)) = bookF a LA sp := (put_past (by decide +kernel)).trans (congrArg _ ((put_past (by decide +kernel)).trans rfl))
  rw [e1, e2]
theorem bookF_text (a LA sp : Addr) : (bookF a LA sp).lookup ("text" : Str) = some (.ref a) := lk_here
theorem bookF_lines (a LA sp : Addr) : (bookF a LA sp).lookup ("lines" : Str) = some (.ref LA) := (lk_past (by decide +kernel)).trans lk_here
theorem bookF_spots (a LA sp : Addr) : (bookF a LA sp).lookup ("spots" : Str) = some (.ref sp) := (lk_past (by decide +kernel)).trans ((lk_past (by decide +kernel)).trans lk_here)
structure TxtB (K : PySem.W.Frag) (C : Addr) : Prop where
  cl : Cls K C
  nT : NoAttr K C "text"
  nL : NoAttr K C "lines"
  nS : NoAttr K C "spots"
/-- a book; of its lists' addresses F holds -/
def BookAt (CB CL : Addr) (H : Hp) (B a : Addr) (n : Nat) (ls : List (List Rec)) (F : Addr → Prop) : Prop := ∃ dx LA as sp, H B = some (.ins CB dx (bookF a LA sp)) ∧ LinesAt CL H LA as ls ∧ SpotsAt H sp n ls ∧ F LA ∧ F sp ∧ ∀ x ∈ as, F x
theorem BookAt.same {CB CL : Addr} {H H' : Hp} {B a : Addr} {n : Nat} {ls : List (List Rec)} {F : Addr → Prop} (h : BookAt CB CL H B a n ls F) (s : Same H H') : BookAt CB CL H' B a n ls F := by
  obtain ⟨dx, LA, as, sp, h1, h2, h3, h4⟩ := h
  exact ⟨dx, LA, as, sp, s _ _ h1, h2.same s, Spot.same h3 s, h4⟩
theorem BookAt.mono {CB CL : Addr} {H : Hp} {B a : Addr} {n : Nat} {ls : List (List Rec)} {F F' : Addr → Prop} (h : BookAt CB CL H B a n ls F) (m : ∀ x, F x → F' x) : BookAt CB CL H B a n ls F' := by
  obtain ⟨dx, LA, as, sp, h1, h2, h3, h4, h5, h6⟩ := h
  exact ⟨dx, LA, as, sp, h1, h2, h3, m _ h4, m _ h5, fun x hx => m x (h6 x hx)⟩
def spBookInit (K : PySem.W.Frag) (C CL : Addr) : Sp := fun vs H Q _ => ∃ (p dx a LA : Addr) (as : List Addr) (ns : List Nat) (L : List (List Rec)), vs = [.ref p, .ref a, .ref LA] ∧ H p = some (.ins C dx []) ∧ (∀ H', Keep [p] H H' → Nums K H' a ns) ∧ (∀ H', Keep [p] H H' → LinesAt CL H' LA as L) ∧
  ns.length ≤ 30000 ∧ (∀ l ∈ L, ∀ x ∈ l, x.1 + x.2.1.text.length ≤ ns.length) ∧ ∀ (H' : Hp) (sp : Addr), H' p = some (.ins C dx (bookF a LA sp)) → Keep [p] H H' → H sp = none → SpotsAt H' sp ns.length L → Q .non H'
theorem scBI : FnScope ["self", "text", "lines"] ["self", "text", "lines"] (defScope sBookInit) := ⟨rfl, rfl, rfl, by decide +kernel, rfl, by decide +kernel, by decide +kernel⟩
theorem ok_bookInit {f fS C CL : Addr} {fd fdS : FuncData} (F : Fun K "__init__" "Book.__init__" sBookInit f fd) (T : TxtB K C)
    (FS : FnOk P w K mg base CX0 1 fS fdS ["count", "lines"] (spSpots CL)) (kS : PySem.W.keepIn K (.ref fS) = true) (bS : Binds K fdS ["count", "lines"] []) (gS : mg "spots_of_letters" = some (.ref fS)) (b1 : mg "len" = none) :
    FnOk P w K mg base CX0 2 f fd ["self", "text", "lines"] (spBookInit K C CL) := by
  refine F.ok scBI (fun vs H Q E h => ?_) (fun cdv A outer s H vs Q E hr h => ?_)
  · obtain ⟨p, dx, a, LA, as, ns, L, rfl, _⟩ := h
    rfl
  · obtain ⟨p, dx, a, LA, as, ns, L, rfl, hp, hN, hL, hlen, hin, k⟩ := h
    refine ⟨_, pss_cons (ps_fld (pv 0) (pv 1) rfl) (pss_cons (ps_fld (pv 0) (pv 2) rfl)
      (pss_one (ps_fld (pv 0) (pe_call FS hr (by rfl) gS kS bS .nil pass0 (pa_cons (pe_callB call_len_seq (by rfl) b1 PySem.boot_len (pa_cons (pv 1) pa_nil)) (pa_cons (pv 2) pa_nil))) rfl))), ?_⟩
    refine ⟨_, rfl, _, rfl, p, C, dx, _, rfl, hp, T.cl, T.nT, (by show 0 < 1000; decide), ?_⟩
    refine ⟨_, rfl, _, rfl, p, C, dx, _, rfl, upd_same, T.cl, T.nL, (by show 1 < 1000; decide), ?_⟩
    have kp2 : Keep [p] H (upd (upd H p (.ins C dx (putF "text" (.ref a) []))) p (.ins C dx (putF "lines" (.ref LA) (putF "text" (.ref a) [])))) := Keep.upd (Keep.upd (Keep.of (Same.refl H)) (.inl (by simp))) (.inl (by simp))
    have hN2 := hN _ kp2
    refine ⟨_, rfl, a, nv ns, rfl, hN2.imp id SqT.of, _, rfl, ns.length, LA, as, L, ?_, hL _ kp2, hlen, hin, fun H3 sp s3 nsp hS3 => ?_⟩
    · rw [nv_length]
      rfl
    refine ⟨_, rfl, p, C, dx, _, rfl, s3 _ _ upd_same, T.cl, T.nS, (by show 2 < 1000; decide), ?_⟩
    have spp : sp ≠ p := fun e => by rw [e, upd_same] at nsp; cases nsp
    refine k _ sp (by rw [upd_same, bookF_new]) (Keep.upd (Keep.trans kp2 (Keep.of s3)) (.inl (by simp))) ?_ ?_
    · rw [upd_ne spp, upd_ne spp] at nsp
      exact nsp
    · obtain ⟨xs, x1, x2, x3⟩ := hS3
      refine ⟨xs, by rw [upd_ne spp]; exact x1, x2, fun i hi => ?_⟩
      rcases x3 i hi with h | ⟨q, k', c', e1, e2, e3⟩
      · exact .inl h
      · refine .inr ⟨q, k', c', e1, ?_, e3⟩
        rw [upd_ne (ne_of e2 (s3 _ _ upd_same) (fun z => by cases z))]
        exact e2
/-! ### no_book -/
def spNoBook (CB CL : Addr) : Sp := fun vs H Q _ => vs = [] ∧ ∀ (H' : Hp) (B ta : Addr), Same H H' → H B = none → H ta = none → H' ta = some (.lst []) → BookAt CB CL H' B ta 0 [] (fun x => H x = none) → Q (.ref B) H'
theorem scNB : FnScope [] [] (defScope sNoBook) := ⟨rfl, rfl, rfl, by decide +kernel, rfl, by decide +kernel, by decide +kernel⟩
theorem ok_noBook {f fI CL CB : Addr} {fd fdI : FuncData} (F : Fun K "no_book" "no_book" sNoBook f fd)
    (MB : Mk K CB fI) (FI : FnOk P w K mg base CX0 2 fI fdI ["self", "text", "lines"] (spBookInit K CB CL)) (bI : Binds K fdI ["self", "text", "lines"] []) (gB : mg "Book" = some (.ref CB)) : FnOk P w K mg base CX0 4 f fd [] (spNoBook CB CL) := by
  refine F.ok scNB (fun vs H Q E h => ?_) (fun cdv A outer s H vs Q E hr h => ?_)
  · obtain ⟨rfl, _⟩ := h
    rfl
  · obtain ⟨rfl, k⟩ := h
    refine ⟨_, pss_one (ps_ret (pe_make MB FI hr (by rfl) gB bI .nil pass0 (pa_cons (pe_lst pa_nil) (pa_cons (pe_lst pa_nil) pa_nil)))), ?_⟩
    refine ⟨by show 0 ≤ sizeLine; decide, fun ta nta => ⟨by show 0 ≤ sizeLine; decide, fun LA nLA => ?_⟩⟩
    have s1 := Same.upd_new (o := .lst []) nta
    have s2 := s1.trans (Same.upd_new (o := .lst []) nLA)
    have hta : (upd (upd H ta (.lst [])) LA (.lst [])) ta = some (.lst []) := Same.upd_new nLA _ _ upd_same
    have L0 : LinesAt CL (upd (upd H ta (.lst [])) LA (.lst [])) LA [] [] := ⟨upd_same, .nil, by simp, by simp⟩
    intro B dx nB nd ne
    have sB : ∀ {H5 : Hp}, Keep [B] (upd (upd (upd (upd H ta (.lst [])) LA (.lst [])) dx (.own B)) B (.ins CB dx [])) H5 → Same (upd (upd H ta (.lst [])) LA (.lst [])) H5 := fun kp5 => Same.made nB nd fun b o eb hb => kp5 b o eb (by simpa using hb)
    refine ⟨B, dx, ta, LA, [], [], [], rfl, upd_same, fun H5 kp5 => .inl (SqL.of (sB kp5 _ _ hta)), fun H5 kp5 => L0.same (sB kp5), by show 0 ≤ 30000; decide, fun l hl => (by cases hl), fun H5 sp hB kp5 nsp hS5 => ⟨rfl, ?_⟩⟩
    have s5 := sB kp5
    have nsp0 : (upd (upd H ta (.lst [])) LA (.lst [])) sp = none := by
      have h1 : sp ≠ B := fun e => by rw [e, upd_same] at nsp; cases nsp
      rw [upd_ne h1] at nsp
      have h2 : sp ≠ dx := fun e => by rw [e, upd_same] at nsp; cases nsp
      rw [upd_ne h2] at nsp
      exact nsp
    exact k H5 B ta (s2.trans s5) (s2.free nB) nta (s5 _ _ hta) ⟨dx, LA, [], sp, hB, L0.same s5, hS5, s1.free nLA, s2.free nsp0, fun x hx => by cases hx⟩
def spBookOf (K : PySem.W.Frag) (CT CL CB : Addr) : Sp := fun vs H Q _ => ∃ (a tb : Addr) (ns : List Nat) (t : Km344.Table) (width : Nat), vs = [.ref a, .ref tb, vn width] ∧ Nums K H a ns ∧ TableAt CT H tb t ∧ Tab t ∧ (∀ x ∈ ns, Km344.isLetter x = true ∨ x = 32 ∨ x = 10) ∧ ns.length ≤ 30000 ∧
  20 ≤ width ∧ ∀ (H' : Hp) (B : Addr), Same H H' → H B = none → (bookR t width ns).length ≤ 1000000 → BookAt CB CL H' B a ns.length (bookR t width ns) (fun x => H x = none) → Q (.ref B) H'
theorem scBO : FnScope ["text", "table", "width", "lines", "place", "paragraph"] ["text", "table", "width"] (defScope sBookOf) := ⟨rfl, rfl, rfl, by decide +kernel, rfl, by decide +kernel, by decide +kernel⟩
theorem parR_few {t : Km344.Table} (T : Tab t) {width p : Nat} {text : List Nat} (hl : ∀ x ∈ text, Km344.isLetter x = true ∨ x = 32) : (parR t width p text).length ≤ 3 * (text.length + 1) := by
  have hwl : ∀ wd ∈ Km344.parts 32 text, ∀ y ∈ wd, Km344.isLetter y = true := fun wd hwd y hy => by
    have := mem_parts text wd hwd y hy
    exact (hl y this.1).resolve_right this.2
  have h := wt_layPs T (width := width) (Km344.parts 32 text) p ([], []) hwl (sited p (Km344.parts 32 text)).length
  rw [List.take_length] at h
  have h2 := wt_length (parR t width p text)
  have h3 : wt (([] : List (List Rec)) ++ [[]]) = 1 := rfl
  have h4 := parts_length (b := 32) text
  dsimp only at h
  rw [h3, h4] at h
  have h5 : wt (parR t width p text) = wt (((sited p (Km344.parts 32 text)).foldl (layP t width) ([], [])).1 ++ [((sited p (Km344.parts 32 text)).foldl (layP t width) ([], [])).2]) := rfl
  omega
theorem ok_bookOf {f fP fR fI CT CL CB : Addr} {fd fdP fdR fdI : FuncData} (F : Fun K "book_of_text" "book_of_text" sBookOf f fd)
    (FP : FnOk P w K mg base CX0 1 fP fdP ["numbers", "mark"] (spPieces K)) (kP : PySem.W.keepIn K (.ref fP) = true) (bP : Binds K fdP ["numbers", "mark"] []) (gP : mg "pieces" = some (.ref fP))
    (FR : FnOk P w K mg base CX0 5 fR fdR ["paragraph", "place", "table", "width"] (spPar CT CL)) (kR : PySem.W.keepIn K (.ref fR) = true) (bR : Binds K fdR ["paragraph", "place", "table", "width"] []) (gR : mg "lines_of_paragraph" = some (.ref fR))
    (MB : Mk K CB fI) (FI : FnOk P w K mg base CX0 2 fI fdI ["self", "text", "lines"] (spBookInit K CB CL)) (bI : Binds K fdI ["self", "text", "lines"] []) (gB : mg "Book" = some (.ref CB))
    (b1 : mg "len" = none) (g1 : Num mg "LINE_END" 10) : FnOk P w K mg base CX0 6 f fd ["text", "table", "width"] (spBookOf K CT CL CB) := by
  refine F.ok scBO (fun vs H Q E h => ?_) (fun cdv A outer s0 H vs Q E hr h => ?_)
  · obtain ⟨a, tb, ns, t, width, rfl, _⟩ := h
    rfl
  · obtain ⟨a, tb, ns, t, width, rfl, hN, hTb, hT, hl, hlen, hw20, k⟩ := h
    have hr1 : Room 1 _ := hr.mono (by decide)
    have hr2 : Room 3 _ := hr.mono (by decide)
    refine ⟨_, pss_cons (ps_set (i := 3) scBO.nd rfl (.inl rfl) (pe_lst pa_nil))
      (pss_cons (ps_set (i := 4) scBO.nd rfl (.inl rfl) pe_int)
      (pss_cons (ps_for PassesOwn.never rfl (pi_list (pe_call FP hr1 (by rfl) gP kP bP .nil pass0 (pa_cons (pv 0) (pa_cons (pe_num g1) pa_nil)))) (pg_name (i := 5) scBO.nd rfl (.inl rfl))
        (pss_cons (ps_expr (pe_bm PySem.F.plainAttrs_list PySem.F.slot_list_extend PySem.F.type_list_extend mt_extend (pv 3) (pa_cons (pe_call FR hr (by rfl) gR kR bR .nil pass0 (pa_cons (pv 5) (pa_cons (pv 4) (pa_cons (pv 1) (pa_cons (pv 2) pa_nil))))) pa_nil)))
        (pss_one (ps_aug (i := 4) scBO.nd rfl (.inl rfl) (pe_op op_add (pe_callB call_len_seq (by rfl) b1 PySem.boot_len (pa_cons (pv 5) pa_nil)) pe_int) ip_add))))
      (pss_one (ps_ret (pe_make MB FI hr2 (by rfl) gB bI .nil pass0 (pa_cons (pv 0) (pa_cons (pv 3) pa_nil))))))), ?_⟩
    refine ⟨by show 0 ≤ sizeLine; decide, fun LA nLA => ?_⟩
    have s1 := Same.upd_new (o := .lst []) nLA
    refine ⟨_, rfl, a, ns, 10, rfl, hN.same s1, hlen, fun H1 p qs s2 np hp hqs => ?_⟩
    have hlq := hqs.length
    have hsum := parts_length (b := 10) ns
    have hpl : ∀ par ∈ Km344.parts 10 ns, ∀ x ∈ par, Km344.isLetter x = true ∨ x = 32 := fun par hpar x hx => by
      have := mem_parts ns par hpar x hx
      rcases hl x this.1 with h | h | h
      · exact .inl h
      · exact .inr h
      · exact absurd h this.2
    have pLA : p ≠ LA := fun e => by rw [e, upd_same] at np; cases np
    obtain ⟨bk, hbk⟩ : ∃ bk : Nat → List (List Rec), bk = fun i => ((sited 0 (Km344.parts 10 ns)).take i).flatMap fun x => parR t width x.1 x.2 := ⟨_, rfl⟩
    have few : ∀ i, (bk i).length ≤ 3 * (((Km344.parts 10 ns).take i).map fun x => x.length + 1).sum := by
      intro i
      rw [hbk]
      dsimp only
      have : ∀ (l : List (List Nat)) (p i : Nat), (∀ par ∈ l, ∀ x ∈ par, Km344.isLetter x = true ∨ x = 32) → (((sited p l).take i).flatMap fun x => parR t width x.1 x.2).length ≤ 3 * ((l.take i).map fun x => x.length + 1).sum := by
        intro l
        induction l with
        | nil =>
          intro p i _
          have e : (sited p []).take i = [] := List.take_nil
          rw [e]
          exact Nat.zero_le _
        | cons y l ih =>
          intro p i h
          cases i with
          | zero => exact Nat.le_refl _
          | succ i =>
            have h1 := ih (p + y.length + 1) i fun par hpar => h par (List.mem_cons_of_mem _ hpar)
            have h2 := parR_few hT (width := width) (p := p) (h y (List.mem_cons_self ..))
            show ((parR t width p y) ++ (((sited (p + y.length + 1) l).take i).flatMap fun x => parR t width x.1 x.2)).length ≤ _
            rw [List.length_append, List.take_succ_cons, List.map_cons, List.sum_cons]
            omega
      exact this _ 0 i hpl
    have few2 : ∀ i, (bk i).length ≤ 3 * (ns.length + 1) := fun i => by
      have h1 := few i
      have h2 := sum_take (Km344.parts 10 ns) i
      omega
    refine ⟨p, rfl, ⟨_, SqL.of hp⟩, for_it (walk_list (xs := refs qs)) (fun i σ H' => ∃ (as : List Addr) (v5 : Option V), σ = [some (.ref a), some (.ref tb), some (vn width), some (.ref LA), some (vn (((Km344.parts 10 ns).take i).map fun x => x.length + 1).sum), v5] ∧
      Same H H' ∧ H' p = some (.lst (refs qs)) ∧ Tups H' qs (Km344.parts 10 ns) ∧ LinesAt CL H' LA as (bk i) ∧ (∀ x ∈ as, H x = none)) ?_ ?_ ?_ ?_⟩
    · refine ⟨[], _, rfl, s1.trans s2, hp, hqs, ⟨s2 _ _ upd_same, ?_, by simp, by simp⟩, fun x hx => by cases hx⟩
      rw [hbk]
      exact .nil
    · rintro i σ H' hi ⟨as, v5, rfl, sm, hp', _⟩
      exact SqL.of hp'
    · rintro i x σ H0 H' hi ⟨as, v5, rfl, sm, hp', ht', L, hfr⟩ ⟨rfl, hx⟩
      obtain ⟨qi, hqi, rfl⟩ := refs_of hx
      obtain ⟨par, hpar, hqt⟩ := ht'.get' hqi
      have hmem := List.mem_of_getElem? hpar
      have hlw := mem_len _ par hmem
      have hb1 : bk (i + 1) = bk i ++ parR t width (((Km344.parts 10 ns).take i).map fun x => x.length + 1).sum par := by
        rw [hbk]
        dsimp only
        rw [take_more (sited_get 0 _ i hpar), List.flatMap_append]
        simp
      refine ⟨_, rfl, .inl ⟨rfl, _, SqL.of L.lst⟩, _, rfl, _, rfl, _, rfl, _, rfl, qi, tb, par, t, _, width, rfl, hqt, hTb.same sm, hT, hpl par hmem, by omega, fun H2 LB bs sm2 nLB L2 f2 => ?_⟩
      have L' := L.same sm2
      have hLA2 := L'.lst
      have hal := Paired.length L'.all
      have hbl := Paired.length L2.all
      have hf1 := few2 i
      have hf2 := few2 (i + 1)
      rw [hb1, List.length_append] at hf2
      refine ⟨LA, LB, _, _, rfl, rfl, hLA2, L2.lst, (by rw [refs_length, refs_length]; exact Nat.le_of_lt (big _ (by omega))), ?_⟩
      have hLAp : H' LA = some (.lst (refs as)) := L.lst
      have hbs : ∀ y ∈ bs, y ≠ LA := fun y hy e => by
        have := f2 y hy
        rw [e, hLAp] at this
        cases this
      have nl : NL H2 (upd H2 LA (.lst (refs as ++ refs bs))) := NL.upd hLA2
      have LN : LinesAt CL (upd H2 LA (.lst (refs as ++ refs bs))) LA (as ++ bs) (bk (i + 1)) := by
        refine ⟨by rw [upd_same]; unfold refs; rw [List.map_append], ?_, ?_, ?_⟩
        · rw [hb1]
          refine paired_append (paired_keep L'.all nl fun y hy o e => ?_) (paired_keep L2.all nl fun y hy o e => ?_)
          · have ne : y ≠ LA := fun z => L.out (by rw [← z]; exact hy)
            rw [upd_ne ne]
            exact e
          · rw [upd_ne (hbs y hy)]
            exact e
        · refine List.nodup_append.mpr ⟨L.nd, L2.nd, fun y hy z hz e => ?_⟩
          obtain ⟨xs, g⟩ := paired_some L.all hy
          have := f2 z hz
          rw [← e, g] at this
          cases this
        · intro m
          rcases List.mem_append.mp m with m | m
          · exact L.out m
          · exact hbs _ m rfl
      have smN : Same H (upd H2 LA (.lst (refs as ++ refs bs))) := Same.upd_own (sm.trans sm2) nLA
      have ht2 := (ht'.same sm2).keep fun b xs e => nl b _ e (fun ys z => by cases z)
      obtain ⟨par', hpar', hqt2⟩ := ht2.get' hqi
      rw [hpar] at hpar'
      cases hpar'
      refine ⟨_, rfl, _, rfl, qi, _, rfl, .inr (SqT.of hqt2), _, _, rfl, rfl, _, _, rfl, rfl, ⟨as ++ bs, some (.ref qi), ?_, smN, by rw [upd_ne pLA]; exact sm2 _ _ hp', ht2, LN, fun y hy => ?_⟩⟩
      · rw [sum_more hpar, nv_length]
        rfl
      · rcases List.mem_append.mp hy with hy | hy
        · exact hfr y hy
        · exact sm.free (f2 y hy)
    · rintro σ H' ⟨as, v5, rfl, sm, hp', ht', L, hfr⟩
      have hl2 : (refs qs).length = (sited 0 (Km344.parts 10 ns)).length := by rw [refs_length, hlq, sited_length]
      have hbf : bk (refs qs).length = bookR t width ns := by
        rw [hl2, hbk]
        dsimp only
        rw [List.take_length]
        rfl
      have hfew := few2 (refs qs).length
      rw [hbf] at L hfew
      refine ⟨_, rfl, _, rfl, ?_⟩
      intro B dx nB nd ne
      have sB : ∀ {H5 : Hp}, Keep [B] (upd (upd H' dx (.own B)) B (.ins CB dx [])) H5 → Same H' H5 := fun kp5 => Same.made nB nd fun b o eb hb => kp5 b o eb (by simpa using hb)
      have hlay := lay_book (t := t) (width := width) (text := ns) (by omega) hT hl
      have hbk : Bk ⟨t, width, ns, Km344.lay t width ns⟩ (bookR t width ns) := Bk.laid hT hl hlay
      refine ⟨B, dx, a, LA, as, ns, bookR t width ns, rfl, upd_same, fun H5 kp5 => (hN.same sm).same (sB kp5), fun H5 kp5 => L.same (sB kp5), hlen, fun l hl2 x hx => ((hbk.pos x (List.mem_flatten.mpr ⟨l, hl2, hx⟩)).1), fun H5 sp hB kp5 nsp hS5 => ⟨rfl, ?_⟩⟩
      have s5 := sB kp5
      have nsp0 : H' sp = none := by
        have h1 : sp ≠ B := fun e => by rw [e, upd_same] at nsp; cases nsp
        rw [upd_ne h1] at nsp
        have h2 : sp ≠ dx := fun e => by rw [e, upd_same] at nsp; cases nsp
        rw [upd_ne h2] at nsp
        exact nsp
      exact k H5 B (sm.trans s5) (sm.free nB) (by omega) ⟨dx, LA, as, sp, hB, L.same s5, hS5, nLA, sm.free nsp0, hfr⟩
end
end Fc

set_option Elab.async false
set_option linter.all false
set_option maxRecDepth 100000
set_option maxHeartbeats 4000000
/-! session.py: the object; is_text, fp_start, fp_cells, fp_text, fp_open -/
namespace Fc
open PySem PySem.Spec PyProof.Rows L2 FcR
abbrev cSession : Stmt := top 52
abbrev sSessInit : Stmt := inClass cSession 0
abbrev sStart : Stmt := inClass cSession 1
abbrev sFpCells : Stmt := inClass cSession 2
abbrev sFpText : Stmt := inClass cSession 3
abbrev sOpen : Stmt := inClass cSession 4
abbrev sLine : Stmt := inClass cSession 5
abbrev sTouch : Stmt := inClass cSession 6
abbrev sPlace : Stmt := inClass cSession 7
abbrev sFind : Stmt := inClass cSession 8
abbrev sIsText : Stmt := top 53

/-! ### the object -/
def sesF (tb wd bk : V) : List (Str × V) := [("table", tb), ("width", wd), ("book", bk)]
theorem sesF_new (tb wd bk : V) : putF "book" bk (putF "width" wd (putF "table" tb [])) = sesF tb wd bk := by
  have e1 : putF "width" wd (putF "table" tb []) = ([("table", tb), ("width", wd)] : List (Str × V)) := (put_past (by decide +kernel)).trans rfl
  have e2 : putF "book" bk ([("table", tb), ("width", wd)] : List (Str × V)) = sesF tb wd bk := (put_past (by decide +kernel)).trans (congrArg _ ((put_past (by decide +kernel)).trans rfl))
  rw [e1, e2]
theorem sesF_table (tb wd bk : V) : (sesF tb wd bk).lookup ("table" : Str) = some tb := lk_here
theorem sesF_width (tb wd bk : V) : (sesF tb wd bk).lookup ("width" : Str) = some wd := (lk_past (by decide +kernel)).trans lk_here
theorem sesF_book (tb wd bk : V) : (sesF tb wd bk).lookup ("book" : Str) = some bk := (lk_past (by decide +kernel)).trans ((lk_past (by decide +kernel)).trans lk_here)
theorem sesF_no (tb wd bk : V) {m : Str} (h1 : (m == "table") = false) (h2 : (m == "width") = false) (h3 : (m == "book") = false) : (sesF tb wd bk).lookup m = none := (lk_past h1).trans ((lk_past h2).trans ((lk_past h3).trans rfl))
theorem sesF_put1 (tb wd bk x : V) : putF "table" x (sesF tb wd bk) = sesF x wd bk := put_here
theorem sesF_put2 (tb wd bk x : V) : putF "width" x (sesF tb wd bk) = sesF tb x bk := (put_past (by decide +kernel)).trans (congrArg _ put_here)
theorem sesF_put3 (tb wd bk x : V) : putF "book" x (sesF tb wd bk) = sesF tb wd x := (put_past (by decide +kernel)).trans (congrArg _ ((put_past (by decide +kernel)).trans (congrArg _ put_here)))
structure TxtS (K : PySem.W.Frag) (C : Addr) : Prop where
  cl : Cls K C
  nT : NoAttr K C "table"
  nW : NoAttr K C "width"
  nB : NoAttr K C "book"
/-- the classes' addresses -/
structure CAs where
  CT : Addr
  CL : Addr
  CB : Addr
  CS : Addr
/-- the book that is open (or the one of nothing); none of its lists is at z -/
def BkAt (K : PySem.W.Frag) (c : CAs) (H : Hp) (z : Addr) (bk : V) (a : Km344.Abs) : Prop := ∃ (B ta : Addr) (L : List (List Rec)), bk = .ref B ∧ SqL K H ta (nv a.text) ∧ a.text.length ≤ 4096 ∧ L.length ≤ 1000000 ∧ Bk a L ∧ (∀ l ∈ L, (marks l).length ≤ 48) ∧
  BookAt c.CB c.CL H B ta a.text.length L (fun x => x ≠ z) ∧ ta ≠ z
theorem BkAt.same {K : PySem.W.Frag} {c : CAs} {H H' : Hp} {z : Addr} {bk : V} {a : Km344.Abs} (h : BkAt K c H z bk a) (s : Same H H') : BkAt K c H' z bk a := by
  obtain ⟨B, ta, L, e, h1, h2, h3, h4, h5, h6, h7⟩ := h
  exact ⟨B, ta, L, e, s.seq h1, h2, h3, h4, h5, h6.same s, h7⟩
/-- the object stands at S and holds what the specification's state says; none of the book's lists is at z -/
def SessAt (K : PySem.W.Frag) (c : CAs) (H : Hp) (S z : Addr) : Km344Neutral.S → Prop
  | none => ∃ dx bk, H S = some (.ins c.CS dx (sesF .non .non bk))
  | some a => ∃ dx tb bk, H S = some (.ins c.CS dx (sesF (.ref tb) (vn a.width) bk)) ∧ TableAt c.CT H tb a.table ∧ a.table.good = true ∧ a.table.sure = true ∧ 20 ≤ a.width ∧ a.width ≤ 48 ∧ BkAt K c H z bk a
theorem SessAt.same {K : PySem.W.Frag} {c : CAs} {H H' : Hp} {S z : Addr} : ∀ {s : Km344Neutral.S}, SessAt K c H S z s → Same H H' → SessAt K c H' S z s
  | none, ⟨dx, bk, h⟩, s => ⟨dx, bk, s _ _ h⟩
  | some a, ⟨dx, tb, bk, h1, h2, h3, h4, h5, h6, h7⟩, s => ⟨dx, tb, bk, s _ _ h1, h2.same s, h3, h4, h5, h6, h7.same s⟩
section
variable {P : Program} {w : World} {K : PySem.W.Frag} {mg : Str → Option Value} {base : Heap}
def spSessInit (C : Addr) : Sp := fun vs H Q _ => ∃ (p dx : Addr), vs = [.ref p] ∧ H p = some (.ins C dx []) ∧ ∀ (H' : Hp) (bk : V), H' p = some (.ins C dx (sesF .non .non bk)) → Keep [p] H H' → Q .non H'
theorem scSI : FnScope ["self"] ["self"] (defScope sSessInit) := ⟨rfl, rfl, rfl, by decide +kernel, rfl, by decide +kernel, by decide +kernel⟩
theorem ok_sessInit {f fN C CB CL : Addr} {fd fdN : FuncData} (F : Fun K "__init__" "Session.__init__" sSessInit f fd) (T : TxtS K C)
    (FN : FnOk P w K mg base CX0 4 fN fdN [] (spNoBook CB CL)) (kN : PySem.W.keepIn K (.ref fN) = true) (bN : Binds K fdN [] []) (gN : mg "no_book" = some (.ref fN)) : FnOk P w K mg base CX0 5 f fd ["self"] (spSessInit C) := by
  refine F.ok scSI (fun vs H Q E h => ?_) (fun cdv A outer s H vs Q E hr h => ?_)
  · obtain ⟨p, dx, rfl, _⟩ := h
    rfl
  · obtain ⟨p, dx, rfl, hp, k⟩ := h
    refine ⟨_, pss_cons (ps_fld (pv 0) pe_non rfl) (pss_cons (ps_fld (pv 0) pe_non rfl) (pss_one (ps_fld (pv 0) (pe_call0 FN hr (by rfl) gN kN bN .nil pass0) rfl))), ?_⟩
    refine ⟨_, rfl, p, C, dx, _, rfl, hp, T.cl, T.nT, (by show 0 < 1000; decide), ?_⟩
    refine ⟨_, rfl, p, C, dx, _, rfl, upd_same, T.cl, T.nW, (by show 1 < 1000; decide), ?_⟩
    refine ⟨rfl, fun H2 B ta s2 nB nta hta hB => ?_⟩
    refine ⟨_, rfl, p, C, dx, _, rfl, s2 _ _ upd_same, T.cl, T.nB, (by show 2 < 1000; decide), ?_⟩
    refine k _ (.ref B) ?_ ?_
    · rw [upd_same, sesF_new]
    · exact Keep.upd (Keep.trans (Keep.upd (Keep.upd (Keep.of (Same.refl H)) (.inl (by simp))) (.inl (by simp))) (Keep.of s2)) (.inl (by simp))

/-! ### is_text -/
def textOk (ns os : List Nat) : Bool := decide (ns.length ≤ 4096) && ns.all fun x => Km344.isLetter x || os.contains x
def spIsText (K : PySem.W.Frag) : Sp := fun vs H Q _ => ∃ (a o : Addr) (ns os : List Nat), vs = [.ref a, .ref o] ∧ SqL K H a (nv ns) ∧ H o = some (.tup (nv os)) ∧ ns.length ≤ 30000 ∧ ∀ H', Same H H' → Q (.bl (textOk ns os)) H'
theorem scIX : FnScope ["text", "others", "number"] ["text", "others"] (defScope sIsText) := ⟨rfl, rfl, rfl, by decide +kernel, rfl, by decide +kernel, by decide +kernel⟩
theorem inV_nat (x : Nat) (os : List Nat) : inV (vn x) (nv os) = os.contains x := by
  unfold inV nv
  rw [List.any_map]
  induction os with
  | nil => rfl
  | cons y os ih =>
    rw [List.any_cons, List.contains_cons, ih]
    congr 1
    show ((y : Int) == (x : Int)) = (x == y)
    rw [Bool.eq_iff_iff, beq_iff_eq, beq_iff_eq]
    omega
theorem flat_nv (os : List Nat) : (nv os).all flatV = true := by
  unfold nv
  rw [List.all_map, List.all_eq_true]
  intro x _
  rfl
theorem ok_isText {f fL : Addr} {fd fdL : FuncData} (F : Fun K "is_text" "is_text" sIsText f fd) (FL : FnOk P w K mg base CX0 1 fL fdL ["number"] spLetter) (kL : PySem.W.keepIn K (.ref fL) = true) (bL : Binds K fdL ["number"] []) (gL : mg "is_letter" = some (.ref fL))
    (b1 : mg "len" = none) (b2 : mg "all" = none) (g1 : Num mg "MOST_TEXT" 4096) : FnOk P w K mg base CX0 2 f fd ["text", "others"] (spIsText K) := by
  refine F.ok scIX (fun vs H Q E h => ?_) (fun cdv A outer s H vs Q E hr h => ?_)
  · obtain ⟨a, o, ns, os, rfl, _⟩ := h
    rfl
  · obtain ⟨a, o, ns, os, rfl, ha, ho, hlen, k⟩ := h
    refine ⟨_, pss_one (ps_ret (pe_and (pe_cmpR op_le (pe_callB call_len_seq (by rfl) b1 PySem.boot_len (pa_cons (pv 0) pa_nil)) (pe_num g1) (nomark _))
      (pe_one (pe_callB (cr_all rfl) (by rfl) b2 (by decide +kernel) (pa_cons (pe_lc (own := [("number", 2)]) (g := gName 2) (tt := tYes) (te := tOrV (tCall spLetter [] E0 (tCons (tVar 2) tNil)) (tOp (rIn K false) (tVar 2) (tVar 1))) rfl scIX.nd (pi_list (pv 0)) (blkOk_by (N := ["text", "others", "number"]) (sc := defScope sIsText) (by decide +kernel)) (fun _ _ _ _ _ => pg_name (i := 2) scIX.nd rfl (Or.inl rfl)) (fun _ _ _ _ _ => pts_nil)
        (fun _ _ _ _ _ => pe_or (pe_call FL hr (by rfl) gL kL bL .nil pass0 (pa_cons (pv 2) pa_nil)) (pe_one (pe_cmpR op_in_seq (pv 2) (pv 1) (by rfl))))) pa_nil))))), ?_⟩
    refine ⟨_, rfl, a, _, rfl, .inl ha, _, _, rfl, rfl, _, rfl, ?_⟩
    rw [nv_length]
    by_cases hl : ns.length ≤ 4096
    · rw [decide_eq_true (show (ns.length : Int) ≤ 4096 by omega)]
      refine iteT ⟨_, rfl, a, rfl, ⟨_, ha⟩, fun D nD => lc_bools (walk_list (xs := nv ns)) nD (fun i => Km344.isLetter (ns.getD i 0) || os.contains (ns.getD i 0)) (by rw [nv_length]; omega) (fun H' s => s.seq ha) ?_ ?_ ?_⟩
      · rintro i H' x H'' _ _ ⟨rfl, _⟩
        exact Same.refl _
      · rintro i x H0 H' hi sm ⟨rfl, hx⟩ R hR
        obtain ⟨y, hy, rfl⟩ := nv_of hx
        have hz := hR _ (Same.refl _)
        rw [List.getD_eq_getElem?_getD, hy] at hz
        have hz : R (.bl (Km344.isLetter y || os.contains y)) H' := hz
        refine ⟨_, rfl, y, rfl, _, rfl, ?_⟩
        cases hil : Km344.isLetter y with
        | true =>
          rw [hil, Bool.true_or] at hz
          exact iteT hz
        | false =>
          rw [hil, Bool.false_or] at hz
          refine iteF ⟨_, rfl, _, rfl, o, _, rfl, .inr (SqT.of (sm _ _ ho)), rfl, flat_nv os, ?_⟩
          rw [inV_nat]
          exact hz
      · intro H1 s1 hD
        rw [nv_length] at hD
        refine ⟨D, _, rfl, SqL.of hD, ?_⟩
        rw [all_nat (p := fun x => Km344.isLetter x || os.contains x)]
        have := k H1 s1
        unfold textOk at this
        rw [decide_eq_true hl, Bool.true_and] at this
        exact this
    · rw [decide_eq_false (show ¬ (ns.length : Int) ≤ 4096 by omega)]
      refine iteF ?_
      have := k H (Same.refl H)
      unfold textOk at this
      rw [decide_eq_false hl, Bool.false_and] at this
      exact this
end
end Fc

set_option Elab.async false
set_option linter.all false
set_option maxRecDepth 100000
set_option maxHeartbeats 4000000
/-! session.py: fp_start, fp_cells, fp_text, fp_open -/
namespace Fc
open PySem PySem.Spec PyProof.Rows L2 FcR
def iv (l : List Int) : List V := l.map V.int
theorem iv_nums (l : List Nat) : iv (Km344Neutral.nums l) = nv l := by
  unfold iv nv Km344Neutral.nums
  rw [List.map_map]
  rfl
/-- what a call ends in: a new list of numbers, the object's new state, all else as it was -/
def Ends (K : PySem.W.Frag) (c : CAs) (S z : Addr) (H : Hp) (Q : VK) (r : Km344Neutral.S × List Int) : Prop := ∀ (H' : Hp) (p : Addr), Keep [S] H H' → SessAt K c H' S z r.1 → H p = none → H' p = some (.lst (iv r.2)) → Q (.ref p) H'
def stStart (s : Km344Neutral.S) (t : Km344.Table) (W : Nat) : Km344Neutral.S × List Int :=
  if t.length < 94 ∨ 512 < t.length ∨ W < 20 ∨ 48 < W ∨ t.good = false then (s, [-22]) else if t.sure = false then (s, [-61]) else (some ⟨t, W, [], []⟩, [0])
def stCells (a : Km344.Abs) (x : List Nat) : Km344Neutral.S × List Int := (some a, if 4096 < x.length ∨ x.all (fun c => Km344.isLetter c || c == 32) = false then [-22] else ((Km344.spell a.table x).length : Int) :: Km344Neutral.nums (Km344.spell a.table x))
def stText (a : Km344.Abs) (x : List Nat) : Km344Neutral.S × List Int := (some a, if 24576 < x.length ∨ x.all (fun c => decide (c ≤ 63)) = false then [-22] else match Km344.readBack a.table x with
  | none => [-13]
  | some l => if 4096 < l.length then [-28] else (l.length : Int) :: Km344Neutral.nums l)
def stOpen (a : Km344.Abs) (x : List Nat) : Km344Neutral.S × List Int := if 4096 < x.length ∨ x.all (fun c => Km344.isLetter c || (c == 32 || c == 10)) = false then (some a, [-22]) else
  (some { a with text := x, lines := Km344.lay a.table a.width x }, [((Km344.lay a.table a.width x).length : Int)])
theorem textOk1 (x : List Nat) : textOk x [32] = !decide (4096 < x.length ∨ x.all (fun c => Km344.isLetter c || c == 32) = false) := by
  have e : (fun c => Km344.isLetter c || ([32] : List Nat).contains c) = fun c => Km344.isLetter c || c == 32 := by
    funext c
    rw [List.contains_cons, List.contains_nil, Bool.or_false]
  unfold textOk
  rw [e]
  cases h : x.all (fun c => Km344.isLetter c || c == 32) <;> by_cases h2 : x.length ≤ 4096
  · simp [h2]
  · simp [h2]
  · rw [decide_eq_true h2, decide_eq_false (show ¬ (4096 < x.length ∨ true = false) by rintro (z | z); omega; cases z)]
    rfl
  · rw [decide_eq_false h2, decide_eq_true (show 4096 < x.length ∨ true = false by left; omega)]
    rfl
theorem textOk2 (x : List Nat) : textOk x [32, 10] = !decide (4096 < x.length ∨ x.all (fun c => Km344.isLetter c || (c == 32 || c == 10)) = false) := by
  have e : (fun c => Km344.isLetter c || ([32, 10] : List Nat).contains c) = fun c => Km344.isLetter c || (c == 32 || c == 10) := by
    funext c
    rw [List.contains_cons, List.contains_cons, List.contains_nil, Bool.or_false]
  unfold textOk
  rw [e]
  cases h : x.all (fun c => Km344.isLetter c || (c == 32 || c == 10)) <;> by_cases h2 : x.length ≤ 4096
  · simp [h2]
  · simp [h2]
  · rw [decide_eq_true h2, decide_eq_false (show ¬ (4096 < x.length ∨ true = false) by rintro (z | z); omega; cases z)]
    rfl
  · rw [decide_eq_false h2, decide_eq_true (show 4096 < x.length ∨ true = false by left; omega)]
    rfl
theorem LaidAt.but {C CS : Addr} {H H' : Hp} {S q : Addr} {x : Rec} {dx : Addr} {u v w : V} (h : LaidAt C H q x) (hS : H S = some (.ins CS dx (sesF u v w))) (nl : ∀ b o, H b = some o → b ≠ S → H' b = some o) : LaidAt C H' q x := by
  obtain ⟨dq, q1, q2, h1, h2, h3⟩ := h
  have nS : ∀ {b : Addr} {o : HO}, H b = some o → (∀ C d f, o ≠ .ins C d f) → b ≠ S := fun eb hn e => by rw [e, hS] at eb; exact hn _ _ _ (Option.some.inj eb).symm
  refine ⟨dq, q1, q2, nl _ _ h1 (fun e => ?_), nl _ _ h2 (nS h2 (fun _ _ _ z => by cases z)), nl _ _ h3 (nS h3 (fun _ _ _ z => by cases z))⟩
  rw [e, hS] at h1
  have := Option.some.inj h1
  injection this with e1 e2 e3
  have e4 : List.lookup ("table" : Str) (sesF u v w) = List.lookup ("table" : Str) (laidF x.1 q1 x.2.2 q2) := by rw [e3]
  rw [sesF_table] at e4
  have e5 : (laidF x.1 q1 x.2.2 q2).lookup ("table" : Str) = none := (lk_past (by decide +kernel)).trans ((lk_past (by decide +kernel)).trans ((lk_past (by decide +kernel)).trans ((lk_past (by decide +kernel)).trans rfl)))
  rw [e5] at e4
  cases e4
theorem LinesAt.but {C CS : Addr} {H H' : Hp} {S LA : Addr} {as : List Addr} {ls : List (List Rec)} {dx : Addr} {u v w : V} (h : LinesAt C H LA as ls) (hS : H S = some (.ins CS dx (sesF u v w))) (nl : ∀ b o, H b = some o → b ≠ S → H' b = some o) : LinesAt C H' LA as ls := by
  have nS : ∀ {b : Addr} {xs : List V}, H b = some (.lst xs) → b ≠ S := fun eb e => by rw [e, hS] at eb; cases eb
  refine ⟨nl _ _ h.lst (nS h.lst), Paired.mapP h.all fun a l ⟨qs, g1, g2⟩ => ⟨qs, nl _ _ g1 (nS g1), Paired.mapP g2 fun _ _ z => z.but hS nl⟩, h.nd, h.out⟩
theorem SpotsAt.but {CS : Addr} {H H' : Hp} {S sp : Addr} {n : Nat} {ls : List (List Rec)} {dx : Addr} {u v w : V} (h : SpotsAt H sp n ls) (hS : H S = some (.ins CS dx (sesF u v w))) (nl : ∀ b o, H b = some o → b ≠ S → H' b = some o) : SpotsAt H' sp n ls := by
  have nS : ∀ {b : Addr} {o : HO}, H b = some o → (∀ C d f, o ≠ .ins C d f) → b ≠ S := fun eb hn e => by rw [e, hS] at eb; exact hn _ _ _ (Option.some.inj eb).symm
  obtain ⟨xs, x1, x2, x3⟩ := h
  refine ⟨xs, nl _ _ x1 (nS x1 (fun _ _ _ z => by cases z)), x2, fun i hi => ?_⟩
  rcases x3 i hi with h | ⟨q, k', c', e1, e2, e3⟩
  · exact .inl h
  · exact .inr ⟨q, k', c', e1, nl _ _ e2 (nS e2 (fun _ _ _ z => by cases z)), e3⟩
theorem BookAt.but {CB CL CS : Addr} {H H' : Hp} {S B a : Addr} {n : Nat} {ls : List (List Rec)} {F : Addr → Prop} {dx : Addr} {u v w : V} (h : BookAt CB CL H B a n ls F) (hS : H S = some (.ins CS dx (sesF u v w))) (nl : ∀ b o, H b = some o → b ≠ S → H' b = some o) (hB : B ≠ S) : BookAt CB CL H' B a n ls F := by
  obtain ⟨dx, LA, as, sp, h1, h2, h3, h4⟩ := h
  exact ⟨dx, LA, as, sp, nl _ _ h1 hB, h2.but hS nl, SpotsAt.but h3 hS nl, h4⟩
section
variable {P : Program} {w : World} {K : PySem.W.Frag} {mg : Str → Option Value} {base : Heap} {c : CAs}
theorem sess_keep {H H' : Hp} {S z : Addr} {s : Km344Neutral.S} (h : SessAt K c H S z s) (sm : Same H H') : Keep [S] H H' ∧ SessAt K c H' S z s := ⟨Keep.of sm, h.same sm⟩
/-- a call that changes nothing and gives a written list of one number -/
theorem ends_one {S z : Addr} {H H1 : Hp} {Q : VK} {s : Km344Neutral.S} {i : Int} (h : SessAt K c H S z s) (sm : Same H H1) (k : Ends K c S z H Q (s, [i])) : ∀ p, H1 p = none → Q (.ref p) (upd H1 p (.lst [.int i])) := fun p np =>
  k _ p (Keep.of (sm.trans (Same.upd_new np))) (h.same (sm.trans (Same.upd_new np))) (sm.free np) upd_same

/-! ### fp_start -/
def spStart (K : PySem.W.Frag) (c : CAs) : Sp := fun vs H Q _ => ∃ (S a z : Addr) (W : Nat) (t : Km344.Table) (s : Km344Neutral.S), vs = [.ref S, vn W, .ref a] ∧ SessAt K c H S z s ∧ (∃ o, H z = some o) ∧ SqL K H a (nv (enc t)) ∧ (enc t).length ≤ 30000 ∧ Ends K c S z H Q (stStart s t W)
theorem scSt : FnScope ["self", "width", "numbers", "entries"] ["self", "width", "numbers"] (defScope sStart) := ⟨rfl, rfl, rfl, by decide +kernel, rfl, by decide +kernel, by decide +kernel⟩
theorem enc_few (t : Km344.Table) : t.length ≤ (enc t).length := by
  induction t with
  | nil => exact Nat.le_refl _
  | cons e t ih =>
    show t.length + 1 ≤ (enc1 e ++ enc t).length
    rw [List.length_append]
    show t.length + 1 ≤ (e.text ++ e.cells.length :: e.cells).length + 1 + (enc t).length
    omega
theorem ok_start {f fE fI fS fT fN : Addr} {fd fdE fdI fdS fdT fdN : FuncData} (F : Fun K "fp_start" "Session.fp_start" sStart f fd)
    (FE : FnOk P w K mg base CX0 1 fE fdE ["numbers"] (spEntriesOf K)) (kE : PySem.W.keepIn K (.ref fE) = true) (bE : Binds K fdE ["numbers"] []) (gE : mg "entries_of" = some (.ref fE))
    (FI : FnOk P w K mg base CX0 3 fI fdI ["entries"] spIsTable) (kI : PySem.W.keepIn K (.ref fI) = true) (bI : Binds K fdI ["entries"] []) (gI : mg "is_table" = some (.ref fI))
    (FS : FnOk P w K mg base CX0 2 fS fdS ["entries"] spSure) (kS : PySem.W.keepIn K (.ref fS) = true) (bS : Binds K fdS ["entries"] []) (gS : mg "is_sure" = some (.ref fS))
    (MT : Mk K c.CT fT) (FT : FnOk P w K mg base CX0 1 fT fdT ["self", "entries"] (spTableInit K c.CT)) (bT : Binds K fdT ["self", "entries"] []) (gT : mg "Table" = some (.ref c.CT))
    (FN : FnOk P w K mg base CX0 4 fN fdN [] (spNoBook c.CB c.CL)) (kN : PySem.W.keepIn K (.ref fN) = true) (bN : Binds K fdN [] []) (gN : mg "no_book" = some (.ref fN))
    (TS : TxtS K c.CS) (g1 : Num mg "LEAST_WIDTH" 20) (g2 : Num mg "MOST_WIDTH" 48) (g3 : Num mg "NOT_VALID" 22) (g4 : Num mg "NOT_SURE" 61) : FnOk P w K mg base CX0 5 f fd ["self", "width", "numbers"] (spStart K c) := by
  refine F.ok scSt (fun vs H Q E h => ?_) (fun cdv A outer s0 H vs Q E hr h => ?_)
  · obtain ⟨S, a, z, W, t, s, rfl, _⟩ := h
    rfl
  · obtain ⟨S, a, z, W, t, s, rfl, hS, hz, ha, hlen, k⟩ := h
    have hr1 : Room 1 _ := hr.mono (by decide)
    have hr3 : Room 3 _ := hr.mono (by decide)
    have hr2 : Room 2 _ := hr.mono (by decide)
    refine ⟨_, pss_cons (ps_set (i := 3) scSt.nd rfl (.inl rfl) (pe_call FE hr1 (by rfl) gE kE bE .nil pass0 (pa_cons (pv 2) pa_nil)))
      (pss_cons (ps_if (PW.pt (pw_or (pt_not (pt_chain op_le op_le (pe_num g1) (pv 1) (pe_num g2))) (pw_or1 (pt_not (pt_val (pe_call FI hr3 (by rfl) gI kI bI .nil pass0 (pa_cons (pv 3) pa_nil))))))) (pss_one (ps_ret (pe_lst (pa_cons (pe_un un_neg (pe_num g3)) pa_nil)))) pss_nil)
      (pss_cons (ps_if (pt_not (pt_val (pe_call FS hr2 (by rfl) gS kS bS .nil pass0 (pa_cons (pv 3) pa_nil)))) (pss_one (ps_ret (pe_lst (pa_cons (pe_un un_neg (pe_num g4)) pa_nil)))) pss_nil)
      (pss_cons (ps_fld (pv 0) (pe_make MT FT hr2 (by rfl) gT bT .nil pass0 (pa_cons (pv 3) pa_nil)) rfl)
      (pss_cons (ps_fld (pv 0) (pv 1) rfl)
      (pss_cons (ps_fld (pv 0) (pe_call0 FN hr (by rfl) gN kN bN .nil pass0) rfl)
      (pss_one (ps_ret (pe_lst (pa_cons pe_int pa_nil))))))))), ?_⟩
    have htl := enc_few t
    refine ⟨_, rfl, a, t, rfl, ha, hlen, fun H1 p qs s1 np hp he => ?_⟩
    -- what is refused
    have bad : (t.length < 94 ∨ 512 < t.length ∨ W < 20 ∨ 48 < W ∨ t.good = false) → ∀ H2, Same H H2 → ∀ p, H2 p = none → Q (.ref p) (upd H2 p (.lst [.int (-22)])) := fun hb H2 sm => by
      refine ends_one hS sm ?_
      have e : stStart s t W = (s, [-22]) := if_pos hb
      rw [← e]
      exact k
    refine ⟨_, rfl, _, _, rfl, rfl, _, rfl, ?_⟩
    by_cases w1 : 20 ≤ W
    case neg =>
      rw [decide_eq_false (show ¬ (20 : Int) ≤ (W : Int) by omega)]
      exact iteF ⟨_, rfl, iteT (iteT ⟨_, rfl, by show 1 ≤ sizeLine; decide, fun p2 np2 => bad (by omega) _ s1 p2 np2⟩)⟩
    rw [decide_eq_true (show (20 : Int) ≤ (W : Int) by omega)]
    refine iteT ⟨_, _, rfl, rfl, _, rfl, ?_⟩
    by_cases w2 : W ≤ 48
    case neg =>
      rw [decide_eq_false (show ¬ (W : Int) ≤ 48 by omega)]
      exact iteT (iteT ⟨_, rfl, by show 1 ≤ sizeLine; decide, fun p2 np2 => bad (by omega) _ s1 p2 np2⟩)
    rw [decide_eq_true (show (W : Int) ≤ 48 by omega)]
    refine iteF ⟨_, rfl, p, qs, t, rfl, hp, he, by omega, fun H2 s2 => ⟨_, rfl, ?_⟩⟩
    by_cases hg : (decide (94 ≤ t.length) && t.good) = true
    case neg =>
      rw [Bool.not_eq_true] at hg
      rw [hg]
      refine iteT ⟨_, rfl, by show 1 ≤ sizeLine; decide, fun p2 np2 => bad ?_ _ (s1.trans s2) p2 np2⟩
      rw [Bool.and_eq_false_iff, decide_eq_false_iff_not] at hg
      rcases hg with hg | hg
      · left
        omega
      · exact .inr (.inr (.inr (.inr hg)))
    rw [hg]
    rw [Bool.and_eq_true, decide_eq_true_eq] at hg
    have h512 := (tabGood_iff.mp hg.2).1
    have hno : ¬ (t.length < 94 ∨ 512 < t.length ∨ W < 20 ∨ 48 < W ∨ t.good = false) := by
      rintro (z | z | z | z | z)
      · omega
      · omega
      · omega
      · omega
      · rw [hg.2] at z
        cases z
    have hp2 := s2 _ _ hp
    have he2 := he.keep fun b xs e => s2 b _ e
    refine iteF ⟨_, rfl, p, qs, t, rfl, hp2, he2, hg.2, fun H3 s3 => ⟨_, rfl, ?_⟩⟩
    have s13 := (s1.trans s2).trans s3
    by_cases hs : t.sure = true
    case neg =>
      rw [Bool.not_eq_true] at hs
      rw [hs]
      refine iteT ⟨_, rfl, by show 1 ≤ sizeLine; decide, ends_one hS s13 ?_⟩
      have e : stStart s t W = (s, [-61]) := (if_neg hno).trans (if_pos hs)
      rw [← e]
      exact k
    rw [hs]
    refine iteF ?_
    have e : stStart s t W = (some ⟨t, W, [], []⟩, [0]) := (if_neg hno).trans (if_neg (by rw [hs]; exact fun z => by cases z))
    rw [e] at k
    have T := Tab.of hg.2
    have hnc : (t.map Km344.Entry.cells).Nodup := ((sure_codes (fun e he => (good_iff.mp (T.good e he)).2.2.2.1) T.nodup).mp hs).1
    -- self.table = Table(entries)
    refine ⟨_, rfl, ?_⟩
    intro tb dxt ntb ndt net
    refine ⟨tb, dxt, p, qs, t, rfl, upd_same, ?_, ?_, T.texts, hnc, by omega, fun H4 ht4 kp4 => ⟨rfl, ?_⟩⟩
    · have sx : Same H3 (upd (upd H3 dxt (.own tb)) tb (.ins c.CT dxt [])) := fun b o eb => by
        rw [upd_ne (ne_of_none eb ntb), upd_ne (ne_of_none eb ndt)]
        exact eb
      exact sx _ _ (s3 _ _ hp2)
    · have sx : Same H3 (upd (upd H3 dxt (.own tb)) tb (.ins c.CT dxt [])) := fun b o eb => by
        rw [upd_ne (ne_of_none eb ntb), upd_ne (ne_of_none eb ndt)]
        exact eb
      exact he2.keep fun b xs eb => sx _ _ (s3 _ _ eb)
    have s4 : Same H3 H4 := Same.made ntb ndt fun b o eb hb => kp4 b o eb (by simpa using hb)
    have s14 := s13.trans s4
    obtain ⟨dx, fs, hSi, hfs⟩ : ∃ dx fs, H S = some (.ins c.CS dx fs) ∧ ∃ x y z, fs = sesF x y z := by
      cases s with
      | none =>
        obtain ⟨dx, bk, h⟩ := hS
        exact ⟨dx, _, h, _, _, _, rfl⟩
      | some a =>
        obtain ⟨dx, tb, bk, h, _⟩ := hS
        exact ⟨dx, _, h, _, _, _, rfl⟩
    obtain ⟨x, y, z', rfl⟩ := hfs
    have hS4 := s14 _ _ hSi
    refine ⟨_, rfl, S, c.CS, dx, _, rfl, hS4, TS.cl, TS.nT, (by show 3 < 1000; decide), ?_⟩
    rw [sesF_put1]
    refine ⟨_, rfl, _, rfl, S, c.CS, dx, _, rfl, upd_same, TS.cl, TS.nW, (by show 3 < 1000; decide), ?_⟩
    rw [sesF_put2]
    have hzw : ∀ x, (upd (upd H4 S (.ins c.CS dx (sesF (.ref tb) y z'))) S (.ins c.CS dx (sesF (.ref tb) (vn W) z'))) x = none → x ≠ z := fun x hx e => by
      rw [e] at hx
      obtain ⟨o, ho⟩ := hz
      by_cases ez : z = S
      · rw [ez, upd_same] at hx
        cases hx
      · rw [upd_ne ez, upd_ne ez, s14 _ _ ho] at hx
        cases hx
    refine ⟨rfl, fun H5 B ta s5 nB nta hta hB => ?_⟩
    have hS5 := s5 _ _ (upd_same (H := upd H4 S (.ins c.CS dx (sesF (.ref tb) y z'))) (a := S) (o := .ins c.CS dx (sesF (.ref tb) (vn W) z')))
    refine ⟨_, rfl, S, c.CS, dx, _, rfl, hS5, TS.cl, TS.nB, (by show 3 < 1000; decide), ?_⟩
    rw [sesF_put3]
    refine ⟨by show 1 ≤ sizeLine; decide, fun p5 np5 => ?_⟩
    have k5 : Keep [S] H (upd H5 S (.ins c.CS dx (sesF (.ref tb) (vn W) (.ref B)))) :=
      Keep.upd (Keep.trans (Keep.upd (Keep.upd (Keep.of s14) (.inl (by simp))) (.inl (by simp))) (Keep.of s5)) (.inl (by simp))
    have p5S : p5 ≠ S := fun e => by rw [e, upd_same] at np5; cases np5
    have np55 : H5 p5 = none := by
      rw [upd_ne p5S] at np5
      exact np5
    have np5H : H p5 = none := by
      have := s5.free np55
      rw [upd_ne p5S, upd_ne p5S] at this
      exact s14.free this
    refine k _ p5 (Keep.upd k5 (.inr np5H)) ?_ np5H upd_same
    have nl5 : ∀ b o, H5 b = some o → b ≠ S → (upd (upd H5 S (.ins c.CS dx (sesF (.ref tb) (vn W) (.ref B)))) p5 (.lst [.int 0])) b = some o := fun b o eb hb => by
      rw [upd_ne (fun e => by rw [← e, eb] at np55; cases np55), upd_ne hb]
      exact eb
    have nl : ∀ b o, H4 b = some o → b ≠ S → (upd (upd H5 S (.ins c.CS dx (sesF (.ref tb) (vn W) (.ref B)))) p5 (.lst [.int 0])) b = some o := fun b o eb hb => nl5 b o (s5 _ _ (by rw [upd_ne hb, upd_ne hb]; exact eb)) hb
    have ht5 : TableAt c.CT (upd (upd H5 S (.ins c.CS dx (sesF (.ref tb) (vn W) (.ref B)))) p5 (.lst [.int 0])) tb t := by
      have tbS : tb ≠ S := fun e => by rw [e, s13 _ _ hSi] at ntb; cases ntb
      obtain ⟨dxt, d1, d2, a1, ⟨kv1, a2, a3⟩, ⟨kv2, a4, a5⟩⟩ := ht4
      have nS : ∀ {b : Addr} {o : HO}, H4 b = some o → (∀ C d f, o ≠ .ins C d f) → b ≠ S := fun eb hn e => by rw [e, hS4] at eb; exact hn _ _ _ (Option.some.inj eb).symm
      refine ⟨dxt, d1, d2, nl _ _ a1 tbS, ⟨kv1, nl _ _ a2 (nS a2 (fun _ _ _ z => by cases z)), fun key => ?_⟩, ⟨kv2, nl _ _ a4 (nS a4 (fun _ _ _ z => by cases z)), fun key => ?_⟩⟩
      · exact (a3 key).imp id fun ⟨q, v, h1, h2, h3⟩ => ⟨q, v, h1, h2, nl _ _ h3 (nS h3 (fun _ _ _ z => by cases z))⟩
      · exact (a5 key).imp id fun ⟨q, v, h1, h2, h3⟩ => ⟨q, v, h1, h2, nl _ _ h3 (nS h3 (fun _ _ _ z => by cases z))⟩
    have BS : B ≠ S := fun e => by rw [e, upd_same] at nB; cases nB
    have taS : ta ≠ S := ne_of hta hS5 (fun z => by cases z)
    exact ⟨dx, tb, .ref B, by rw [upd_ne p5S.symm]; exact upd_same, ht5, hg.2, hs, w1, w2, B, ta, [], rfl, SqL.of (nl5 _ _ hta taS), Nat.zero_le _, Nat.zero_le _, Bk.blank, fun l hl => (by cases hl), (hB.but hS5 nl5 BS).mono hzw, hzw ta nta⟩

/-! ### fp_cells -/
def spFpCells (K : PySem.W.Frag) (c : CAs) : Sp := fun vs H Q _ => ∃ (S a z : Addr) (x : List Nat) (s : Km344.Abs), vs = [.ref S, .ref a] ∧ SessAt K c H S z (some s) ∧ SqL K H a (nv x) ∧ x.length ≤ 30000 ∧ Ends K c S z H Q (stCells s x)
theorem scFC : FnScope ["self", "text", "cells"] ["self", "text"] (defScope sFpCells) := ⟨rfl, rfl, rfl, by decide +kernel, rfl, by decide +kernel, by decide +kernel⟩
/-- [len(l)] + l -/
theorem ends_list {S z : Addr} {H H1 : Hp} {Q : VK} {s : Km344Neutral.S} {l : List Nat} {p1 p2 : Addr} (h : SessAt K c H S z s) (sm : Same H H1) (hz : l.length ≤ 1000000) (h1 : H1 p1 = some (.lst [.int (l.length : Int)])) (h2 : H1 p2 = some (.lst (nv l)))
    (k : Ends K c S z H Q (s, (l.length : Int) :: Km344Neutral.nums l)) : rCat (.ref p1) (.ref p2) H1 Q :=
  ⟨p1, p2, _, _, rfl, rfl, h1, h2, (by rw [nv_length]; exact Nat.le_of_lt (big _ (by show 1 + l.length ≤ 10000000; omega))), fun p np =>
    k _ p (Keep.of (sm.trans (Same.upd_new np))) (h.same (sm.trans (Same.upd_new np))) (sm.free np) (by
      rw [upd_same]
      show some (HO.lst ([V.int (l.length : Int)] ++ nv l)) = some (HO.lst (V.int (l.length : Int) :: iv (Km344Neutral.nums l)))
      rw [iv_nums]
      rfl)⟩
theorem spell_few {t : Km344.Table} (T : Tab t) {x : List Nat} (hx : ∀ y ∈ x, Km344.isLetter y = true ∨ y = 32) : (Km344.spell t x).length ≤ 6 * (x.length + 1) := by
  have h1 := joined_few (b := 0) (k := 6) (by decide) (f := Km344.cellsOf t) (Km344.parts 32 x) fun p hp => by
    have hl : ∀ y ∈ p, Km344.isLetter y = true := fun y hy => by
      have := mem_parts x p hp y hy
      exact (hx y this.1).resolve_right this.2
    have e := row_entries T hl
    have := cells_few T _ e.2.2.1
    rw [e.2.2.2] at this
    exact this
  rw [parts_length] at h1
  exact h1
theorem ok_fpCells {f fX fC : Addr} {fd fdX fdC : FuncData} (F : Fun K "fp_cells" "Session.fp_cells" sFpCells f fd)
    (FX : FnOk P w K mg base CX0 2 fX fdX ["text", "others"] (spIsText K)) (kX : PySem.W.keepIn K (.ref fX) = true) (bX : Binds K fdX ["text", "others"] []) (gX : mg "is_text" = some (.ref fX))
    (FC : FnOk P w K mg base CX0 4 fC fdC ["text", "table"] (spCellsOf K c.CT)) (kC : PySem.W.keepIn K (.ref fC) = true) (bC : Binds K fdC ["text", "table"] []) (gC : mg "cells_of_text" = some (.ref fC))
    (TS : TxtS K c.CS) (b1 : mg "len" = none) (g1 : Num mg "BLANK" 32) (g2 : Num mg "NOT_VALID" 22) : FnOk P w K mg base CX0 5 f fd ["self", "text"] (spFpCells K c) := by
  refine F.ok scFC (fun vs H Q E h => ?_) (fun cdv A outer s0 H vs Q E hr h => ?_)
  · obtain ⟨S, a, z, x, s, rfl, _⟩ := h
    rfl
  · obtain ⟨S, a, z, x, s, rfl, hS, ha, hlen, k⟩ := h
    have hr2 : Room 2 _ := hr.mono (by decide)
    refine ⟨_, pss_cons (ps_if (pt_not (pt_val (pe_call FX hr2 (by rfl) gX kX bX .nil pass0 (pa_cons (pv 1) (pa_cons (pe_tup (pa_cons (pe_num g1) pa_nil)) pa_nil))))) (pss_one (ps_ret (pe_lst (pa_cons (pe_un un_neg (pe_num g2)) pa_nil)))) pss_nil)
      (pss_cons (ps_set (i := 2) scFC.nd rfl (.inl rfl) (pe_call FC hr (by rfl) gC kC bC .nil pass0 (pa_cons (pv 1) (pa_cons (pe_fld (pv 0) rfl) pa_nil))))
      (pss_one (ps_ret (pe_op op_cat (pe_lst (pa_cons (pe_callB call_len_seq (by rfl) b1 PySem.boot_len (pa_cons (pv 2) pa_nil)) pa_nil)) (pv 2))))), ?_⟩
    refine ⟨_, rfl, (by show 1 ≤ sizeLine; decide), fun o no => ?_⟩
    have s1 := Same.upd_new (o := .tup [.int 32]) no
    refine ⟨a, o, x, [32], rfl, s1.seq ha, upd_same, hlen, fun H2 s2 => ⟨_, rfl, ?_⟩⟩
    have s12 := s1.trans s2
    rw [textOk1]
    by_cases hb : 4096 < x.length ∨ x.all (fun c => Km344.isLetter c || c == 32) = false
    · rw [decide_eq_true hb]
      refine iteT ⟨_, rfl, (by show 1 ≤ sizeLine; decide), ends_one hS s12 ?_⟩
      have e : stCells s x = (some s, [-22]) := by
        unfold stCells
        rw [if_pos hb]
      rw [← e]
      exact k
    · rw [decide_eq_false hb]
      have e : stCells s x = (some s, ((Km344.spell s.table x).length : Int) :: Km344Neutral.nums (Km344.spell s.table x)) := by
        unfold stCells
        rw [if_neg hb]
      rw [e] at k
      have hall : ∀ y ∈ x, Km344.isLetter y = true ∨ y = 32 := fun y hy => by
        have h : x.all (fun c => Km344.isLetter c || c == 32) = true := by
          cases z : x.all (fun c => Km344.isLetter c || c == 32) with
          | true => rfl
          | false => exact absurd (.inr z) hb
        have := List.all_eq_true.mp h y hy
        rw [Bool.or_eq_true, beq_iff_eq] at this
        exact this
      obtain ⟨dx, tb, bk, h1, h2, h3, h4, h5, h6, h7⟩ := hS.same s12
      have T := Tab.of h3
      refine iteF ⟨_, rfl, _, rfl, S, c.CS, dx, _, _, rfl, h1, TS.cl, TS.nT, sesF_table _ _ _, a, tb, x, s.table, rfl, .inl (s12.seq ha), h2, T, hall, hlen, fun H3 p s3 np hp => ?_⟩
      have hfew := spell_few T hall
      refine ⟨_, rfl, p, _, rfl, .inl (SqL.of hp), (by show 1 ≤ sizeLine; decide), fun p2 np2 => ⟨_, rfl, ?_⟩⟩
      rw [nv_length]
      refine ends_list hS ((s12.trans s3).trans (Same.upd_new np2)) (by omega) upd_same (by rw [upd_ne (ne_of_none hp np2)]; exact hp) k

/-! ### fp_text -/
def spFpText (K : PySem.W.Frag) (c : CAs) : Sp := fun vs H Q _ => ∃ (S a z : Addr) (x : List Nat) (s : Km344.Abs), vs = [.ref S, .ref a] ∧ SessAt K c H S z (some s) ∧ SqL K H a (nv x) ∧ x.length ≤ 30000 ∧ Ends K c S z H Q (stText s x)
theorem scFT : FnScope ["self", "cells", "text", "cell"] ["self", "cells"] (defScope sFpText) := ⟨rfl, rfl, rfl, by decide +kernel, rfl, by decide +kernel, by decide +kernel⟩
theorem ok_fpText {f fC : Addr} {fd fdC : FuncData} (F : Fun K "fp_text" "Session.fp_text" sFpText f fd)
    (FC : FnOk P w K mg base CX0 3 fC fdC ["cells", "table"] (spTextOf K c.CT)) (kC : PySem.W.keepIn K (.ref fC) = true) (bC : Binds K fdC ["cells", "table"] []) (gC : mg "text_of_cells" = some (.ref fC))
    (TS : TxtS K c.CS) (b1 : mg "len" = none) (b2 : mg "all" = none) (g1 : Num mg "MOST_CELLS_READ" 24576) (g2 : Num mg "LAST_CELL" 63) (g3 : Num mg "NOT_VALID" 22) (g4 : Num mg "NO_ROW" 13) (g5 : Num mg "MOST_TEXT" 4096) (g6 : Num mg "TOO_LONG" 28) :
    FnOk P w K mg base CX0 4 f fd ["self", "cells"] (spFpText K c) := by
  refine F.ok scFT (fun vs H Q E h => ?_) (fun cdv A outer s0 H vs Q E hr h => ?_)
  · obtain ⟨S, a, z, x, s, rfl, _⟩ := h
    rfl
  · obtain ⟨S, a, z, x, s, rfl, hS, ha, hlen, k⟩ := h
    refine ⟨_, pss_cons (ps_if (PW.pt (pw_or (pt_cmpR op_gt (pe_callB call_len_seq (by rfl) b1 PySem.boot_len (pa_cons (pv 1) pa_nil)) (pe_num g1) (nomark _))
          (pw_or1 (pt_not (pt_val (pe_callB (cr_all rfl) (by rfl) b2 (by decide +kernel) (pa_cons (pe_lc (own := [("cell", 3)]) (g := gName 3) (tt := tYes) rfl scFT.nd (pi_list (pv 1)) (blkOk_by (N := ["self", "cells", "text", "cell"]) (sc := defScope sFpText) (by decide +kernel)) (fun _ _ _ _ _ => pg_name (i := 3) scFT.nd rfl (Or.inl rfl)) (fun _ _ _ _ _ => pts_nil)
            (fun _ _ _ _ _ => pe_cmpR op_le (pv 3) (pe_num g2) (nomark _))) pa_nil))))))) (pss_one (ps_ret (pe_lst (pa_cons (pe_un un_neg (pe_num g3)) pa_nil)))) pss_nil)
      (pss_cons (ps_set (i := 2) scFT.nd rfl (.inl rfl) (pe_call FC hr (by rfl) gC kC bC .nil pass0 (pa_cons (pv 1) (pa_cons (pe_fld (pv 0) rfl) pa_nil))))
      (pss_cons (ps_if (pt_cmpR op_isN (pv 2) pe_non (nomark _)) (pss_one (ps_ret (pe_lst (pa_cons (pe_un un_neg (pe_num g4)) pa_nil)))) pss_nil)
      (pss_cons (ps_if (pt_cmpR op_gt (pe_callB call_len_seq (by rfl) b1 PySem.boot_len (pa_cons (pv 2) pa_nil)) (pe_num g5) (nomark _)) (pss_one (ps_ret (pe_lst (pa_cons (pe_un un_neg (pe_num g6)) pa_nil)))) pss_nil)
      (pss_one (ps_ret (pe_op op_cat (pe_lst (pa_cons (pe_callB call_len_seq (by rfl) b1 PySem.boot_len (pa_cons (pv 2) pa_nil)) pa_nil)) (pv 2))))))), ?_⟩
    refine ⟨_, rfl, a, _, rfl, .inl ha, _, _, rfl, rfl, _, rfl, ?_⟩
    rw [nv_length]
    have bad : (24576 < x.length ∨ x.all (fun c => decide (c ≤ 63)) = false) → ∀ H2, Same H H2 → ∀ p, H2 p = none → Q (.ref p) (upd H2 p (.lst [.int (-22)])) := fun hb H2 sm => by
      refine ends_one hS sm ?_
      have e : stText s x = (some s, [-22]) := by
        unfold stText
        rw [if_pos hb]
      rw [← e]
      exact k
    by_cases hl : 24576 < x.length
    · rw [decide_eq_true (show (24576 : Int) < (x.length : Int) by omega)]
      exact iteT (iteT ⟨_, rfl, (by show 1 ≤ sizeLine; decide), bad (.inl hl) H (Same.refl H)⟩)
    rw [decide_eq_false (show ¬ (24576 : Int) < (x.length : Int) by omega)]
    refine iteF ⟨_, rfl, a, rfl, ⟨_, ha⟩, fun D nD => lc_bools (walk_list (xs := nv x)) nD (fun i => decide (x.getD i 0 ≤ 63)) (by rw [nv_length]; omega) (fun H' s => s.seq ha) ?_ ?_ ?_⟩
    · rintro i H' y H'' _ _ ⟨rfl, _⟩
      exact Same.refl _
    · rintro i y H0 H' hi sm ⟨rfl, hx⟩ R hR
      obtain ⟨z, hz, rfl⟩ := nv_of hx
      have hz2 := hR _ (Same.refl _)
      rw [List.getD_eq_getElem?_getD, hz] at hz2
      have hz2 : R (.bl (decide (z ≤ 63))) H' := hz2
      refine ⟨_, rfl, _, _, rfl, rfl, ?_⟩
      have e2 : decide ((z : Int) ≤ 63) = decide (z ≤ 63) := decide_eq_decide.mpr (by omega)
      show R (.bl (decide ((z : Int) ≤ 63))) H'
      rw [e2]
      exact hz2
    intro H1 s1 hD
    rw [nv_length] at hD
    refine ⟨D, _, rfl, SqL.of hD, _, rfl, ?_⟩
    rw [all_nat (p := fun c => decide (c ≤ 63))]
    cases hall : x.all (fun c => decide (c ≤ 63)) with
    | false => exact iteT ⟨_, rfl, (by show 1 ≤ sizeLine; decide), bad (.inr hall) H1 s1⟩
    | true =>
      have hno : ¬ (24576 < x.length ∨ x.all (fun c => decide (c ≤ 63)) = false) := by
        rintro (z | z)
        · exact hl z
        · rw [hall] at z
          cases z
      have hS1 := hS.same s1
      obtain ⟨dx, tb, bk, h1, h2, h3, h4, h5, h6, h7⟩ := hS1
      have T := Tab.of h3
      refine iteF ⟨_, rfl, _, rfl, S, c.CS, dx, _, _, rfl, h1, TS.cl, TS.nT, sesF_table _ _ _, a, tb, x, s.table, rfl, .inl (s1.seq ha), h2, T, h4, hlen, fun hn H2 s2 => ?_, fun l hl2 H2 p s2 np hz hp => ?_⟩
      · refine ⟨_, rfl, rfl, _, rfl, iteT ⟨_, rfl, (by show 1 ≤ sizeLine; decide), ends_one hS (s1.trans s2) ?_⟩⟩
        have e : stText s x = (some s, [-13]) := by
          unfold stText
          rw [if_neg hno, hn]
        rw [← e]
        exact k
      · refine ⟨_, rfl, rfl, _, rfl, iteF ⟨_, rfl, p, _, rfl, .inl (SqL.of hp), _, _, rfl, rfl, _, rfl, ?_⟩⟩
        rw [nv_length]
        by_cases hlong : 4096 < l.length
        · rw [decide_eq_true (show (4096 : Int) < (l.length : Int) by omega)]
          refine iteT ⟨_, rfl, (by show 1 ≤ sizeLine; decide), ends_one hS (s1.trans s2) ?_⟩
          have e : stText s x = (some s, [-28]) := by
            unfold stText
            rw [if_neg hno, hl2]
            dsimp only
            rw [if_pos hlong]
          rw [← e]
          exact k
        · rw [decide_eq_false (show ¬ (4096 : Int) < (l.length : Int) by omega)]
          have e : stText s x = (some s, (l.length : Int) :: Km344Neutral.nums l) := by
            unfold stText
            rw [if_neg hno, hl2]
            dsimp only
            rw [if_neg hlong]
          rw [e] at k
          refine iteF ⟨_, rfl, p, _, rfl, .inl (SqL.of hp), (by show 1 ≤ sizeLine; decide), fun p2 np2 => ⟨_, rfl, ?_⟩⟩
          rw [nv_length]
          exact ends_list hS ((s1.trans s2).trans (Same.upd_new np2)) (by omega) upd_same (by rw [upd_ne (ne_of_none hp np2)]; exact hp) k

/-! ### fp_open -/
def spOpen (K : PySem.W.Frag) (c : CAs) : Sp := fun vs H Q _ => ∃ (S a z : Addr) (x : List Nat) (s : Km344.Abs), vs = [.ref S, .ref a] ∧ SessAt K c H S z (some s) ∧ (∃ o, H z = some o) ∧ SqL K H a (nv x) ∧ a ≠ S ∧ a ≠ z ∧ x.length ≤ 30000 ∧ Ends K c S z H Q (stOpen s x)
theorem scOp : FnScope ["self", "text"] ["self", "text"] (defScope sOpen) := ⟨rfl, rfl, rfl, by decide +kernel, rfl, by decide +kernel, by decide +kernel⟩
theorem ok_open {f fX fB : Addr} {fd fdX fdB : FuncData} (F : Fun K "fp_open" "Session.fp_open" sOpen f fd)
    (FX : FnOk P w K mg base CX0 2 fX fdX ["text", "others"] (spIsText K)) (kX : PySem.W.keepIn K (.ref fX) = true) (bX : Binds K fdX ["text", "others"] []) (gX : mg "is_text" = some (.ref fX))
    (FB : FnOk P w K mg base CX0 6 fB fdB ["text", "table", "width"] (spBookOf K c.CT c.CL c.CB)) (kB : PySem.W.keepIn K (.ref fB) = true) (bB : Binds K fdB ["text", "table", "width"] []) (gB : mg "book_of_text" = some (.ref fB))
    (TS : TxtS K c.CS) (TB : TxtB K c.CB) (b1 : mg "len" = none) (g1 : Num mg "BLANK" 32) (g2 : Num mg "LINE_END" 10) (g3 : Num mg "NOT_VALID" 22) : FnOk P w K mg base CX0 7 f fd ["self", "text"] (spOpen K c) := by
  refine F.ok scOp (fun vs H Q E h => ?_) (fun cdv A outer s0 H vs Q E hr h => ?_)
  · obtain ⟨S, a, z, x, s, rfl, _⟩ := h
    rfl
  · obtain ⟨S, a, z, x, s, rfl, hS, hz, ha, haS, haz, hlen, k⟩ := h
    have hr2 : Room 2 _ := hr.mono (by decide)
    refine ⟨_, pss_cons (ps_if (pt_not (pt_val (pe_call FX hr2 (by rfl) gX kX bX .nil pass0 (pa_cons (pv 1) (pa_cons (pe_tup (pa_cons (pe_num g1) (pa_cons (pe_num g2) pa_nil))) pa_nil))))) (pss_one (ps_ret (pe_lst (pa_cons (pe_un un_neg (pe_num g3)) pa_nil)))) pss_nil)
      (pss_cons (ps_fld (pv 0) (pe_call FB hr (by rfl) gB kB bB .nil pass0 (pa_cons (pv 1) (pa_cons (pe_fld (pv 0) rfl) (pa_cons (pe_fld (pv 0) rfl) pa_nil)))) rfl)
      (pss_one (ps_ret (pe_lst (pa_cons (pe_callB call_len_seq (by rfl) b1 PySem.boot_len (pa_cons (pe_fld (pe_fld (pv 0) rfl) rfl) pa_nil)) pa_nil))))), ?_⟩
    refine ⟨_, rfl, (by show 2 ≤ sizeLine; decide), fun o no => ?_⟩
    have s1 := Same.upd_new (o := .tup [.int 32, .int 10]) no
    refine ⟨a, o, x, [32, 10], rfl, s1.seq ha, upd_same, hlen, fun H2 s2 => ⟨_, rfl, ?_⟩⟩
    have s12 := s1.trans s2
    rw [textOk2]
    by_cases hb : 4096 < x.length ∨ x.all (fun c => Km344.isLetter c || (c == 32 || c == 10)) = false
    · rw [decide_eq_true hb]
      refine iteT ⟨_, rfl, (by show 1 ≤ sizeLine; decide), ends_one hS s12 ?_⟩
      have e : stOpen s x = (some s, [-22]) := by
        unfold stOpen
        rw [if_pos hb]
      rw [← e]
      exact k
    · rw [decide_eq_false hb]
      have e : stOpen s x = (some { s with text := x, lines := Km344.lay s.table s.width x }, [((Km344.lay s.table s.width x).length : Int)]) := by
        unfold stOpen
        rw [if_neg hb]
      rw [e] at k
      have hall : ∀ y ∈ x, Km344.isLetter y = true ∨ y = 32 ∨ y = 10 := fun y hy => by
        have h : x.all (fun c => Km344.isLetter c || (c == 32 || c == 10)) = true := by
          cases z : x.all (fun c => Km344.isLetter c || (c == 32 || c == 10)) with
          | true => rfl
          | false => exact absurd (.inr z) hb
        have := List.all_eq_true.mp h y hy
        rw [Bool.or_eq_true, Bool.or_eq_true, beq_iff_eq, beq_iff_eq] at this
        exact this
      have hx4 : x.length ≤ 4096 := by
        by_cases z : 4096 < x.length
        · exact absurd (.inl z) hb
        · omega
      obtain ⟨dx, tb, bk, h1, h2, h3, h4, h5, h6, h7⟩ := hS.same s12
      have T := Tab.of h3
      have hlay := lay_book (t := s.table) (width := s.width) (text := x) (by omega) T hall
      refine iteF ⟨_, rfl, _, rfl, S, c.CS, dx, _, _, rfl, h1, TS.cl, TS.nT, sesF_table _ _ _, _, rfl, S, c.CS, dx, _, _, rfl, h1, TS.cl, TS.nW, sesF_width _ _ _, a, tb, x, s.table, s.width, rfl, .inl (s12.seq ha), h2, T, hall, hlen, h5, fun H3 B s3 nB hfew hB => ?_⟩
      have s13 := s12.trans s3
      have hS3 := s3 _ _ h1
      refine ⟨_, rfl, S, c.CS, dx, _, rfl, hS3, TS.cl, TS.nB, (by show 3 < 1000; decide), ?_⟩
      rw [sesF_put3]
      have hzw : ∀ x, H2 x = none → x ≠ z := fun x hx e => by
        rw [e] at hx
        obtain ⟨o, ho⟩ := hz
        rw [s12 _ _ ho] at hx
        cases hx
      have hB0 := hB
      obtain ⟨dxb, LA, as, sp, b1', b2', b3'⟩ := hB
      have BS : B ≠ S := fun e => by rw [e, h1] at nB; cases nB
      have LS : LA ≠ S := ne_of b2'.lst hS3 (fun z => by cases z)
      have hB' : (upd H3 S (.ins c.CS dx (sesF (.ref tb) (vn s.width) (.ref B)))) B = some (.ins c.CB dxb (bookF a LA sp)) := by rw [upd_ne BS]; exact b1'
      refine ⟨_, rfl, S, c.CS, dx, _, _, rfl, upd_same, TS.cl, TS.nB, sesF_book _ _ _, B, c.CB, dxb, _, _, rfl, hB', TB.cl, TB.nL, bookF_lines _ _ _, LA, _, rfl, .inl (SqL.of (by rw [upd_ne LS]; exact b2'.lst)), (by show 1 ≤ sizeLine; decide), fun p np => ?_⟩
      have hal := Paired.length b2'.all
      have hlen2 : (Km344.lay s.table s.width x).length = (bookR s.table s.width x).length := by rw [hlay.1, List.length_map]
      have pS : p ≠ S := fun e => by rw [e, upd_same] at np; cases np
      have np3 : H3 p = none := by rw [upd_ne pS] at np; exact np
      have npH : H p = none := s13.free np3
      rw [refs_length, hal]
      rw [hlen2] at k
      have nl : ∀ b o, H3 b = some o → b ≠ S → (upd (upd H3 S (.ins c.CS dx (sesF (.ref tb) (vn s.width) (.ref B)))) p (.lst [.int ((bookR s.table s.width x).length : Int)])) b = some o := fun b o eb hb => by
        rw [upd_ne (fun e => by rw [← e, eb] at np3; cases np3), upd_ne hb]
        exact eb
      have nS : ∀ {b : Addr} {o : HO}, H3 b = some o → (∀ C d f, o ≠ .ins C d f) → b ≠ S := fun eb hn e => by rw [e, hS3] at eb; exact hn _ _ _ (Option.some.inj eb).symm
      refine k _ p (Keep.upd (Keep.upd (Keep.of s13) (.inl (by simp))) (.inr npH)) ?_ npH (by rw [upd_same]; rfl)
      have tbS : tb ≠ S := fun e => by
        obtain ⟨dxt, d1, d2, a1, _⟩ := h2
        rw [e, h1] at a1
        have := Option.some.inj a1
        injection this with e1 e2 e3
        have e4 : List.lookup ("table" : Str) (sesF (.ref tb) (vn s.width) bk) = List.lookup ("table" : Str) (tabF d1 d2) := by rw [e3]
        rw [sesF_table] at e4
        have e5 : (tabF d1 d2).lookup ("table" : Str) = none := (lk_past (by decide +kernel)).trans ((lk_past (by decide +kernel)).trans rfl)
        rw [e5] at e4
        cases e4
      have ht5 : TableAt c.CT (upd (upd H3 S (.ins c.CS dx (sesF (.ref tb) (vn s.width) (.ref B)))) p (.lst [.int ((bookR s.table s.width x).length : Int)])) tb s.table := by
        obtain ⟨dxt, d1, d2, a1, ⟨kv1, a2, a3⟩, ⟨kv2, a4, a5⟩⟩ := h2.same s3
        refine ⟨dxt, d1, d2, nl _ _ a1 tbS, ⟨kv1, nl _ _ a2 (nS a2 (fun _ _ _ z => by cases z)), fun key => ?_⟩, ⟨kv2, nl _ _ a4 (nS a4 (fun _ _ _ z => by cases z)), fun key => ?_⟩⟩
        · exact (a3 key).imp id fun ⟨q, v, h1, h2, h3⟩ => ⟨q, v, h1, h2, nl _ _ h3 (nS h3 (fun _ _ _ z => by cases z))⟩
        · exact (a5 key).imp id fun ⟨q, v, h1, h2, h3⟩ => ⟨q, v, h1, h2, nl _ _ h3 (nS h3 (fun _ _ _ z => by cases z))⟩
      have hSq : SqL K (upd (upd H3 S (.ins c.CS dx (sesF (.ref tb) (vn s.width) (.ref B)))) p (.lst [.int ((bookR s.table s.width x).length : Int)])) a (nv x) := by
        rcases s13.seq ha with (h | ⟨o, h⟩) | h
        · exact .inl (.inl (nl _ _ h haS))
        · exact .inl (.inr ⟨o, nl _ _ h haS⟩)
        · exact .inr h
      have hle : ∀ l ∈ bookR s.table s.width x, (marks l).length ≤ 48 := fun l hl => by
        have h9 := lay_le (t := s.table) (width := s.width) (text := x) (by omega) T hall (marks l) (by rw [hlay.1]; exact List.mem_map_of_mem hl)
        omega
      exact ⟨dx, tb, .ref B, by rw [upd_ne pS.symm]; exact upd_same, ht5, h3, h4, h5, h6, B, a, bookR s.table s.width x, rfl, hSq, hx4, hfew, Bk.laid T hall hlay, hle, (hB0.but hS3 nl BS).mono hzw, haz⟩
end
end Fc

/-! Fc: what's asked, call by call, and what each call makes of the state. -/
set_option Elab.async false
namespace Fc
open PySem PySem.Spec PyProof.Rows L2 FcR

/-- a call as it's handed in -/
def flatC : List (List Int) → List Int
  | [] => []
  | h :: rows => h ++ rows.flatMap fun r => (r.length : Int) :: r
theorem rows_flat : ∀ (k : Nat) (l : List Int) {xs : List (List Int)} {t : List Int}, PyFlat.rows k l = some (xs, t) → l = (xs.flatMap fun r => (r.length : Int) :: r) ++ t
  | 0, l, xs, t, h => by
    cases h
    rfl
  | k + 1, l, xs, t, h => by
    rw [PyFlat.rows] at h
    cases h1 : PyFlat.row l with
    | none => rw [h1] at h; cases h
    | some y =>
      obtain ⟨x, s⟩ := y
      rw [h1] at h
      dsimp only at h
      cases h2 : PyFlat.rows k s with
      | none => rw [h2] at h; cases h
      | some z =>
        obtain ⟨ys, u⟩ := z
        rw [h2] at h
        cases h
        have ih := rows_flat k s h2
        cases l with
        | nil => cases h1
        | cons n r =>
          rw [PyFlat.row] at h1
          split at h1
          · next h3 =>
            cases h1
            rw [List.flatMap_cons, List.append_assoc, ← ih]
            have e : ((r.take n.toNat).length : Int) = n := by
              rw [List.length_take, Nat.min_eq_left h3.2]
              exact Int.toNat_of_nonneg h3.1
            rw [e, List.cons_append, List.take_append_drop]
          · cases h1
theorem call_flat {shape : Int → Option (Nat × Nat)} {l : List Int} {c : List (List Int)} {t : List Int} (h : PyFlat.call shape l = some (c, t)) : l = flatC c ++ t := by
  cases l with
  | nil => cases h
  | cons p r =>
    rw [PyFlat.call] at h
    cases h1 : shape p with
    | none => rw [h1] at h; cases h
    | some y =>
      obtain ⟨n, k⟩ := y
      rw [h1] at h
      dsimp only at h
      split at h
      · cases h
      · cases h2 : PyFlat.rows k (r.drop n) with
        | none => rw [h2] at h; cases h
        | some z =>
          obtain ⟨xs, u⟩ := z
          rw [h2] at h
          cases h
          have e := rows_flat k _ h2
          show p :: r = ((p :: r.take n) ++ _) ++ _
          rw [List.append_assoc, ← e, List.cons_append, List.take_append_drop]
theorem calls_flat {shape : Int → Option (Nat × Nat)} : ∀ (f : Nat) (l : List Int) {cs : List (List (List Int))}, PyFlat.calls shape f l = some cs → l = cs.flatMap flatC
  | _, [], cs, h => by
    have : cs = [] := by
      cases ‹Nat› <;> exact (Option.some.inj h).symm
    subst this
    rfl
  | 0, _ :: _, _, h => by cases h
  | f + 1, p :: r, cs, h => by
    rw [PyFlat.calls] at h
    cases h1 : PyFlat.call shape (p :: r) with
    | none => rw [h1] at h; cases h
    | some y =>
      obtain ⟨c, t⟩ := y
      rw [h1] at h
      dsimp only at h
      cases h2 : PyFlat.calls shape f t with
      | none => rw [h2] at h; cases h
      | some z =>
        rw [h2] at h
        cases h
        rw [List.flatMap_cons, ← calls_flat f t h2]
        exact call_flat h1
theorem whole_is (c : List (List Int)) : PyKm344.whole c = c := by
  unfold PyKm344.whole
  split <;> rfl
/-- what a call looks like -/
inductive Form : List (List Int) → Prop
  | start (W : Nat) (t : Km344.Table) (hW : W < 4294967296) (ht : Km344Neutral.table (Km344Neutral.nums (enc t)) = t) : Form [[0, (W : Int)], Km344Neutral.nums (enc t)]
  | cells (x : List Nat) (hx : ∀ y ∈ x, y < 256) : Form [[1], Km344Neutral.nums x]
  | text (x : List Nat) (hx : ∀ y ∈ x, y < 256) : Form [[2], Km344Neutral.nums x]
  | opened (x : List Nat) (hx : ∀ y ∈ x, y < 256) : Form [[3], Km344Neutral.nums x]
  | line (k : Nat) (hk : k < 4294967296) : Form [[4, (k : Int)]]
  | touch (k c : Nat) (hk : k < 4294967296) (hc : c < 4294967296) : Form [[5, (k : Int), (c : Int)]]
  | place (p : Nat) (hp : p < 4294967296) : Form [[6, (p : Int)]]
  | found (b : Nat) (x : List Nat) (hb : b < 4294967296) (hx : ∀ y ∈ x, y < 256) : Form [[7, (b : Int)], Km344Neutral.nums x]
theorem natural_is {z : Int} {n : Nat} (h : Km344Neutral.natural z n = true) : ∃ k : Nat, z = (k : Int) ∧ k < 2 ^ n := by
  unfold Km344Neutral.natural at h
  rw [Bool.and_eq_true, decide_eq_true_eq, decide_eq_true_eq] at h
  refine ⟨z.toNat, (Int.toNat_of_nonneg h.1).symm, ?_⟩
  have e : ((z.toNat : Nat) : Int) < ((2 ^ n : Nat) : Int) := by
    rw [Int.toNat_of_nonneg h.1]
    have := h.2
    push_cast
    exact this
  exact Int.ofNat_lt.mp e
theorem nats_is : ∀ {r : List Int} {n : Nat}, (r.all fun z => Km344Neutral.natural z n) = true → ∃ x : List Nat, r = Km344Neutral.nums x ∧ ∀ y ∈ x, y < 2 ^ n
  | [], _, _ => ⟨[], rfl, fun y hy => by cases hy⟩
  | z :: r, n, h => by
    rw [List.all_cons, Bool.and_eq_true] at h
    obtain ⟨k, e, hk⟩ := natural_is h.1
    obtain ⟨x, e2, hx⟩ := nats_is h.2
    refine ⟨k :: x, by rw [e, e2]; rfl, fun y hy => ?_⟩
    rcases List.mem_cons.mp hy with e3 | hy
    · rw [e3]
      exact hk
    · exact hx y hy
theorem nums_append (a b : List Nat) : Km344Neutral.nums (a ++ b) = Km344Neutral.nums a ++ Km344Neutral.nums b := List.map_append
theorem nums_enc (t : Km344.Table) : Km344Neutral.nums (enc t) = t.flatMap fun e => (e.text.length : Int) :: (Km344Neutral.nums e.text ++ ((e.cells.length : Int) :: Km344Neutral.nums e.cells)) := by
  induction t with
  | nil => rfl
  | cons e t ih =>
    rw [List.flatMap_cons, ← ih]
    show Km344Neutral.nums (enc1 e ++ enc t) = _
    rw [nums_append]
    congr 1
    show ((e.text.length : Nat) : Int) :: Km344Neutral.nums (e.text ++ e.cells.length :: e.cells) = _
    rw [nums_append]
    rfl
theorem table_is {r : List Int} (h : Km344Neutral.isTable r = true) : r = Km344Neutral.nums (enc (Km344Neutral.table r)) := by
  unfold Km344Neutral.isTable at h
  rw [Bool.and_eq_true, decide_eq_true_eq] at h
  rw [nums_enc]
  exact h.1.symm
theorem form_of {c : List (List Int)} (h : Km344Neutral.asked1 c = true) : Form c := by
  unfold Km344Neutral.asked1 at h
  split at h
  · next b r =>
    rw [Bool.and_eq_true, Bool.and_eq_true] at h
    obtain ⟨W, rfl, hW⟩ := natural_is h.1.1
    have e := table_is h.2
    have e2 : Km344Neutral.table (Km344Neutral.nums (enc (Km344Neutral.table r))) = Km344Neutral.table r := by rw [← e]
    rw [e]
    exact .start W _ hW e2
  · obtain ⟨x, rfl, hx⟩ := nats_is h
    exact .cells x hx
  · obtain ⟨x, rfl, hx⟩ := nats_is h
    exact .text x hx
  · obtain ⟨x, rfl, hx⟩ := nats_is h
    exact .opened x hx
  · obtain ⟨k, rfl, hk⟩ := natural_is h
    exact .line k hk
  · rw [Bool.and_eq_true] at h
    obtain ⟨k, rfl, hk⟩ := natural_is h.1
    obtain ⟨c, rfl, hc⟩ := natural_is h.2
    exact .touch k c hk hc
  · obtain ⟨k, rfl, hk⟩ := natural_is h
    exact .place k hk
  · rw [Bool.and_eq_true] at h
    obtain ⟨k, rfl, hk⟩ := natural_is h.1
    obtain ⟨x, rfl, hx⟩ := nats_is h.2
    exact .found k x hk hx
  · cases h
/-- all that's asked, call by call -/
theorem asked_is {ns : List Int} (h : PyKm344.answers_asked ns = true) : ∃ cs : List (List (List Int)), ns = cs.flatMap flatC ∧ cs ≠ [] ∧ cs.length ≤ 1000 ∧ (∀ c ∈ cs, Form c) ∧ Km344Neutral.may Km344Neutral.start cs = true ∧
    PyKm344.answers ns = PyFlat.told (PyFlat.played Km344Neutral.step Km344Neutral.start cs) ∧ (PyKm344.answers ns).length ≤ 10000000 := by
  unfold PyKm344.answers_asked at h
  cases h1 : PyFlat.calls PyKm344.shape ns.length ns with
  | none => rw [h1] at h; cases h
  | some cs =>
    rw [h1] at h
    dsimp only at h
    have em : cs.map PyKm344.whole = cs := by
      rw [List.map_congr_left fun c _ => whole_is c]
      exact List.map_id' _
    rw [em, Bool.and_eq_true, Bool.and_eq_true, Bool.and_eq_true, Bool.and_eq_true] at h
    obtain ⟨⟨⟨⟨h2, h3⟩, h4⟩, h5⟩, h6⟩ := h
    unfold Km344Neutral.asked at h5
    rw [Bool.and_eq_true, Bool.and_eq_true, Bool.and_eq_true, decide_eq_true_eq, decide_eq_true_eq, List.all_eq_true] at h5
    refine ⟨cs, calls_flat _ _ h1, fun e => ?_, h5.2.1, fun c hc => form_of (h5.2.2.1 c hc), h5.2.2.2, ?_, ?_⟩
    · rw [e] at h5
      exact absurd h5.1 (by decide)
    · unfold PyKm344.answers PyKm344.calls
      rw [h1]
      dsimp only
      rw [em]
    · unfold PyFlat.short at h6
      exact of_decide_eq_true h6

/-! ### each call's step -/
def stLine (a : Km344.Abs) (k : Nat) : Km344Neutral.S × List Int := (some a, match a.lines[k]? with
  | none => [-2]
  | some l => (l.length : Int) :: Km344Neutral.nums (Km344.shown l))
def stTouch (L : List (List Rec)) (a : Km344.Abs) (k c : Nat) : Km344Neutral.S × List Int := (some a, match (L[k]?.getD []).find? (covC c) with
  | none => [-2]
  | some x => [(x.1 : Int)])
def stFind (a : Km344.Abs) (b : Nat) (x : List Nat) : Km344Neutral.S × List Int := (some a, if x.length = 0 ∨ 64 < x.length then [-22] else match (List.range a.text.length).find? fun p => decide (b ≤ p) && Km344.standsAt a.text x p with
  | none => [-2]
  | some p => [(p : Int)])
theorem nats_nums (x : List Nat) : Km344Neutral.nats (Km344Neutral.nums x) = x := by
  unfold Km344Neutral.nats Km344Neutral.nums
  rw [List.map_map]
  exact List.map_id' _
theorem nums_length (x : List Nat) : (Km344Neutral.nums x).length = x.length := List.length_map ..
theorem told_only (v : Int) : Km344Neutral.told (Km344.only v) = [v] := rfl
theorem told_number (n : Nat) : Km344Neutral.told (Km344.number n) = [(n : Int)] := rfl
theorem act_start (a : Km344.Abs) (t : Km344.Table) (n W : Nat) : Km344.act a (.start t n W) = if n < 94 ∨ 512 < n ∨ W < 20 ∨ 48 < W ∨ t.good = false then (a, Km344.only (-22)) else if t.sure = false then (a, Km344.only (-61)) else (⟨t, W, [], []⟩, Km344.only 0) := rfl
def newS (y : Km344.Abs × Km344.Ans) : Km344Neutral.S × List Int := (if (Km344Neutral.told y.2).headD 0 < 0 then none else some y.1, Km344Neutral.told y.2)
def oldS (y : Km344.Abs × Km344.Ans) : Km344Neutral.S × List Int := (some y.1, Km344Neutral.told y.2)
theorem step_start (s : Km344Neutral.S) {W : Nat} {t : Km344.Table} (ht : Km344Neutral.table (Km344Neutral.nums (enc t)) = t) : Km344Neutral.step s [[0, (W : Int)], Km344Neutral.nums (enc t)] = stStart s t W := by
  have e : Km344Neutral.callOf [[0, (W : Int)], Km344Neutral.nums (enc t)] = some (.start t t.length W) := by
    show some (Km344.Call.start (Km344Neutral.table (Km344Neutral.nums (enc t))) (Km344Neutral.table (Km344Neutral.nums (enc t))).length ((W : Int)).toNat) = _
    rw [ht, Int.toNat_natCast]
  unfold Km344Neutral.step
  rw [e]
  unfold stStart
  cases s with
  | none =>
    show newS (Km344.act ⟨[], 20, [], []⟩ (.start t t.length W)) = _
    rw [act_start]
    by_cases h1 : t.length < 94 ∨ 512 < t.length ∨ W < 20 ∨ 48 < W ∨ t.good = false
    · rw [if_pos h1, if_pos h1]
      rfl
    · rw [if_neg h1, if_neg h1]
      by_cases h2 : t.sure = false
      · rw [if_pos h2, if_pos h2]
        rfl
      · rw [if_neg h2, if_neg h2]
        rfl
  | some a =>
    show oldS (Km344.act a (.start t t.length W)) = _
    rw [act_start]
    by_cases h1 : t.length < 94 ∨ 512 < t.length ∨ W < 20 ∨ 48 < W ∨ t.good = false
    · rw [if_pos h1, if_pos h1]
      rfl
    · rw [if_neg h1, if_neg h1]
      by_cases h2 : t.sure = false
      · rw [if_pos h2, if_pos h2]
        rfl
      · rw [if_neg h2, if_neg h2]
        rfl
theorem step_cells (a : Km344.Abs) (x : List Nat) : Km344Neutral.step (some a) [[1], Km344Neutral.nums x] = stCells a x := by
  unfold Km344Neutral.step
  show ((some (Km344.act a (.cells (Km344Neutral.nats (Km344Neutral.nums x)) (Km344Neutral.nums x).length)).1 : Km344Neutral.S), Km344Neutral.told (Km344.act a (.cells (Km344Neutral.nats (Km344Neutral.nums x)) (Km344Neutral.nums x).length)).2) = _
  rw [nats_nums, nums_length]
  unfold stCells Km344.act
  dsimp only
  rw [show Km344.LETTERS = 4096 from rfl]
  split <;> rfl
theorem step_text (a : Km344.Abs) (x : List Nat) : Km344Neutral.step (some a) [[2], Km344Neutral.nums x] = stText a x := by
  unfold Km344Neutral.step
  show ((some (Km344.act a (.text (Km344Neutral.nats (Km344Neutral.nums x)) (Km344Neutral.nums x).length)).1 : Km344Neutral.S), Km344Neutral.told (Km344.act a (.text (Km344Neutral.nats (Km344Neutral.nums x)) (Km344Neutral.nums x).length)).2) = _
  rw [nats_nums, nums_length]
  unfold stText Km344.act
  dsimp only
  rw [show Km344.CELLS = 24576 from rfl, show Km344.LETTERS = 4096 from rfl]
  split
  · rfl
  · cases Km344.readBack a.table x with
    | none => rfl
    | some l =>
      dsimp only
      split <;> rfl
theorem step_open (a : Km344.Abs) (x : List Nat) : Km344Neutral.step (some a) [[3], Km344Neutral.nums x] = stOpen a x := by
  unfold Km344Neutral.step
  show ((some (Km344.act a (.open_ (Km344Neutral.nats (Km344Neutral.nums x)) (Km344Neutral.nums x).length)).1 : Km344Neutral.S), Km344Neutral.told (Km344.act a (.open_ (Km344Neutral.nats (Km344Neutral.nums x)) (Km344Neutral.nums x).length)).2) = _
  rw [nats_nums, nums_length]
  unfold stOpen Km344.act
  dsimp only
  rw [show Km344.LETTERS = 4096 from rfl]
  by_cases h1 : 4096 < x.length ∨ (x.all fun c => Km344.isLetter c || (c == 32 || c == 10)) = false
  · rw [if_pos h1, if_pos h1]
    rfl
  · rw [if_neg h1, if_neg h1]
    rfl
theorem step_line (a : Km344.Abs) (k : Nat) : Km344Neutral.step (some a) [[4, (k : Int)]] = stLine a k := by
  unfold Km344Neutral.step
  show ((some (Km344.act a (.line ((k : Int)).toNat)).1 : Km344Neutral.S), Km344Neutral.told (Km344.act a (.line ((k : Int)).toNat)).2) = _
  rw [Int.toNat_natCast]
  unfold stLine Km344.act
  dsimp only
  cases a.lines[k]? <;> rfl
theorem step_touch {L : List (List Rec)} {a : Km344.Abs} (h : Bk a L) (k c : Nat) : Km344Neutral.step (some a) [[5, (k : Int), (c : Int)]] = stTouch L a k c := by
  unfold Km344Neutral.step
  show ((some (Km344.act a (.touch ((k : Int)).toNat ((c : Int)).toNat)).1 : Km344Neutral.S), Km344Neutral.told (Km344.act a (.touch ((k : Int)).toNat ((c : Int)).toNat)).2) = _
  rw [Int.toNat_natCast, Int.toNat_natCast, h.touch_is]
  unfold stTouch
  dsimp only
  cases (L[k]?.getD []).find? (covC c) <;> rfl
theorem step_place_is {L : List (List Rec)} {a : Km344.Abs} (h : Bk a L) {k : Nat} {l : List Rec} (hk : L[k]? = some l) {x : Rec} (hx : x ∈ l) {p : Nat} (h1 : x.1 ≤ p) (h2 : p < x.1 + x.2.1.text.length) : Km344Neutral.step (some a) [[6, (p : Int)]] = (some a, [0, (k : Int), (x.2.2 : Int)]) := by
  unfold Km344Neutral.step
  show ((some (Km344.act a (.place ((p : Int)).toNat)).1 : Km344Neutral.S), Km344Neutral.told (Km344.act a (.place ((p : Int)).toNat)).2) = _
  rw [Int.toNat_natCast, h.place_is hk hx h1 h2]
  rfl
theorem step_place_no {L : List (List Rec)} {a : Km344.Abs} (h : Bk a L) {p : Nat} (hn : ∀ x ∈ L.flatten, ¬ (x.1 ≤ p ∧ p < x.1 + x.2.1.text.length)) : Km344Neutral.step (some a) [[6, (p : Int)]] = (some a, [-2]) := by
  unfold Km344Neutral.step
  show ((some (Km344.act a (.place ((p : Int)).toNat)).1 : Km344Neutral.S), Km344Neutral.told (Km344.act a (.place ((p : Int)).toNat)).2) = _
  rw [Int.toNat_natCast, h.place_no hn]
  rfl
theorem step_find (a : Km344.Abs) (b : Nat) (x : List Nat) : Km344Neutral.step (some a) [[7, (b : Int)], Km344Neutral.nums x] = stFind a b x := by
  unfold Km344Neutral.step
  show ((some (Km344.act a (.find (Km344Neutral.nats (Km344Neutral.nums x)) (Km344Neutral.nums x).length ((b : Int)).toNat)).1 : Km344Neutral.S), Km344Neutral.told (Km344.act a (.find (Km344Neutral.nats (Km344Neutral.nums x)) (Km344Neutral.nums x).length ((b : Int)).toNat)).2) = _
  rw [nats_nums, nums_length, Int.toNat_natCast]
  unfold stFind Km344.act
  dsimp only
  split
  · rfl
  · cases (List.range a.text.length).find? fun p => decide (b ≤ p) && Km344.standsAt a.text x p <;> rfl
/-- as long as none has answered 0, only fp_start may come -/
theorem may_none {c : List (List Int)} {cs : List (List (List Int))} (hf : Form c) (h : Km344Neutral.may none (c :: cs) = true) : ∃ W t, W < 4294967296 ∧ Km344Neutral.table (Km344Neutral.nums (enc t)) = t ∧ c = [[0, ((W : Nat) : Int)], Km344Neutral.nums (enc t)] := by
  unfold Km344Neutral.may at h
  rw [Bool.and_eq_true] at h
  cases hf with
  | start W t hW ht => exact ⟨W, t, hW, ht, rfl⟩
  | cells x hx => exact absurd (show (!true) = true from h.1) (by decide)
  | text x hx => exact absurd (show (!true) = true from h.1) (by decide)
  | opened x hx => exact absurd (show (!true) = true from h.1) (by decide)
  | line k hk => exact absurd (show (!true) = true from h.1) (by decide)
  | touch k c hk hc => exact absurd (show (!true) = true from h.1) (by decide)
  | place p hp => exact absurd (show (!true) = true from h.1) (by decide)
  | found b x hb hx => exact absurd (show (!true) = true from h.1) (by decide)
theorem may_next {s : Km344Neutral.S} {c : List (List Int)} {cs : List (List (List Int))} (h : Km344Neutral.may s (c :: cs) = true) : Km344Neutral.may (Km344Neutral.step s c).1 cs = true := by
  unfold Km344Neutral.may at h
  rw [Bool.and_eq_true] at h
  exact h.2
theorem told_more (s : Km344Neutral.S) (c : List (List Int)) (cs : List (List (List Int))) : PyFlat.told (PyFlat.played Km344Neutral.step s (c :: cs)) =
    (((Km344Neutral.step s c).2.length : Int) :: (Km344Neutral.step s c).2) ++ PyFlat.told (PyFlat.played Km344Neutral.step (Km344Neutral.step s c).1 cs) := by
  rw [PyFlat.played]
  rfl
end Fc

set_option Elab.async false
set_option linter.all false
set_option maxRecDepth 100000
set_option maxHeartbeats 4000000
/-! session.py: fp_line, fp_touch, fp_place, fp_find -/
namespace Fc
open PySem PySem.Spec PyProof.Rows L2 FcR
section
variable {P : Program} {w : World} {K : PySem.W.Frag} {mg : Str → Option Value} {base : Heap} {c : CAs}
theorem ends_any {S z : Addr} {H H1 : Hp} {Q : VK} {s : Km344Neutral.S} {r : List Int} (h : SessAt K c H S z s) (sm : Same H H1) (k : Ends K c S z H Q (s, r)) : ∀ p, H1 p = none → Q (.ref p) (upd H1 p (.lst (iv r))) := fun p np =>
  k _ p (Keep.of (sm.trans (Same.upd_new np))) (h.same (sm.trans (Same.upd_new np))) (sm.free np) upd_same
/-! ### fp_line -/
def spLine (K : PySem.W.Frag) (c : CAs) : Sp := fun vs H Q _ => ∃ (S z : Addr) (k : Nat) (s : Km344.Abs), vs = [.ref S, vn k] ∧ SessAt K c H S z (some s) ∧ Ends K c S z H Q (stLine s k)
theorem scLn : FnScope ["self", "line", "cells"] ["self", "line"] (defScope sLine) := ⟨rfl, rfl, rfl, by decide +kernel, rfl, by decide +kernel, by decide +kernel⟩
theorem ok_line {f fC : Addr} {fd fdC : FuncData} (F : Fun K "fp_line" "Session.fp_line" sLine f fd)
    (FC : FnOk P w K mg base CX0 1 fC fdC ["line"] (spCellsL c.CL)) (kC : PySem.W.keepIn K (.ref fC) = true) (bC : Binds K fdC ["line"] []) (gC : mg "cells_of_line" = some (.ref fC))
    (TS : TxtS K c.CS) (TB : TxtB K c.CB) (b1 : mg "len" = none) (g1 : Num mg "NOT_THERE" 2) (g2 : Num mg "EMPTY_CELL" 0) (g3 : Num mg "MOST_WIDTH" 48) : FnOk P w K mg base CX0 2 f fd ["self", "line"] (spLine K c) := by
  refine F.ok scLn (fun vs H Q E h => ?_) (fun cdv A outer s0 H vs Q E hr h => ?_)
  · obtain ⟨S, z, n, s, rfl, _⟩ := h
    rfl
  · obtain ⟨S, z, n, s, rfl, hS, k⟩ := h
    refine ⟨_, pss_cons (ps_if (pt_cmpR op_ge (pv 1) (pe_callB call_len_seq (by rfl) b1 PySem.boot_len (pa_cons (pe_fld (pe_fld (pv 0) rfl) rfl) pa_nil)) (nomark _)) (pss_one (ps_ret (pe_lst (pa_cons (pe_un un_neg (pe_num g1)) pa_nil)))) pss_nil)
      (pss_cons (ps_set (i := 2) scLn.nd rfl (.inl rfl) (pe_call FC hr (by rfl) gC kC bC .nil pass0 (pa_cons (pe_ix ix_list (pe_fld (pe_fld (pv 0) rfl) rfl) (pv 1) (fun _ _ => rfl)) pa_nil)))
      (pss_one (ps_ret (pe_op op_cat (pe_op op_cat (pe_lst (pa_cons (pe_callB call_len_seq (by rfl) b1 PySem.boot_len (pa_cons (pv 2) pa_nil)) pa_nil)) (pv 2))
        (pe_op op_rep (pe_lst (pa_cons (pe_num g2) pa_nil)) (pe_op op_sub (pe_num g3) (pe_callB call_len_seq (by rfl) b1 PySem.boot_len (pa_cons (pv 2) pa_nil)))))))), ?_⟩
    have hS0 := hS
    obtain ⟨dx, tb, bk, h1, h2, h3, h4, h5, h6, B, ta, L, rfl, h7, h8, h9, hBk, h48, ⟨dz, LA, as, sp, hB, hLA, hSp, hF⟩, hta⟩ := hS
    have hal : as.length = L.length := Paired.length hLA.all
    refine ⟨_, rfl, _, rfl, S, c.CS, dx, _, _, rfl, h1, TS.cl, TS.nB, sesF_book _ _ _, B, c.CB, dz, _, _, rfl, hB, TB.cl, TB.nL, bookF_lines _ _ _, LA, _, rfl, .inl (SqL.of hLA.lst), _, _, rfl, rfl, _, rfl, ?_⟩
    rw [refs_length, hal]
    by_cases hn : n < L.length
    case neg =>
      rw [decide_eq_true (show ((L.length : Nat) : Int) ≤ (n : Int) by omega)]
      refine iteT ⟨_, rfl, (by show 1 ≤ sizeLine; decide), ends_one hS0 (Same.refl H) ?_⟩
      have e : stLine s n = (some s, [-2]) := by
        unfold stLine
        rw [hBk.lines, List.getElem?_map, List.getElem?_eq_none (by omega)]
        rfl
      rw [← e]
      exact k
    rw [decide_eq_false (show ¬ ((L.length : Nat) : Int) ≤ (n : Int) by omega)]
    obtain ⟨l, hl⟩ : ∃ l, L[n]? = some l := ⟨L[n], List.getElem?_eq_getElem hn⟩
    obtain ⟨la, hla, hlat⟩ := pget' hLA.all hl
    have hlm := List.mem_of_getElem? hl
    have hl48 := h48 l hlm
    have ll : (lcells l).length ≤ 48 := by rw [lcells_length]; exact hl48
    refine iteF ⟨_, rfl, S, c.CS, dx, _, _, rfl, h1, TS.cl, TS.nB, sesF_book _ _ _, B, c.CB, dz, _, _, rfl, hB, TB.cl, TB.nL, bookF_lines _ _ _, _, rfl, LA, _, _, _, rfl, rfl, SqL.of hLA.lst, atI_nat (refs_get hla), la, l, rfl, hlat, hBk.gl l hlm, hl48, fun H1 p s1 np hp => ?_⟩
    refine ⟨_, rfl, p, _, rfl, .inl (SqL.of hp), (by show 1 ≤ sizeLine; decide), fun p1 n1 => ⟨_, rfl, ?_⟩⟩
    have s2 := s1.trans (Same.upd_new (o := .lst [.int ((nv (lcells l)).length : Int)]) n1)
    have hp2 := Same.upd_new (o := .lst [.int ((nv (lcells l)).length : Int)]) n1 _ _ hp
    refine ⟨p1, p, _, _, rfl, rfl, upd_same, hp2, (by rw [nv_length]; exact Nat.le_of_lt (big _ (by show 1 + _ ≤ _; omega))), fun p2 n2 => ?_⟩
    have s3 := s2.trans (Same.upd_new (o := .lst ([.int ((nv (lcells l)).length : Int)] ++ nv (lcells l))) n2)
    have hp3 := Same.upd_new (o := .lst ([.int ((nv (lcells l)).length : Int)] ++ nv (lcells l))) n2 _ _ hp2
    refine ⟨by show 1 ≤ sizeLine; decide, fun p3 n3 => ?_⟩
    have hp4 := Same.upd_new (o := .lst [.int 0]) n3 _ _ hp3
    have s4 := s3.trans (Same.upd_new (o := .lst [.int 0]) n3)
    refine ⟨_, rfl, p, _, rfl, .inl (SqL.of hp4), _, _, rfl, rfl, ?_⟩
    have es : ((48 : Int) - ((nv (lcells l)).length : Int)).toNat = 48 - (lcells l).length := by rw [nv_length]; omega
    refine ⟨p3, _, [.int 0], rfl, rfl, upd_same, (by rw [nv_length]; omega), (by rw [nv_length]; omega), (by show 1 * ((48 : Int) - ((nv (lcells l)).length : Int)).toNat ≤ sizeLine; rw [es]; exact Nat.le_of_lt (big _ (by omega))), fun p4 n4 => ?_⟩
    rw [es, nv_zeros]
    have s5 := s4.trans (Same.upd_new (o := .lst (nv (List.replicate (48 - (lcells l).length) 0))) n4)
    have hp5 := Same.upd_new (o := .lst (nv (List.replicate (48 - (lcells l).length) 0))) n4 _ _ (Same.upd_new (o := .lst [.int 0]) n3 _ _ (upd_same (H := upd H1 p1 (.lst [.int ((nv (lcells l)).length : Int)])) (a := p2) (o := .lst ([.int ((nv (lcells l)).length : Int)] ++ nv (lcells l)))))
    refine ⟨p2, p4, _, _, rfl, rfl, hp5, upd_same, (by rw [List.length_append, nv_length, nv_length, List.length_replicate]; exact Nat.le_of_lt (big _ (by show 1 + _ + _ ≤ _; omega))), ?_⟩
    have e : stLine s n = (some s, ((lcells l).length : Int) :: Km344Neutral.nums (lcells l ++ List.replicate (48 - (lcells l).length) 0)) := by
      unfold stLine
      rw [hBk.lines, List.getElem?_map, hl]
      show (some s, ((marks l).length : Int) :: Km344Neutral.nums (Km344.shown (marks l))) = _
      rw [shown_is hl48, lcells_length]
    rw [e] at k
    have e2 : ([V.int ((nv (lcells l)).length : Int)] ++ nv (lcells l)) ++ nv (List.replicate (48 - (lcells l).length) 0) = iv (((lcells l).length : Int) :: Km344Neutral.nums (lcells l ++ List.replicate (48 - (lcells l).length) 0)) := by
      show _ = V.int ((lcells l).length : Int) :: iv (Km344Neutral.nums (lcells l ++ List.replicate (48 - (lcells l).length) 0))
      rw [iv_nums, nv_app, nv_length]
      rfl
    rw [e2]
    exact ends_any hS0 s5 k

/-! ### fp_touch -/
def spTouch (K : PySem.W.Frag) (c : CAs) : Sp := fun vs H Q _ => ∃ (S z : Addr) (k e : Nat) (s : Km344.Abs), vs = [.ref S, vn k, vn e] ∧ SessAt K c H S z (some s) ∧ Ends K c S z H Q (Km344Neutral.step (some s) [[5, (k : Int), (e : Int)]])
theorem scTo : FnScope ["self", "line", "cell", "laid"] ["self", "line", "cell"] (defScope sTouch) := ⟨rfl, rfl, rfl, by decide +kernel, rfl, by decide +kernel, by decide +kernel⟩
theorem ok_touch {f fA : Addr} {fd fdA : FuncData} (F : Fun K "fp_touch" "Session.fp_touch" sTouch f fd)
    (FA : FnOk P w K mg base CX0 1 fA fdA ["line", "cell"] (spLaidAt c.CL)) (kA : PySem.W.keepIn K (.ref fA) = true) (bA : Binds K fdA ["line", "cell"] []) (gA : mg "laid_at_cell" = some (.ref fA))
    (TS : TxtS K c.CS) (TB : TxtB K c.CB) (TL : TxtL K c.CL) (b1 : mg "len" = none) (g1 : Num mg "NOT_THERE" 2) : FnOk P w K mg base CX0 2 f fd ["self", "line", "cell"] (spTouch K c) := by
  refine F.ok scTo (fun vs H Q E h => ?_) (fun cdv A outer s0 H vs Q E hr h => ?_)
  · obtain ⟨S, z, n, e, s, rfl, _⟩ := h
    rfl
  · obtain ⟨S, z, n, e, s, rfl, hS, k⟩ := h
    refine ⟨_, pss_cons (ps_if (pt_cmpR op_ge (pv 1) (pe_callB call_len_seq (by rfl) b1 PySem.boot_len (pa_cons (pe_fld (pe_fld (pv 0) rfl) rfl) pa_nil)) (nomark _)) (pss_one (ps_ret (pe_lst (pa_cons (pe_un un_neg (pe_num g1)) pa_nil)))) pss_nil)
      (pss_cons (ps_set (i := 3) scTo.nd rfl (.inl rfl) (pe_call FA hr (by rfl) gA kA bA .nil pass0 (pa_cons (pe_ix ix_list (pe_fld (pe_fld (pv 0) rfl) rfl) (pv 1) (fun _ _ => rfl)) (pa_cons (pv 2) pa_nil))))
      (pss_cons (ps_if (pt_cmpR op_isN (pv 3) pe_non (nomark _)) (pss_one (ps_ret (pe_lst (pa_cons (pe_un un_neg (pe_num g1)) pa_nil)))) pss_nil)
      (pss_one (ps_ret (pe_lst (pa_cons (pe_fld (pv 3) rfl) pa_nil)))))), ?_⟩
    have hS0 := hS
    obtain ⟨dx, tb, bk, h1, h2, h3, h4, h5, h6, B, ta, L, rfl, h7, h8, h9, hBk, h48, ⟨dz, LA, as, sp, hB, hLA, hSp, hF⟩, hta⟩ := hS
    have hal : as.length = L.length := Paired.length hLA.all
    rw [step_touch hBk] at k
    refine ⟨_, rfl, _, rfl, S, c.CS, dx, _, _, rfl, h1, TS.cl, TS.nB, sesF_book _ _ _, B, c.CB, dz, _, _, rfl, hB, TB.cl, TB.nL, bookF_lines _ _ _, LA, _, rfl, .inl (SqL.of hLA.lst), _, _, rfl, rfl, _, rfl, ?_⟩
    rw [refs_length, hal]
    by_cases hn : n < L.length
    case neg =>
      rw [decide_eq_true (show ((L.length : Nat) : Int) ≤ (n : Int) by omega)]
      refine iteT ⟨_, rfl, (by show 1 ≤ sizeLine; decide), ends_one hS0 (Same.refl H) ?_⟩
      have e : stTouch L s n e = (some s, [-2]) := by
        unfold stTouch
        rw [List.getElem?_eq_none (by omega)]
        rfl
      rw [← e]
      exact k
    rw [decide_eq_false (show ¬ ((L.length : Nat) : Int) ≤ (n : Int) by omega)]
    obtain ⟨l, hl⟩ : ∃ l, L[n]? = some l := ⟨L[n], List.getElem?_eq_getElem hn⟩
    obtain ⟨la, hla, hlat⟩ := pget' hLA.all hl
    refine iteF ⟨_, rfl, S, c.CS, dx, _, _, rfl, h1, TS.cl, TS.nB, sesF_book _ _ _, B, c.CB, dz, _, _, rfl, hB, TB.cl, TB.nL, bookF_lines _ _ _, _, rfl, LA, _, _, _, rfl, rfl, SqL.of hLA.lst, atI_nat (refs_get hla), _, rfl, la, l, e, rfl, hlat, fun hf => ?_, fun x q hf hq => ?_⟩
    · refine ⟨_, rfl, rfl, _, rfl, iteT ⟨_, rfl, (by show 1 ≤ sizeLine; decide), ends_one hS0 (Same.refl H) ?_⟩⟩
      have e : stTouch L s n e = (some s, [-2]) := by
        unfold stTouch
        rw [hl]
        show (some s, match l.find? (covC e) with
          | none => [-2]
          | some x => [(x.1 : Int)]) = _
        rw [hf]
      rw [← e]
      exact k
    · obtain ⟨dq, q1, q2, g3, g4, g5⟩ := hq
      refine ⟨_, rfl, rfl, _, rfl, iteF ⟨_, rfl, q, c.CL, dq, _, _, rfl, g3, TL.cl, TL.nP, laidF_place _ _ _ _, (by show 1 ≤ sizeLine; decide), ends_one hS0 (Same.refl H) ?_⟩⟩
      have e : stTouch L s n e = (some s, [(x.1 : Int)]) := by
        unfold stTouch
        rw [hl]
        show (some s, match l.find? (covC e) with
          | none => [-2]
          | some x => [(x.1 : Int)]) = _
        rw [hf]
      rw [← e]
      exact k

/-! ### fp_place -/
def spPlace (K : PySem.W.Frag) (c : CAs) : Sp := fun vs H Q _ => ∃ (S z : Addr) (p : Nat) (s : Km344.Abs), vs = [.ref S, vn p] ∧ SessAt K c H S z (some s) ∧ Ends K c S z H Q (Km344Neutral.step (some s) [[6, (p : Int)]])
theorem scPc : FnScope ["self", "place"] ["self", "place"] (defScope sPlace) := ⟨rfl, rfl, rfl, by decide +kernel, rfl, by decide +kernel, by decide +kernel⟩
theorem ok_place {f : Addr} {fd : FuncData} (F : Fun K "fp_place" "Session.fp_place" sPlace f fd)
    (TS : TxtS K c.CS) (TB : TxtB K c.CB) (b1 : mg "len" = none) (b2 : mg "list" = none) (g1 : Num mg "NOT_THERE" 2) : FnOk P w K mg base CX0 2 f fd ["self", "place"] (spPlace K c) := by
  refine F.ok scPc (fun vs H Q E h => ?_) (fun cdv A outer s0 H vs Q E hr h => ?_)
  · obtain ⟨S, z, p, s, rfl, _⟩ := h
    rfl
  · obtain ⟨S, z, p, s, rfl, hS, k⟩ := h
    refine ⟨_, pss_cons (ps_if (PW.pt (pw_or (pt_cmpR op_ge (pv 1) (pe_callB call_len_seq (by rfl) b1 PySem.boot_len (pa_cons (pe_fld (pe_fld (pv 0) rfl) rfl) pa_nil)) (nomark _))
        (pw_or1 (pt_cmpR op_isN (pe_ix ix_list (pe_fld (pe_fld (pv 0) rfl) rfl) (pv 1) (fun _ _ => rfl)) pe_non (nomark _))))) (pss_one (ps_ret (pe_lst (pa_cons (pe_un un_neg (pe_num g1)) pa_nil)))) pss_nil)
      (pss_one (ps_ret (pe_op op_cat (pe_lst (pa_cons pe_int pa_nil)) (pe_callTy call_list_of (by rfl) b2 (by decide +kernel) (pa_cons (pe_ix ix_list (pe_fld (pe_fld (pv 0) rfl) rfl) (pv 1) (fun _ _ => rfl)) pa_nil))))), ?_⟩
    have hS0 := hS
    obtain ⟨dx, tb, bk, h1, h2, h3, h4, h5, h6, B, ta, L, rfl, h7, h8, h9, hBk, h48, ⟨dz, LA, as, sp, hB, hLA, ⟨xs, x1, x2, x3⟩, hF⟩, hta⟩ := hS
    refine ⟨_, rfl, _, rfl, S, c.CS, dx, _, _, rfl, h1, TS.cl, TS.nB, sesF_book _ _ _, B, c.CB, dz, _, _, rfl, hB, TB.cl, TB.nS, bookF_spots _ _ _, sp, _, rfl, .inl (SqL.of x1), _, _, rfl, rfl, _, rfl, ?_⟩
    rw [x2]
    by_cases hn : p < s.text.length
    case neg =>
      rw [decide_eq_true (show ((s.text.length : Nat) : Int) ≤ (p : Int) by omega)]
      refine iteT (iteT ⟨_, rfl, (by show 1 ≤ sizeLine; decide), ends_one hS0 (Same.refl H) ?_⟩)
      rw [step_place_no hBk (fun x hx => by have := hBk.pos x hx; omega)] at k
      exact k
    rw [decide_eq_false (show ¬ ((s.text.length : Nat) : Int) ≤ (p : Int) by omega)]
    rcases x3 p hn with ⟨hx, hno⟩ | ⟨q, kk, cc, hx, hq, l, r, hkl, hl, hr, g1', g2', rfl⟩
    · refine iteF ⟨_, rfl, S, c.CS, dx, _, _, rfl, h1, TS.cl, TS.nB, sesF_book _ _ _, B, c.CB, dz, _, _, rfl, hB, TB.cl, TB.nS, bookF_spots _ _ _, _, rfl, sp, _, _, _, rfl, rfl, SqL.of x1, atI_nat hx, rfl, _, rfl, ?_⟩
      refine iteT ⟨_, rfl, (by show 1 ≤ sizeLine; decide), ends_one hS0 (Same.refl H) ?_⟩
      rw [step_place_no hBk (fun x hx => ?_)] at k
      · exact k
      · rintro ⟨e1, e2⟩
        obtain ⟨l, hl, hxl⟩ := List.mem_flatten.mp hx
        obtain ⟨i, hi, rfl⟩ := List.mem_iff_getElem.mp hl
        exact hno i x.2.2 ⟨_, x, hi, List.getElem?_eq_getElem hi, hxl, e1, e2, rfl⟩
    · refine iteF ⟨_, rfl, S, c.CS, dx, _, _, rfl, h1, TS.cl, TS.nB, sesF_book _ _ _, B, c.CB, dz, _, _, rfl, hB, TB.cl, TB.nS, bookF_spots _ _ _, _, rfl, sp, _, _, _, rfl, rfl, SqL.of x1, atI_nat hx, rfl, _, rfl, ?_⟩
      refine iteF ⟨by show 1 ≤ sizeLine; decide, fun p1 n1 => ?_⟩
      have s1 := Same.upd_new (o := .lst [.int 0]) n1
      refine ⟨_, rfl, S, c.CS, dx, _, _, rfl, s1 _ _ h1, TS.cl, TS.nB, sesF_book _ _ _, B, c.CB, dz, _, _, rfl, s1 _ _ hB, TB.cl, TB.nS, bookF_spots _ _ _, _, rfl, sp, _, _, _, rfl, rfl, SqL.of (s1 _ _ x1), atI_nat hx, q, _, rfl, .inr (SqT.of (s1 _ _ hq)), fun p2 n2 => ?_⟩
      have s2 := s1.trans (Same.upd_new (o := .lst [vn kk, vn r.2.2]) n2)
      refine ⟨p1, p2, _, _, rfl, rfl, Same.upd_new n2 _ _ upd_same, upd_same, (by show 1 + 2 ≤ sizeLine; decide), ?_⟩
      rw [step_place_is hBk hl hr g1' g2'] at k
      exact ends_any hS0 s2 k

/-! ### fp_find -/
def spFind (K : PySem.W.Frag) (c : CAs) : Sp := fun vs H Q _ => ∃ (S a z : Addr) (b : Nat) (x : List Nat) (s : Km344.Abs), vs = [.ref S, vn b, .ref a] ∧ SessAt K c H S z (some s) ∧ SqL K H a (nv x) ∧ x.length ≤ 30000 ∧ b < 4294967296 ∧ Ends K c S z H Q (stFind s b x)
theorem scFi : FnScope ["self", "beginning", "what", "place"] ["self", "beginning", "what"] (defScope sFind) := ⟨rfl, rfl, rfl, by decide +kernel, rfl, by decide +kernel, by decide +kernel⟩
theorem ok_find {f fP : Addr} {fd fdP : FuncData} (F : Fun K "fp_find" "Session.fp_find" sFind f fd)
    (FP : FnOk P w K mg base CX0 1 fP fdP ["text", "what", "beginning"] (spPlaceOf K)) (kP : PySem.W.keepIn K (.ref fP) = true) (bP : Binds K fdP ["text", "what", "beginning"] []) (gP : mg "place_of_bytes" = some (.ref fP))
    (TS : TxtS K c.CS) (TB : TxtB K c.CB) (b1 : mg "len" = none) (g1 : Num mg "MOST_BYTES_FOUND" 64) (g2 : Num mg "NOT_VALID" 22) (g3 : Num mg "NOT_THERE" 2) : FnOk P w K mg base CX0 2 f fd ["self", "beginning", "what"] (spFind K c) := by
  refine F.ok scFi (fun vs H Q E h => ?_) (fun cdv A outer s0 H vs Q E hr h => ?_)
  · obtain ⟨S, a, z, b, x, s, rfl, _⟩ := h
    rfl
  · obtain ⟨S, a, z, b, x, s, rfl, hS, ha, hlen, hb, k⟩ := h
    refine ⟨_, pss_cons (ps_if (pt_not (pt_chain op_le op_le pe_int (pe_callB call_len_seq (by rfl) b1 PySem.boot_len (pa_cons (pv 2) pa_nil)) (pe_num g1))) (pss_one (ps_ret (pe_lst (pa_cons (pe_un un_neg (pe_num g2)) pa_nil)))) pss_nil)
      (pss_cons (ps_set (i := 3) scFi.nd rfl (.inl rfl) (pe_call FP hr (by rfl) gP kP bP .nil pass0 (pa_cons (pe_fld (pe_fld (pv 0) rfl) rfl) (pa_cons (pv 2) (pa_cons (pv 1) pa_nil)))))
      (pss_cons (ps_if (pt_cmpR op_isN (pv 3) pe_non (nomark _)) (pss_one (ps_ret (pe_lst (pa_cons (pe_un un_neg (pe_num g3)) pa_nil)))) pss_nil)
      (pss_one (ps_ret (pe_lst (pa_cons (pv 3) pa_nil)))))), ?_⟩
    have hS0 := hS
    obtain ⟨dx, tb, bk, h1, h2, h3, h4, h5, h6, B, ta, L, rfl, h7, h8, h9, hBk, h48, ⟨dz, LA, as, sp, hB, hLA, hSp, hF⟩, hta⟩ := hS
    have bad : (x.length = 0 ∨ 64 < x.length) → ∀ p, H p = none → Q (.ref p) (upd H p (.lst [.int (-22)])) := fun hbad => by
      refine ends_one hS0 (Same.refl H) ?_
      have e : stFind s b x = (some s, [-22]) := by
        unfold stFind
        rw [if_pos hbad]
      rw [← e]
      exact k
    refine ⟨_, rfl, a, _, rfl, .inl ha, _, _, rfl, rfl, _, rfl, ?_⟩
    rw [nv_length]
    by_cases w1 : 1 ≤ x.length
    case neg =>
      rw [decide_eq_false (show ¬ (1 : Int) ≤ (x.length : Int) by omega)]
      exact iteF ⟨_, rfl, iteT ⟨_, rfl, (by show 1 ≤ sizeLine; decide), bad (by omega)⟩⟩
    rw [decide_eq_true (show (1 : Int) ≤ (x.length : Int) by omega)]
    refine iteT ⟨_, _, rfl, rfl, _, rfl, ?_⟩
    by_cases w2 : x.length ≤ 64
    case neg =>
      rw [decide_eq_false (show ¬ (x.length : Int) ≤ 64 by omega)]
      exact iteT ⟨_, rfl, (by show 1 ≤ sizeLine; decide), bad (by omega)⟩
    rw [decide_eq_true (show (x.length : Int) ≤ 64 by omega)]
    have hne : x ≠ [] := List.length_pos_iff.mp w1
    have est : stFind s b x = (some s, match foundAt s.text x b with
      | none => [-2]
      | some p => [(p : Int)]) := by
      unfold stFind
      rw [if_neg (by omega)]
      rfl
    rw [est] at k
    refine iteF ⟨_, rfl, S, c.CS, dx, _, _, rfl, h1, TS.cl, TS.nB, sesF_book _ _ _, B, c.CB, dz, _, _, rfl, hB, TB.cl, TB.nT, bookF_text _ _ _, _, rfl, _, rfl, ta, a, s.text, x, b, rfl, h7, ha, hne, by omega, hlen, hb, fun hn H1 s1 => ?_, fun p hp H1 s1 => ?_⟩
    · rw [hn] at k
      exact ⟨_, rfl, rfl, _, rfl, iteT ⟨_, rfl, (by show 1 ≤ sizeLine; decide), ends_one hS0 s1 k⟩⟩
    · rw [hp] at k
      exact ⟨_, rfl, rfl, _, rfl, iteF ⟨_, rfl, (by show 1 ≤ sizeLine; decide), ends_one hS0 s1 k⟩⟩
end
end Fc

set_option Elab.async false
set_option linter.all false
set_option maxRecDepth 100000
set_option maxHeartbeats 2000000
/-! pages.py: answer_of_call -/
namespace Fc
open PySem PySem.Spec PyProof.Rows L2 FcR
abbrev sAnswers : Stmt := top 64
abbrev sAnsOf : Stmt := top 65
def kOf (c : List (List Int)) : Int := (c.headD []).headD 0
def nOf (c : List (List Int)) : List Int := (c.headD []).tail
def rOf (c : List (List Int)) : List Int := c.tail.headD []
theorem int_eq (n m : Int) : decide (V.int n = V.int m) = decide (n = m) := by
  by_cases h : n = m
  · rw [h, decide_eq_true rfl, decide_eq_true rfl]
  · rw [decide_eq_false h, decide_eq_false (fun e => by cases e; exact h rfl)]
theorem SessAt.ins {K : PySem.W.Frag} {c : CAs} {H : Hp} {S z : Addr} {s : Km344Neutral.S} (h : SessAt K c H S z s) : ∃ dx tb wd bk, H S = some (.ins c.CS dx (sesF tb wd bk)) := by
  cases s with
  | none =>
    obtain ⟨dx, bk, h⟩ := h
    exact ⟨dx, _, _, _, h⟩
  | some a =>
    obtain ⟨dx, tb, bk, h, _⟩ := h
    exact ⟨dx, _, _, _, h⟩
section
variable {P : Program} {w : World} {K : PySem.W.Frag} {mg : Str → Option Value} {base : Heap} {c : CAs}
def spAnsOf (K : PySem.W.Frag) (c : CAs) : Sp := fun vs H Q _ => ∃ (S nu ro z : Addr) (d : List (List Int)) (s : Km344Neutral.S), vs = [.ref S, .int (kOf d), .ref nu, .ref ro] ∧ SessAt K c H S z s ∧ (∃ o, H z = some o) ∧ Form d ∧ (s = none → kOf d = 0) ∧
  SqL K H nu (iv (nOf d)) ∧ SqL K H ro (iv (rOf d)) ∧ ro ≠ S ∧ ro ≠ z ∧ (rOf d).length ≤ 30000 ∧ Ends K c S z H Q (Km344Neutral.step s d)
theorem scAO : FnScope ["session", "call", "numbers", "row"] ["session", "call", "numbers", "row"] (defScope sAnsOf) := ⟨rfl, rfl, rfl, by decide +kernel, rfl, by decide +kernel, by decide +kernel⟩
theorem ok_ansOf {f fS fC fT fO fLn fTo fPl fFi : Addr} {fd fdS fdC fdT fdO fdLn fdTo fdPl fdFi : FuncData} (F : Fun K "answer_of_call" "answer_of_call" sAnsOf f fd) (CS : Cls K c.CS)
    (MS : Meth K c.CS "fp_start" fS) (FS : FnOk P w K mg base CX0 5 fS fdS ["self", "width", "numbers"] (spStart K c)) (bS : Binds K fdS ["self", "width", "numbers"] [])
    (MC : Meth K c.CS "fp_cells" fC) (FC : FnOk P w K mg base CX0 5 fC fdC ["self", "text"] (spFpCells K c)) (bC : Binds K fdC ["self", "text"] [])
    (MT : Meth K c.CS "fp_text" fT) (FT : FnOk P w K mg base CX0 4 fT fdT ["self", "cells"] (spFpText K c)) (bT : Binds K fdT ["self", "cells"] [])
    (MO : Meth K c.CS "fp_open" fO) (FO : FnOk P w K mg base CX0 7 fO fdO ["self", "text"] (spOpen K c)) (bO : Binds K fdO ["self", "text"] [])
    (ML : Meth K c.CS "fp_line" fLn) (FL : FnOk P w K mg base CX0 2 fLn fdLn ["self", "line"] (spLine K c)) (bL : Binds K fdLn ["self", "line"] [])
    (MH : Meth K c.CS "fp_touch" fTo) (FH : FnOk P w K mg base CX0 2 fTo fdTo ["self", "line", "cell"] (spTouch K c)) (bH : Binds K fdTo ["self", "line", "cell"] [])
    (MP : Meth K c.CS "fp_place" fPl) (FP : FnOk P w K mg base CX0 2 fPl fdPl ["self", "place"] (spPlace K c)) (bP : Binds K fdPl ["self", "place"] [])
    (MF : Meth K c.CS "fp_find" fFi) (FF : FnOk P w K mg base CX0 2 fFi fdFi ["self", "beginning", "what"] (spFind K c)) (bF : Binds K fdFi ["self", "beginning", "what"] [])
    (g0 : Num mg "START" 0) (g1 : Num mg "CELLS" 1) (g2 : Num mg "TEXT" 2) (g3 : Num mg "BOOK" 3) (g4 : Num mg "LINE" 4) (g5 : Num mg "TOUCH" 5) (g6 : Num mg "PLACE" 6) : FnOk P w K mg base CX0 8 f fd ["session", "call", "numbers", "row"] (spAnsOf K c) := by
  refine F.ok scAO (fun vs H Q E h => ?_) (fun cdv A outer s0 H vs Q E hr h => ?_)
  · obtain ⟨S, nu, ro, z, d, s, rfl, _⟩ := h
    rfl
  · obtain ⟨S, nu, ro, z, d, s, rfl, hS, hzo, hf, hn, h1, h2, hne, hnz, hlen, k⟩ := h
    refine ⟨_, pss_cons (ps_if (pt_cmpR op_eq (pv 1) (pe_num g0) (nomark _)) (pss_one (ps_ret (pe_meth (pv 0) CS MS FS (hr.mono (by decide)) bS .nil pass0 (pa_cons (pe_ix ix_list (pv 2) pe_int (fun _ _ => rfl)) (pa_cons (pv 3) pa_nil))))) pss_nil)
      (pss_cons (ps_if (pt_cmpR op_eq (pv 1) (pe_num g1) (nomark _)) (pss_one (ps_ret (pe_meth (pv 0) CS MC FC (hr.mono (by decide)) bC .nil pass0 (pa_cons (pv 3) pa_nil)))) pss_nil)
      (pss_cons (ps_if (pt_cmpR op_eq (pv 1) (pe_num g2) (nomark _)) (pss_one (ps_ret (pe_meth (pv 0) CS MT FT (hr.mono (by decide)) bT .nil pass0 (pa_cons (pv 3) pa_nil)))) pss_nil)
      (pss_cons (ps_if (pt_cmpR op_eq (pv 1) (pe_num g3) (nomark _)) (pss_one (ps_ret (pe_meth (pv 0) CS MO FO (hr.mono (by decide)) bO .nil pass0 (pa_cons (pv 3) pa_nil)))) pss_nil)
      (pss_cons (ps_if (pt_cmpR op_eq (pv 1) (pe_num g4) (nomark _)) (pss_one (ps_ret (pe_meth (pv 0) CS ML FL (hr.mono (by decide)) bL .nil pass0 (pa_cons (pe_ix ix_list (pv 2) pe_int (fun _ _ => rfl)) pa_nil)))) pss_nil)
      (pss_cons (ps_if (pt_cmpR op_eq (pv 1) (pe_num g5) (nomark _)) (pss_one (ps_ret (pe_meth (pv 0) CS MH FH (hr.mono (by decide)) bH .nil pass0 (pa_cons (pe_ix ix_list (pv 2) pe_int (fun _ _ => rfl)) (pa_cons (pe_ix ix_list (pv 2) pe_int (fun _ _ => rfl)) pa_nil))))) pss_nil)
      (pss_cons (ps_if (pt_cmpR op_eq (pv 1) (pe_num g6) (nomark _)) (pss_one (ps_ret (pe_meth (pv 0) CS MP FP (hr.mono (by decide)) bP .nil pass0 (pa_cons (pe_ix ix_list (pv 2) pe_int (fun _ _ => rfl)) pa_nil)))) pss_nil)
      (pss_one (ps_ret (pe_meth (pv 0) CS MF FF (hr.mono (by decide)) bF .nil pass0 (pa_cons (pe_ix ix_list (pv 2) pe_int (fun _ _ => rfl)) (pa_cons (pv 3) pa_nil))))))))))), ?_⟩
    obtain ⟨dx, tb, wd, bk, hI⟩ := hS.ins
    refine ⟨_, rfl, rfl, _, rfl, ?_⟩
    rw [int_eq]
    cases hf with
    | start W t hW ht =>
      rw [decide_eq_true (show kOf [[0, (W : Int)], Km344Neutral.nums (enc t)] = 0 from rfl)]
      refine iteT ⟨_, rfl, S, dx, _, rfl, hI, sesF_no _ _ _ (by decide +kernel) (by decide +kernel) (by decide +kernel), _, rfl, nu, _, 0, vn W, rfl, rfl, h1, rfl, _, rfl, S, ro, z, W, t, s, rfl, hS, hzo, ?_, ?_, ?_⟩
      · rw [← iv_nums]
        exact h2
      · rw [← nums_length]
        exact hlen
      · rw [← step_start s ht]
        exact k
    | cells x hx =>
      cases s with
      | none => exact absurd (hn rfl) (by show ¬ ((1 : Int) = 0); decide)
      | some a =>
        rw [decide_eq_false (show ¬ (kOf [[1], Km344Neutral.nums x] = 0) by show ¬ ((1 : Int) = 0); decide)]
        refine iteF ⟨_, rfl, rfl, _, rfl, ?_⟩
        rw [int_eq]
        rw [decide_eq_true (show kOf [[1], Km344Neutral.nums x] = 1 from rfl)]
        refine iteT ⟨_, rfl, S, dx, _, rfl, hI, sesF_no _ _ _ (by decide +kernel) (by decide +kernel) (by decide +kernel), _, rfl, S, ro, z, x, a, rfl, hS, ?_, ?_, ?_⟩
        · rw [← iv_nums]
          exact h2
        · rw [← nums_length]
          exact hlen
        · rw [← step_cells a x]
          exact k
    | text x hx =>
      cases s with
      | none => exact absurd (hn rfl) (by show ¬ ((2 : Int) = 0); decide)
      | some a =>
        rw [decide_eq_false (show ¬ (kOf [[2], Km344Neutral.nums x] = 0) by show ¬ ((2 : Int) = 0); decide)]
        refine iteF ⟨_, rfl, rfl, _, rfl, ?_⟩
        rw [int_eq]
        rw [decide_eq_false (show ¬ (kOf [[2], Km344Neutral.nums x] = 1) by show ¬ ((2 : Int) = 1); decide)]
        refine iteF ⟨_, rfl, rfl, _, rfl, ?_⟩
        rw [int_eq]
        rw [decide_eq_true (show kOf [[2], Km344Neutral.nums x] = 2 from rfl)]
        refine iteT ⟨_, rfl, S, dx, _, rfl, hI, sesF_no _ _ _ (by decide +kernel) (by decide +kernel) (by decide +kernel), _, rfl, S, ro, z, x, a, rfl, hS, ?_, ?_, ?_⟩
        · rw [← iv_nums]
          exact h2
        · rw [← nums_length]
          exact hlen
        · rw [← step_text a x]
          exact k
    | opened x hx =>
      cases s with
      | none => exact absurd (hn rfl) (by show ¬ ((3 : Int) = 0); decide)
      | some a =>
        rw [decide_eq_false (show ¬ (kOf [[3], Km344Neutral.nums x] = 0) by show ¬ ((3 : Int) = 0); decide)]
        refine iteF ⟨_, rfl, rfl, _, rfl, ?_⟩
        rw [int_eq]
        rw [decide_eq_false (show ¬ (kOf [[3], Km344Neutral.nums x] = 1) by show ¬ ((3 : Int) = 1); decide)]
        refine iteF ⟨_, rfl, rfl, _, rfl, ?_⟩
        rw [int_eq]
        rw [decide_eq_false (show ¬ (kOf [[3], Km344Neutral.nums x] = 2) by show ¬ ((3 : Int) = 2); decide)]
        refine iteF ⟨_, rfl, rfl, _, rfl, ?_⟩
        rw [int_eq]
        rw [decide_eq_true (show kOf [[3], Km344Neutral.nums x] = 3 from rfl)]
        refine iteT ⟨_, rfl, S, dx, _, rfl, hI, sesF_no _ _ _ (by decide +kernel) (by decide +kernel) (by decide +kernel), _, rfl, S, ro, z, x, a, rfl, hS, hzo, ?_, hne, hnz, ?_, ?_⟩
        · rw [← iv_nums]
          exact h2
        · rw [← nums_length]
          exact hlen
        · rw [← step_open a x]
          exact k
    | line n hk' =>
      cases s with
      | none => exact absurd (hn rfl) (by show ¬ ((4 : Int) = 0); decide)
      | some a =>
        rw [decide_eq_false (show ¬ (kOf [[4, (n : Int)]] = 0) by show ¬ ((4 : Int) = 0); decide)]
        refine iteF ⟨_, rfl, rfl, _, rfl, ?_⟩
        rw [int_eq]
        rw [decide_eq_false (show ¬ (kOf [[4, (n : Int)]] = 1) by show ¬ ((4 : Int) = 1); decide)]
        refine iteF ⟨_, rfl, rfl, _, rfl, ?_⟩
        rw [int_eq]
        rw [decide_eq_false (show ¬ (kOf [[4, (n : Int)]] = 2) by show ¬ ((4 : Int) = 2); decide)]
        refine iteF ⟨_, rfl, rfl, _, rfl, ?_⟩
        rw [int_eq]
        rw [decide_eq_false (show ¬ (kOf [[4, (n : Int)]] = 3) by show ¬ ((4 : Int) = 3); decide)]
        refine iteF ⟨_, rfl, rfl, _, rfl, ?_⟩
        rw [int_eq]
        rw [decide_eq_true (show kOf [[4, (n : Int)]] = 4 from rfl)]
        refine iteT ⟨_, rfl, S, dx, _, rfl, hI, sesF_no _ _ _ (by decide +kernel) (by decide +kernel) (by decide +kernel), _, rfl, nu, _, 0, vn n, rfl, rfl, h1, rfl, S, z, n, a, rfl, hS, ?_⟩
        rw [← step_line a n]
        exact k
    | touch n e hk' hc =>
      cases s with
      | none => exact absurd (hn rfl) (by show ¬ ((5 : Int) = 0); decide)
      | some a =>
        rw [decide_eq_false (show ¬ (kOf [[5, (n : Int), (e : Int)]] = 0) by show ¬ ((5 : Int) = 0); decide)]
        refine iteF ⟨_, rfl, rfl, _, rfl, ?_⟩
        rw [int_eq]
        rw [decide_eq_false (show ¬ (kOf [[5, (n : Int), (e : Int)]] = 1) by show ¬ ((5 : Int) = 1); decide)]
        refine iteF ⟨_, rfl, rfl, _, rfl, ?_⟩
        rw [int_eq]
        rw [decide_eq_false (show ¬ (kOf [[5, (n : Int), (e : Int)]] = 2) by show ¬ ((5 : Int) = 2); decide)]
        refine iteF ⟨_, rfl, rfl, _, rfl, ?_⟩
        rw [int_eq]
        rw [decide_eq_false (show ¬ (kOf [[5, (n : Int), (e : Int)]] = 3) by show ¬ ((5 : Int) = 3); decide)]
        refine iteF ⟨_, rfl, rfl, _, rfl, ?_⟩
        rw [int_eq]
        rw [decide_eq_false (show ¬ (kOf [[5, (n : Int), (e : Int)]] = 4) by show ¬ ((5 : Int) = 4); decide)]
        refine iteF ⟨_, rfl, rfl, _, rfl, ?_⟩
        rw [int_eq]
        rw [decide_eq_true (show kOf [[5, (n : Int), (e : Int)]] = 5 from rfl)]
        exact iteT ⟨_, rfl, S, dx, _, rfl, hI, sesF_no _ _ _ (by decide +kernel) (by decide +kernel) (by decide +kernel), _, rfl, nu, _, 0, vn n, rfl, rfl, h1, rfl, _, rfl, nu, _, 1, vn e, rfl, rfl, h1, rfl, S, z, n, e, a, rfl, hS, k⟩
    | place n hp =>
      cases s with
      | none => exact absurd (hn rfl) (by show ¬ ((6 : Int) = 0); decide)
      | some a =>
        rw [decide_eq_false (show ¬ (kOf [[6, (n : Int)]] = 0) by show ¬ ((6 : Int) = 0); decide)]
        refine iteF ⟨_, rfl, rfl, _, rfl, ?_⟩
        rw [int_eq]
        rw [decide_eq_false (show ¬ (kOf [[6, (n : Int)]] = 1) by show ¬ ((6 : Int) = 1); decide)]
        refine iteF ⟨_, rfl, rfl, _, rfl, ?_⟩
        rw [int_eq]
        rw [decide_eq_false (show ¬ (kOf [[6, (n : Int)]] = 2) by show ¬ ((6 : Int) = 2); decide)]
        refine iteF ⟨_, rfl, rfl, _, rfl, ?_⟩
        rw [int_eq]
        rw [decide_eq_false (show ¬ (kOf [[6, (n : Int)]] = 3) by show ¬ ((6 : Int) = 3); decide)]
        refine iteF ⟨_, rfl, rfl, _, rfl, ?_⟩
        rw [int_eq]
        rw [decide_eq_false (show ¬ (kOf [[6, (n : Int)]] = 4) by show ¬ ((6 : Int) = 4); decide)]
        refine iteF ⟨_, rfl, rfl, _, rfl, ?_⟩
        rw [int_eq]
        rw [decide_eq_false (show ¬ (kOf [[6, (n : Int)]] = 5) by show ¬ ((6 : Int) = 5); decide)]
        refine iteF ⟨_, rfl, rfl, _, rfl, ?_⟩
        rw [int_eq]
        rw [decide_eq_true (show kOf [[6, (n : Int)]] = 6 from rfl)]
        exact iteT ⟨_, rfl, S, dx, _, rfl, hI, sesF_no _ _ _ (by decide +kernel) (by decide +kernel) (by decide +kernel), _, rfl, nu, _, 0, vn n, rfl, rfl, h1, rfl, S, z, n, a, rfl, hS, k⟩
    | found b x hb hx =>
      cases s with
      | none => exact absurd (hn rfl) (by show ¬ ((7 : Int) = 0); decide)
      | some a =>
        rw [decide_eq_false (show ¬ (kOf [[7, (b : Int)], Km344Neutral.nums x] = 0) by show ¬ ((7 : Int) = 0); decide)]
        refine iteF ⟨_, rfl, rfl, _, rfl, ?_⟩
        rw [int_eq]
        rw [decide_eq_false (show ¬ (kOf [[7, (b : Int)], Km344Neutral.nums x] = 1) by show ¬ ((7 : Int) = 1); decide)]
        refine iteF ⟨_, rfl, rfl, _, rfl, ?_⟩
        rw [int_eq]
        rw [decide_eq_false (show ¬ (kOf [[7, (b : Int)], Km344Neutral.nums x] = 2) by show ¬ ((7 : Int) = 2); decide)]
        refine iteF ⟨_, rfl, rfl, _, rfl, ?_⟩
        rw [int_eq]
        rw [decide_eq_false (show ¬ (kOf [[7, (b : Int)], Km344Neutral.nums x] = 3) by show ¬ ((7 : Int) = 3); decide)]
        refine iteF ⟨_, rfl, rfl, _, rfl, ?_⟩
        rw [int_eq]
        rw [decide_eq_false (show ¬ (kOf [[7, (b : Int)], Km344Neutral.nums x] = 4) by show ¬ ((7 : Int) = 4); decide)]
        refine iteF ⟨_, rfl, rfl, _, rfl, ?_⟩
        rw [int_eq]
        rw [decide_eq_false (show ¬ (kOf [[7, (b : Int)], Km344Neutral.nums x] = 5) by show ¬ ((7 : Int) = 5); decide)]
        refine iteF ⟨_, rfl, rfl, _, rfl, ?_⟩
        rw [int_eq]
        rw [decide_eq_false (show ¬ (kOf [[7, (b : Int)], Km344Neutral.nums x] = 6) by show ¬ ((7 : Int) = 6); decide)]
        refine iteF ⟨_, rfl, S, dx, _, rfl, hI, sesF_no _ _ _ (by decide +kernel) (by decide +kernel) (by decide +kernel), _, rfl, nu, _, 0, vn b, rfl, rfl, h1, rfl, _, rfl, S, ro, z, b, x, a, rfl, hS, ?_, ?_, hb, ?_⟩
        · rw [← iv_nums]
          exact h2
        · rw [← nums_length]
          exact hlen
        · rw [← step_find a b x]
          exact k
end
end Fc

set_option Elab.async false
set_option linter.all false
set_option maxRecDepth 100000
set_option maxHeartbeats 2000000
/-! pages.py: the loop -/
namespace Fc
open PySem PySem.Spec PyProof.Rows L2 FcR
theorem iv_length (l : List Int) : (iv l).length = l.length := List.length_map ..
theorem iv_append (a b : List Int) : iv (a ++ b) = iv a ++ iv b := List.map_append
theorem iv_at {ns A B : List Int} {x : Int} (h : ns = A ++ x :: B) : (iv ns)[A.length]? = some (V.int x) := by
  unfold iv
  rw [h, List.getElem?_map, List.getElem?_append_right (Nat.le_refl _), Nat.sub_self]
  rfl
theorem cut_iv {ns A L B : List Int} (h : ns = A ++ (L ++ B)) : cutV (iv ns) (some ((A.length : Nat) : Int)) (some ((A.length + L.length : Nat) : Int)) = iv L := by
  have hl : ns.length = A.length + (L.length + B.length) := by rw [h, List.length_append, List.length_append]
  unfold cutV
  rw [HT.sIx_nat, HT.sIx_nat, iv_length, Nat.min_eq_left (by omega : A.length ≤ ns.length), Nat.min_eq_left (by omega : A.length + L.length ≤ ns.length)]
  unfold iv
  rw [← List.map_drop, ← List.map_take, h, List.drop_left, Nat.add_sub_cancel_left, List.take_left]
/-- a list that was there is there still -/
theorem seq_but {K : PySem.W.Frag} {H H' : Hp} {a : Addr} {xs : List V} (h : SqL K H a xs) (k : ∀ o, H a = some o → H' a = some o) : SqL K H' a xs := by
  rcases h with h | h
  · rcases h with h | ⟨o, h⟩
    · exact .inl (.inl (k _ h))
    · exact .inl (.inr ⟨o, k _ h⟩)
  · exact .inr h
theorem paired_left {C : Addr} {H : Hp} {as : List Addr} {ls : List (List Rec)} (h : PySem.Paired (LineAt C H) as ls) : ∀ b ∈ as, ∃ l, LineAt C H b l := by
  induction h with
  | nil => intro b hb; cases hb
  | @cons x y xs ys r t ih =>
    intro b hb
    rcases List.mem_cons.mp hb with e | hb
    · rw [e]
      exact ⟨_, r⟩
    · exact ih b hb
theorem DictAt.keepN {H H' : Hp} {d : Addr} {Kf : List Nat → Option (List Nat)} (h : DictAt H d Kf) (s : NL H H') : DictAt H' d Kf := by
  obtain ⟨kvs, e, h⟩ := h
  refine ⟨kvs, s _ _ e (fun xs z => by cases z), fun key => ?_⟩
  rcases h key with h | ⟨q, v, h1, h2, h3⟩
  · exact .inl h
  · exact .inr ⟨q, v, h1, h2, s _ _ h3 (fun xs z => by cases z)⟩
/-- writing to a list of answers hurts nothing of the object's -/
theorem SessAt.away {K : PySem.W.Frag} {c : CAs} {H H' : Hp} {S p : Addr} {s : Km344Neutral.S} {outs : List Int} (h : SessAt K c H S p s) (hp : H p = some (.lst (iv outs))) (k : Keep [p] H H') : SessAt K c H' S p s := by
  have nl : NL H H' := fun b o eb no => k b o eb fun e => by
    rw [List.mem_singleton.mp e, hp] at eb
    exact no _ (Option.some.inj eb).symm
  have kk : ∀ b, b ≠ p → ∀ o, H b = some o → H' b = some o := fun b nb o eb => k b o eb fun e => nb (List.mem_singleton.mp e)
  cases s with
  | none =>
    obtain ⟨dx, bk, h⟩ := h
    exact ⟨dx, bk, nl _ _ h (fun xs z => by cases z)⟩
  | some a =>
    obtain ⟨dx, tb, bk, h1, ⟨dy, d1, d2, t1, t2, t3⟩, h3, h4, h5, h6, B, ta, L, e, g1, g2, g3, g4, g5, ⟨dz, LA, as, sp, b1, b2, ⟨xs, x1, x2, x3⟩, f1, f2, f3⟩, g7⟩ := h
    refine ⟨dx, tb, bk, nl _ _ h1 (fun xs z => by cases z), ⟨dy, d1, d2, nl _ _ t1 (fun xs z => by cases z), t2.keepN nl, t3.keepN nl⟩, h3, h4, h5, h6, B, ta, L, e, seq_but g1 (kk ta g7), g2, g3, g4, g5, ⟨dz, LA, as, sp, nl _ _ b1 (fun xs z => by cases z), ⟨kk LA f1 _ b2.lst, paired_keep b2.all nl (fun b hb o eb => kk b (f3 b hb) o eb), b2.nd, b2.out⟩, ⟨xs, kk sp f2 _ x1, x2, fun i hi => ?_⟩, f1, f2, f3⟩, g7⟩
    rcases x3 i hi with h | ⟨q, k', c', e1, e2, e3⟩
    · exact .inl h
    · exact .inr ⟨q, k', c', e1, nl _ _ e2 (fun xs z => by cases z), e3⟩
/-- has the call a row? -/
def hasR (d : List (List Int)) : Bool := !d.tail.isEmpty
def tailC (d : List (List Int)) : List Int := if hasR d = true then ((rOf d).length : Int) :: rOf d else []
theorem form_flat {d : List (List Int)} (hf : Form d) : flatC d = kOf d :: (nOf d ++ tailC d) := by
  cases hf with
  | start W t hW ht =>
    show ([0, (W : Int)] ++ ((((Km344Neutral.nums (enc t)).length : Int) :: Km344Neutral.nums (enc t)) ++ [])) = _
    rw [List.append_nil]
    rfl
  | cells x hx =>
    show ([1] ++ ((((Km344Neutral.nums x).length : Int) :: Km344Neutral.nums x) ++ [])) = _
    rw [List.append_nil]
    rfl
  | text x hx =>
    show ([2] ++ ((((Km344Neutral.nums x).length : Int) :: Km344Neutral.nums x) ++ [])) = _
    rw [List.append_nil]
    rfl
  | opened x hx =>
    show ([3] ++ ((((Km344Neutral.nums x).length : Int) :: Km344Neutral.nums x) ++ [])) = _
    rw [List.append_nil]
    rfl
  | line n hk' => rfl
  | touch n e hk' hc => rfl
  | place n hp => rfl
  | found b x hb hx =>
    show ([7, (b : Int)] ++ ((((Km344Neutral.nums x).length : Int) :: Km344Neutral.nums x) ++ [])) = _
    rw [List.append_nil]
    rfl
theorem form_ahead {d : List (List Int)} (hf : Form d) : atI [V.int 1, V.int 0, V.int 0, V.int 0, V.int 1, V.int 2, V.int 1, V.int 1] (kOf d) = some (V.int ((nOf d).length : Int)) := by
  cases hf <;> rfl
theorem form_has {d : List (List Int)} (hf : Form d) : atI [V.bl true, V.bl true, V.bl true, V.bl true, V.bl false, V.bl false, V.bl false, V.bl true] (kOf d) = some (V.bl (hasR d)) := by
  cases hf <;> rfl
theorem no_row {d : List (List Int)} (h : hasR d = false) : rOf d = [] := by
  unfold hasR at h
  unfold rOf
  cases e : d.tail with
  | nil => rfl
  | cons x l =>
    rw [e] at h
    cases h
section
variable {P : Program} {w : World} {K : PySem.W.Frag} {mg : Str → Option Value} {base : Heap} {c : CAs}
def spAns (K : PySem.W.Frag) : Sp := fun vs H Q _ => ∃ (a : Addr) (ns : List Int), vs = [.ref a] ∧ SqL K H a (iv ns) ∧ ns.length ≤ 30000 ∧ PyKm344.answers_asked ns = true ∧ ∀ (H' : Hp) (p : Addr), H' p = some (.lst (iv (PyKm344.answers ns))) → Q (.ref p) H'
theorem scAn : FnScope ["calls", "session", "answered", "at", "call", "behind", "numbers", "row", "answer"] ["calls"] (defScope sAnswers) := ⟨rfl, rfl, rfl, by decide +kernel, rfl, by decide +kernel, by decide +kernel⟩
theorem ok_answers {f fI fA tN tR : Addr} {fd fdI fdA : FuncData} (F : Fun K "answers" "answers" sAnswers f fd)
    (MS : Mk K c.CS fI) (FI : FnOk P w K mg base CX0 5 fI fdI ["self"] (spSessInit c.CS)) (bI : Binds K fdI ["self"] []) (gS : mg "Session" = some (.ref c.CS))
    (FA : FnOk P w K mg base CX0 8 fA fdA ["session", "call", "numbers", "row"] (spAnsOf K c)) (kA : PySem.W.keepIn K (.ref fA) = true) (bA : Binds K fdA ["session", "call", "numbers", "row"] []) (gA : mg "answer_of_call" = some (.ref fA))
    (gN : mg "NUMBERS_AHEAD" = some (.ref tN)) (hN : ∀ H, SqT K H tN [.int 1, .int 0, .int 0, .int 0, .int 1, .int 2, .int 1, .int 1])
    (gR : mg "HAS_ROW" = some (.ref tR)) (hR : ∀ H, SqT K H tR [.bl true, .bl true, .bl true, .bl true, .bl false, .bl false, .bl false, .bl true]) (b1 : mg "len" = none) : FnOk P w K mg base CX0 9 f fd ["calls"] (spAns K) := by
  refine F.ok scAn (fun vs H Q E h => ?_) (fun cdv A outer s0 H vs Q E hr h => ?_)
  · obtain ⟨a, ns, rfl, _⟩ := h
    rfl
  · obtain ⟨a, ns, rfl, ha, hlen, hask, k⟩ := h
    obtain ⟨cs, e1, e2, e3, e4, e5, e6, e7⟩ := asked_is hask
    have hr6 : Room 6 _ := hr.mono (by decide)
    refine ⟨_, pss_cons (ps_set (i := 1) scAn.nd rfl (.inl rfl) (pe_make0 MS FI hr6 (by rfl) gS bI .nil pass0))
      (pss_cons (ps_set (i := 2) scAn.nd rfl (.inl rfl) (pe_lst pa_nil))
      (pss_cons (ps_set (i := 3) scAn.nd rfl (.inl rfl) pe_int)
      (pss_cons (ps_while PassesOwn.never (pt_cmpR op_lt (pv 3) (pe_callB call_len_seq (by rfl) b1 PySem.boot_len (pa_cons (pv 0) pa_nil)) (nomark _))
        (pss_cons (ps_set (i := 4) scAn.nd rfl (.inl rfl) (pe_ix ix_list (pv 0) (pv 3) (fun _ _ => rfl)))
        (pss_cons (ps_set (i := 5) scAn.nd rfl (.inl rfl) (pe_op op_add (pe_op op_add (pv 3) pe_int) (pe_ix ix_tup (pe_glob (v := .ref tN) (by rfl) gN rfl) (pv 4) (fun _ _ => rfl))))
        (pss_cons (ps_set (i := 6) scAn.nd rfl (.inl rfl) (pe_slice sl_list (pv 0) (po_some (pe_op op_add (pv 3) pe_int)) (po_some (pv 5))))
        (pss_cons (ps_set (i := 7) scAn.nd rfl (.inl rfl) (pe_lst pa_nil))
        (pss_cons (ps_if (pt_val (pe_ix ix_tup (pe_glob (v := .ref tR) (by rfl) gR rfl) (pv 4) (fun _ _ => rfl)))
          (pss_cons (ps_set (i := 7) scAn.nd rfl (.inl rfl) (pe_slice sl_list (pv 0) (po_some (pe_op op_add (pv 5) pe_int)) (po_some (pe_op op_add (pe_op op_add (pv 5) pe_int) (pe_ix ix_list (pv 0) (pv 5) (fun _ _ => rfl))))))
          (pss_one (ps_aug (i := 5) scAn.nd rfl (.inl rfl) (pe_op op_add pe_int (pe_callB call_len_seq (by rfl) b1 PySem.boot_len (pa_cons (pv 7) pa_nil))) ip_add))) pss_nil)
        (pss_cons (ps_set (i := 8) scAn.nd rfl (.inl rfl) (pe_call FA hr (by rfl) gA kA bA .nil pass0 (pa_cons (pv 1) (pa_cons (pv 4) (pa_cons (pv 6) (pa_cons (pv 7) pa_nil))))))
        (pss_cons (ps_expr (pe_bm PySem.F.plainAttrs_list PySem.F.slot_list_append PySem.F.type_list_append mt_append (pv 2) (pa_cons (pe_callB call_len_seq (by rfl) b1 PySem.boot_len (pa_cons (pv 8) pa_nil)) pa_nil)))
        (pss_cons (ps_expr (pe_bm PySem.F.plainAttrs_list PySem.F.slot_list_extend PySem.F.type_list_extend mt_extend (pv 2) (pa_cons (pv 8) pa_nil)))
        (pss_one (ps_set (i := 3) scAn.nd rfl (.inl rfl) (pv 5))))))))))))
      (pss_one (ps_ret (pv 2)))))), ?_⟩
    refine fun S dx nS nD neD => ⟨S, dx, rfl, upd_same, fun H1 bk hS kp => ⟨rfl, ?_⟩⟩
    have sm1 : Same H H1 := fun b o eb => kp b o (by rw [upd_ne (ne_of_none eb nS), upd_ne (ne_of_none eb nD)]; exact eb) (fun e => by rw [List.mem_singleton.mp e] at eb; rw [nS] at eb; cases eb)
    refine ⟨by show 0 ≤ sizeLine; decide, fun p np => ?_⟩
    have npS : p ≠ S := fun e => by rw [e, hS] at np; cases np
    have np0 : H p = none := by
      cases e : H p with
      | none => rfl
      | some o => rw [sm1 _ _ e] at np; cases np
    refine while_by (fun σ H' => ∃ (done rest : List (List (List Int))) (s : Km344Neutral.S) (outs : List Int) (v4 v5 v6 v7 v8 : Option V), σ = [some (.ref a), some (.ref S), some (.ref p), some (vn (done.flatMap flatC).length), v4, v5, v6, v7, v8] ∧ Same H H' ∧ SessAt K c H' S p s ∧ H' p = some (.lst (iv outs)) ∧
        cs = done ++ rest ∧ Km344Neutral.may s rest = true ∧ outs ++ PyFlat.told (PyFlat.played Km344Neutral.step s rest) = PyKm344.answers ns)
      (fun σ _ => ns.length - natAt σ 3) ?_ ?_ ?_
    · exact ⟨[], cs, none, [], none, none, none, none, none, rfl, sm1.trans (Same.upd_new np), ⟨dx, bk, by rw [upd_ne npS.symm]; exact hS⟩, upd_same, rfl, e5, e6.symm⟩
    · rintro σ H' ⟨done, rest, s, outs, v4, v5, v6, v7, v8, rfl, sm, hSs, hp, ecs, hmay, hall⟩
      have ha' := sm.seq ha
      have ens : ns = done.flatMap flatC ++ rest.flatMap flatC := by rw [e1, ecs]; exact List.flatMap_append
      refine ⟨_, rfl, _, rfl, a, _, rfl, .inl ha', _, _, rfl, rfl, _, rfl, ?_⟩
      rw [iv_length]
      cases rest with
      | nil =>
        have e0 : ns = done.flatMap flatC := ens.trans (List.append_nil _)
        rw [decide_eq_false (show ¬ ((((done.flatMap flatC).length : Nat) : Int) < ((ns.length : Nat) : Int)) by rw [← e0]; omega)]
        refine iteF ⟨_, rfl, k _ _ ?_⟩
        rw [hp, ← hall]
        show _ = some (HO.lst (iv (outs ++ [])))
        rw [List.append_nil]
      | cons d rest =>
        have hd : d ∈ cs := by rw [ecs]; exact List.mem_append_right _ (List.mem_cons_self ..)
        have hf := e4 d hd
        have efl := form_flat hf
        have ens2 : ns = done.flatMap flatC ++ (kOf d :: (nOf d ++ (tailC d ++ rest.flatMap flatC))) := by
          rw [ens, List.flatMap_cons, efl]
          simp
        have hAd : ((done ++ [d]).flatMap flatC).length = (done.flatMap flatC).length + 1 + (nOf d).length + (tailC d).length := by
          have e : (done ++ [d]).flatMap flatC = done.flatMap flatC ++ flatC d := by
            rw [List.flatMap_append]
            simp
          rw [e, efl, List.length_append, List.length_cons, List.length_append]
          omega
        generalize hA : done.flatMap flatC = A at *
        generalize hB : rest.flatMap flatC = B at *
        have hl : ns.length = A.length + (1 + (nOf d).length + (tailC d).length + B.length) := by
          rw [ens2]
          simp
          omega
        have i1 : (iv ns)[A.length]? = some (V.int (kOf d)) := iv_at ens2
        have c1 : cutV (iv ns) (some ((A.length + 1 : Nat) : Int)) (some ((A.length + 1 + (nOf d).length : Nat) : Int)) = iv (nOf d) := by
          have := cut_iv (ns := ns) (A := A ++ [kOf d]) (L := nOf d) (B := tailC d ++ B) (by rw [ens2]; simp)
          rw [List.length_append] at this
          exact this
        rw [decide_eq_true (show (((A.length : Nat) : Int) < ((ns.length : Nat) : Int)) by omega)]
        refine iteT ?_
        refine ⟨_, rfl, _, rfl, a, _, _, _, rfl, rfl, ha', atI_nat i1, ?_⟩
        refine ⟨_, rfl, _, _, rfl, rfl, _, rfl, tN, _, _, _, rfl, rfl, hN _, form_ahead hf, _, _, rfl, rfl, ?_⟩
        have x5 : ((A.length : Nat) : Int) + 1 + ((nOf d).length : Int) = ((A.length + 1 + (nOf d).length : Nat) : Int) := by omega
        dsimp only
        rw [x5]
        refine ⟨_, rfl, _, rfl, _, _, rfl, rfl, _, rfl, _, rfl, _, rfl, a, iv ns, rfl, ha', fun q1 nq1 => ?_⟩
        rw [show ((A.length : Nat) : Int) + 1 = ((A.length + 1 : Nat) : Int) by omega, c1]
        have s1 := Same.upd_new (o := .lst (iv (nOf d))) nq1
        refine ⟨by show 0 ≤ sizeLine; decide, fun q0 nq0 => ?_⟩
        have s2 := s1.trans (Same.upd_new (o := .lst []) nq0)
        have hq1 : (upd (upd H' q1 (.lst (iv (nOf d)))) q0 (.lst [])) q1 = some (.lst (iv (nOf d))) := Same.upd_new nq0 _ _ upd_same
        dsimp only [gName]
        refine seq_mid (fun σ2 H2 => ∃ q2, σ2 = [some (.ref a), some (.ref S), some (.ref p), some (vn A.length), some (V.int (kOf d)), some (vn (A.length + 1 + (nOf d).length + (tailC d).length)), some (.ref q1), some (.ref q2), v8] ∧ Same H' H2 ∧ H' q2 = none ∧
          H2 q1 = some (.lst (iv (nOf d))) ∧ H2 q2 = some (.lst (iv (rOf d)))) ?_ ?_
        · rintro σ2 H2 ⟨q2, rfl, s3, nq2, hq1', hq2⟩
          obtain ⟨dx', tb', wd', bk', hI⟩ := hSs.ins
          have q2S : q2 ≠ S := fun e => by rw [e, hI] at nq2; cases nq2
          have q2p : q2 ≠ p := fun e => by rw [e, hp] at nq2; cases nq2
          have hnone : s = none → kOf d = 0 := fun e => by
            rw [e] at hmay
            obtain ⟨W, t, _, _, e2⟩ := may_none hf hmay
            rw [e2]
            rfl
          have hrl : (rOf d).length ≤ (tailC d).length := by
            unfold tailC
            cases hh : hasR d with
            | true => rw [if_pos rfl, List.length_cons]; omega
            | false => rw [no_row hh]; exact Nat.zero_le _
          refine ⟨_, rfl, _, rfl, _, rfl, _, rfl, S, q1, q2, p, d, s, rfl, hSs.same s3, ⟨_, s3 _ _ hp⟩, hf, hnone, SqL.of hq1', SqL.of hq2, q2S, q2p, by omega, fun H4 p4 kp4 hS4 np4 hp4 => ?_⟩
          have pS : p ∉ [S] := fun e => npS (List.mem_singleton.mp e)
          have hp' := kp4 _ _ (s3 _ _ hp) pS
          have p4p : p4 ≠ p := fun e => by
            rw [e, s3 _ _ hp] at np4
            cases np4
          have hall2 := hall
          rw [told_more] at hall2
          have hlo : outs.length + (1 + (Km344Neutral.step s d).2.length) ≤ 10000000 := by
            have e := congrArg List.length hall2
            rw [List.length_append, List.length_append, List.length_cons] at e
            omega
          refine ⟨_, rfl, .inl ⟨rfl, _, SqL.of hp'⟩, _, rfl, p4, _, rfl, .inl (SqL.of hp4), p, _, _, rfl, rfl, hp', big _ (by rw [iv_length]; omega), ?_⟩
          refine ⟨_, rfl, .inl ⟨rfl, _, SqL.of upd_same⟩, _, rfl, p, p4, _, _, rfl, rfl, upd_same, (by rw [upd_ne p4p]; exact hp4), Nat.le_of_lt (big _ ?_), _, rfl, ?_⟩
          · rw [List.length_append, iv_length, iv_length]
            show outs.length + 1 + _ ≤ _
            omega
          refine ⟨⟨done ++ [d], rest, (Km344Neutral.step s d).1, outs ++ (((Km344Neutral.step s d).2.length : Int) :: (Km344Neutral.step s d).2), some (V.int (kOf d)), some (vn (A.length + 1 + (nOf d).length + (tailC d).length)), some (.ref q1), some (.ref q2), some (.ref p4), ?_, ?_, ?_, ?_, ?_, may_next hmay, ?_⟩, ?_⟩
          · rw [hAd]
            rfl
          · have sm4 : Same H H4 := fun b o eb => kp4 b o ((sm.trans s3) _ _ eb) (fun e => by rw [List.mem_singleton.mp e, nS] at eb; cases eb)
            exact Same.upd_own (Same.upd_own sm4 np0) np0
          · exact hS4.away hp' (Keep.upd (Keep.upd (fun b o eb _ => eb) (.inl (List.mem_singleton.mpr rfl))) (.inl (List.mem_singleton.mpr rfl)))
          · rw [upd_same, iv_append]
            show some (HO.lst (iv outs ++ [V.int ((iv (Km344Neutral.step s d).2).length : Int)] ++ iv (Km344Neutral.step s d).2)) = _
            rw [iv_length, List.append_assoc]
            rfl
          · rw [ecs, List.append_assoc]
            rfl
          · rw [← hall2, List.append_assoc]
          · show ns.length - (((A.length + 1 + (nOf d).length + (tailC d).length : Nat) : Int)).toNat < ns.length - ((A.length : Nat) : Int).toNat
            omega
        · intro N hNx
          refine ⟨_, rfl, tR, _, _, _, rfl, rfl, hR _, form_has hf, _, rfl, ?_⟩
          cases hh : hasR d with
          | false =>
            have et : tailC d = [] := by unfold tailC; rw [hh]; rfl
            refine iteF (hNx _ _ ⟨q0, ?_, s2, s1.free nq0, hq1, ?_⟩)
            · rw [et]
              rfl
            · rw [no_row hh]
              exact upd_same
          | true =>
            have et : tailC d = ((rOf d).length : Int) :: rOf d := by unfold tailC; rw [hh]; rfl
            rw [et] at ens2 hl
            rw [List.length_cons] at hl
            have i2 : (iv ns)[A.length + 1 + (nOf d).length]? = some (V.int ((rOf d).length : Int)) := by
              have := iv_at (ns := ns) (A := A ++ kOf d :: nOf d) (x := ((rOf d).length : Int)) (B := rOf d ++ B) (by rw [ens2]; simp)
              rw [List.length_append, List.length_cons, show A.length + ((nOf d).length + 1) = A.length + 1 + (nOf d).length by omega] at this
              exact this
            have c2 : cutV (iv ns) (some ((A.length + 2 + (nOf d).length : Nat) : Int)) (some ((A.length + 2 + (nOf d).length + (rOf d).length : Nat) : Int)) = iv (rOf d) := by
              have := cut_iv (ns := ns) (A := A ++ kOf d :: (nOf d ++ [((rOf d).length : Int)])) (L := rOf d) (B := B) (by rw [ens2]; simp)
              rw [List.length_append, List.length_cons, List.length_append, show A.length + ((nOf d).length + [((rOf d).length : Int)].length + 1) = A.length + 2 + (nOf d).length by show A.length + ((nOf d).length + 1 + 1) = _; omega] at this
              exact this
            refine iteT ?_
            have ha2 := s2.seq ha'
            refine ⟨_, rfl, _, rfl, _, _, rfl, rfl, _, rfl, _, rfl, _, _, rfl, rfl, _, rfl, _, rfl, a, _, _, _, rfl, rfl, ha2, atI_nat i2, _, _, rfl, rfl, _, rfl, a, iv ns, rfl, ha2, fun q2 nq2 => ?_⟩
            rw [show ((A.length + 1 + (nOf d).length : Nat) : Int) + 1 = ((A.length + 2 + (nOf d).length : Nat) : Int) by omega, show ((A.length + 2 + (nOf d).length : Nat) : Int) + ((rOf d).length : Int) = ((A.length + 2 + (nOf d).length + (rOf d).length : Nat) : Int) by omega, c2]
            have s3 := s2.trans (Same.upd_new (o := .lst (iv (rOf d))) nq2)
            refine ⟨_, rfl, _, rfl, q2, _, rfl, .inl (SqL.of upd_same), _, _, rfl, rfl, _, _, rfl, rfl, hNx _ _ ⟨q2, ?_, s3, s2.free nq2, Same.upd_new nq2 _ _ hq1, upd_same⟩⟩
            rw [et, iv_length, List.length_cons]
            dsimp only
            rw [show ((A.length + 1 + (nOf d).length : Nat) : Int) + (1 + ((rOf d).length : Int)) = ((A.length + 1 + (nOf d).length + ((rOf d).length + 1) : Nat) : Int) by omega]
            rfl
    · rintro σ H' Q1 Q2 hq ⟨v, e, v2, e2, p, ys, e3, hs, i, j, ei, ej, k, ek, q⟩
      exact ⟨v, e, v2, e2, p, ys, e3, hs, i, j, ei, ej, k, ek, hq _ _ q⟩
end
end Fc

set_option Elab.async false
set_option linter.all false
set_option maxRecDepth 100000
set_option maxHeartbeats 8000000
namespace Fc
open PySem PySem.Spec PyProof.Rows L2 FcR
theorem all_mk {P : Program} {w : World} {K : PySem.W.Frag} {h : Heap} {mg : Str → Option Value} {fa : Addr} (X : K.In h) (G : h.Ns mainGlobals mg) (hfa : mg "answers" = some (.ref fa))
    {CT : Addr} {CL : Addr} {CB : Addr} {CS : Addr} {fLetter : Addr} {ocLetter : Value} {odLetter anLetter : Option Addr} {slLetter : Array (Option Value)} {kVLetter dcLetter pmLetter cdLetter ctLetter : Value} {fPieces : Addr} {ocPieces : Value} {odPieces anPieces : Option Addr} {slPieces : Array (Option Value)} {kVPieces dcPieces pmPieces cdPieces ctPieces : Value} {fTabI : Addr} {ocTabI : Value} {odTabI anTabI : Option Addr} {slTabI : Array (Option Value)} {kVTabI dcTabI pmTabI cdTabI ctTabI : Value} {fEntOf : Addr} {ocEntOf : Value} {odEntOf anEntOf : Option Addr} {slEntOf : Array (Option Value)} {kVEntOf dcEntOf pmEntOf cdEntOf ctEntOf : Value} {fIsEnt : Addr} {ocIsEnt : Value} {odIsEnt anIsEnt : Option Addr} {slIsEnt : Array (Option Value)} {kVIsEnt dcIsEnt pmIsEnt cdIsEnt ctIsEnt : Value} {fIsTab : Addr} {ocIsTab : Value} {odIsTab anIsTab : Option Addr} {slIsTab : Array (Option Value)} {kVIsTab dcIsTab pmIsTab cdIsTab ctIsTab : Value} {fFew : Addr} {ocFew : Value} {odFew anFew : Option Addr} {slFew : Array (Option Value)} {kVFew dcFew pmFew cdFew ctFew : Value} {fRowBy : Addr} {ocRowBy : Value} {odRowBy anRowBy : Option Addr} {slRowBy : Array (Option Value)} {kVRowBy dcRowBy pmRowBy cdRowBy ctRowBy : Value} {fTxtsOf : Addr} {ocTxtsOf : Value} {odTxtsOf anTxtsOf : Option Addr} {slTxtsOf : Array (Option Value)} {kVTxtsOf dcTxtsOf pmTxtsOf cdTxtsOf ctTxtsOf : Value} {fCellsOf : Addr} {ocCellsOf : Value} {odCellsOf anCellsOf : Option Addr} {slCellsOf : Array (Option Value)} {kVCellsOf dcCellsOf pmCellsOf cdCellsOf ctCellsOf : Value} {fTextOf : Addr} {ocTextOf : Value} {odTextOf anTextOf : Option Addr} {slTextOf : Array (Option Value)} {kVTextOf dcTextOf pmTextOf cdTextOf ctTextOf : Value} {fLaidI : Addr} {ocLaidI : Value} {odLaidI anLaidI : Option Addr} {slLaidI : Array (Option Value)} {kVLaidI dcLaidI pmLaidI cdLaidI ctLaidI : Value} {fBookI : Addr} {ocBookI : Value} {odBookI anBookI : Option Addr} {slBookI : Array (Option Value)} {kVBookI dcBookI pmBookI cdBookI ctBookI : Value} {fNoB : Addr} {ocNoB : Value} {odNoB anNoB : Option Addr} {slNoB : Array (Option Value)} {kVNoB dcNoB pmNoB cdNoB ctNoB : Value} {fSpots : Addr} {ocSpots : Value} {odSpots anSpots : Option Addr} {slSpots : Array (Option Value)} {kVSpots dcSpots pmSpots cdSpots ctSpots : Value} {fCellsL : Addr} {ocCellsL : Value} {odCellsL anCellsL : Option Addr} {slCellsL : Array (Option Value)} {kVCellsL dcCellsL pmCellsL cdCellsL ctCellsL : Value} {fLaidA : Addr} {ocLaidA : Value} {odLaidA anLaidA : Option Addr} {slLaidA : Array (Option Value)} {kVLaidA dcLaidA pmLaidA cdLaidA ctLaidA : Value} {fPlaceO : Addr} {ocPlaceO : Value} {odPlaceO anPlaceO : Option Addr} {slPlaceO : Array (Option Value)} {kVPlaceO dcPlaceO pmPlaceO cdPlaceO ctPlaceO : Value} {fBookOf : Addr} {ocBookOf : Value} {odBookOf anBookOf : Option Addr} {slBookOf : Array (Option Value)} {kVBookOf dcBookOf pmBookOf cdBookOf ctBookOf : Value} {fParOf : Addr} {ocParOf : Value} {odParOf anParOf : Option Addr} {slParOf : Array (Option Value)} {kVParOf dcParOf pmParOf cdParOf ctParOf : Value} {fLayW : Addr} {ocLayW : Value} {odLayW anLayW : Option Addr} {slLayW : Array (Option Value)} {kVLayW dcLayW pmLayW cdLayW ctLayW : Value} {fCellFor : Addr} {ocCellFor : Value} {odCellFor anCellFor : Option Addr} {slCellFor : Array (Option Value)} {kVCellFor dcCellFor pmCellFor cdCellFor ctCellFor : Value} {fSure : Addr} {ocSure : Value} {odSure anSure : Option Addr} {slSure : Array (Option Value)} {kVSure dcSure pmSure cdSure ctSure : Value} {fTails : Addr} {ocTails : Value} {odTails anTails : Option Addr} {slTails : Array (Option Value)} {kVTails dcTails pmTails cdTails ctTails : Value} {fBehind : Addr} {ocBehind : Value} {odBehind anBehind : Option Addr} {slBehind : Array (Option Value)} {kVBehind dcBehind pmBehind cdBehind ctBehind : Value} {fNote : Addr} {ocNote : Value} {odNote anNote : Option Addr} {slNote : Array (Option Value)} {kVNote dcNote pmNote cdNote ctNote : Value} {fSesI : Addr} {ocSesI : Value} {odSesI anSesI : Option Addr} {slSesI : Array (Option Value)} {kVSesI dcSesI pmSesI cdSesI ctSesI : Value} {fStart : Addr} {ocStart : Value} {odStart anStart : Option Addr} {slStart : Array (Option Value)} {kVStart dcStart pmStart cdStart ctStart : Value} {fFpCells : Addr} {ocFpCells : Value} {odFpCells anFpCells : Option Addr} {slFpCells : Array (Option Value)} {kVFpCells dcFpCells pmFpCells cdFpCells ctFpCells : Value} {fFpText : Addr} {ocFpText : Value} {odFpText anFpText : Option Addr} {slFpText : Array (Option Value)} {kVFpText dcFpText pmFpText cdFpText ctFpText : Value} {fOpen : Addr} {ocOpen : Value} {odOpen anOpen : Option Addr} {slOpen : Array (Option Value)} {kVOpen dcOpen pmOpen cdOpen ctOpen : Value} {fFpLine : Addr} {ocFpLine : Value} {odFpLine anFpLine : Option Addr} {slFpLine : Array (Option Value)} {kVFpLine dcFpLine pmFpLine cdFpLine ctFpLine : Value} {fFpTouch : Addr} {ocFpTouch : Value} {odFpTouch anFpTouch : Option Addr} {slFpTouch : Array (Option Value)} {kVFpTouch dcFpTouch pmFpTouch cdFpTouch ctFpTouch : Value} {fFpPlace : Addr} {ocFpPlace : Value} {odFpPlace anFpPlace : Option Addr} {slFpPlace : Array (Option Value)} {kVFpPlace dcFpPlace pmFpPlace cdFpPlace ctFpPlace : Value} {fFpFind : Addr} {ocFpFind : Value} {odFpFind anFpFind : Option Addr} {slFpFind : Array (Option Value)} {kVFpFind dcFpFind pmFpFind cdFpFind ctFpFind : Value} {fIsText : Addr} {ocIsText : Value} {odIsText anIsText : Option Addr} {slIsText : Array (Option Value)} {kVIsText dcIsText pmIsText cdIsText ctIsText : Value} {fAns : Addr} {ocAns : Value} {odAns anAns : Option Addr} {slAns : Array (Option Value)} {kVAns dcAns pmAns cdAns ctAns : Value} {fAnsOf : Addr} {ocAnsOf : Value} {odAnsOf anAnsOf : Option Addr} {slAnsOf : Array (Option Value)} {kVAnsOf dcAnsOf pmAnsOf cdAnsOf ctAnsOf : Value} {tLINE_END : Tok} {tBLANK : Tok} {tFIRST_LETTER : Tok} {tLAST_LETTER : Tok} {tEMPTY_CELL : Tok} {tLAST_CELL : Tok} {tLEAST_ENTRIES : Tok} {tMOST_ENTRIES : Tok} {tMOST_LETTERS : Tok} {tMOST_CELLS : Tok} {tLEAST_WIDTH : Tok} {tMOST_WIDTH : Tok} {tMOST_TEXT : Tok} {tMOST_CELLS_READ : Tok} {tNO_ROW : Tok} {tNOT_VALID : Tok} {tTOO_LONG : Tok} {tNOT_SURE : Tok} {tSTART : Tok} {tCELLS : Tok} {tTEXT : Tok} {tBOOK : Tok} {tLINE : Tok} {tTOUCH : Tok} {tPLACE : Tok} {tMOST_BYTES_FOUND : Tok} {tNOT_THERE : Tok} {vNUMBERS_AHEAD : Addr} {yNUMBERS_AHEAD_0 yNUMBERS_AHEAD_1 yNUMBERS_AHEAD_2 yNUMBERS_AHEAD_3 yNUMBERS_AHEAD_4 yNUMBERS_AHEAD_5 yNUMBERS_AHEAD_6 yNUMBERS_AHEAD_7 : Tok} {dNUMBERS_AHEAD : Option Addr} {nNUMBERS_AHEAD : Nat} {sNUMBERS_AHEAD : Array (Option Value)} {vHAS_ROW : Addr} {dHAS_ROW : Option Addr} {nHAS_ROW : Nat} {sHAS_ROW : Array (Option Value)}
    (gCT : PySem.W.nsIn K mainGlobals "Table" = some (some (.ref CT)))
    (pgCT : PySem.W.plainGet K CT Str.empty = true)
    (hdCT : PySem.W.hasDictIn K CT = true)
    (poCT : PySem.W.plainOver K CT = true)
    (saCT : PySem.W.findIn K (.ref CT) "__setattr__" = some (some (.builtin "object.__setattr__")))
    (mkCT : PySem.W.makesIn K CT = true)
    (kcCT : PySem.W.keepIn K (.ref CT) = true)
    (nCT_cells_by_text : PySem.W.findIn K (.ref CT) "cells_by_text" = some none)
    (nCT_text_by_cells : PySem.W.findIn K (.ref CT) "text_by_cells" = some none)
    (gCL : PySem.W.nsIn K mainGlobals "Laid" = some (some (.ref CL)))
    (pgCL : PySem.W.plainGet K CL Str.empty = true)
    (hdCL : PySem.W.hasDictIn K CL = true)
    (poCL : PySem.W.plainOver K CL = true)
    (saCL : PySem.W.findIn K (.ref CL) "__setattr__" = some (some (.builtin "object.__setattr__")))
    (mkCL : PySem.W.makesIn K CL = true)
    (kcCL : PySem.W.keepIn K (.ref CL) = true)
    (nCL_place : PySem.W.findIn K (.ref CL) "place" = some none)
    (nCL_text : PySem.W.findIn K (.ref CL) "text" = some none)
    (nCL_cell : PySem.W.findIn K (.ref CL) "cell" = some none)
    (nCL_cells : PySem.W.findIn K (.ref CL) "cells" = some none)
    (gCB : PySem.W.nsIn K mainGlobals "Book" = some (some (.ref CB)))
    (pgCB : PySem.W.plainGet K CB Str.empty = true)
    (hdCB : PySem.W.hasDictIn K CB = true)
    (poCB : PySem.W.plainOver K CB = true)
    (saCB : PySem.W.findIn K (.ref CB) "__setattr__" = some (some (.builtin "object.__setattr__")))
    (mkCB : PySem.W.makesIn K CB = true)
    (kcCB : PySem.W.keepIn K (.ref CB) = true)
    (nCB_text : PySem.W.findIn K (.ref CB) "text" = some none)
    (nCB_lines : PySem.W.findIn K (.ref CB) "lines" = some none)
    (nCB_spots : PySem.W.findIn K (.ref CB) "spots" = some none)
    (gCS : PySem.W.nsIn K mainGlobals "Session" = some (some (.ref CS)))
    (pgCS : PySem.W.plainGet K CS Str.empty = true)
    (hdCS : PySem.W.hasDictIn K CS = true)
    (poCS : PySem.W.plainOver K CS = true)
    (saCS : PySem.W.findIn K (.ref CS) "__setattr__" = some (some (.builtin "object.__setattr__")))
    (mkCS : PySem.W.makesIn K CS = true)
    (kcCS : PySem.W.keepIn K (.ref CS) = true)
    (nCS_table : PySem.W.findIn K (.ref CS) "table" = some none)
    (nCS_width : PySem.W.findIn K (.ref CS) "width" = some none)
    (nCS_book : PySem.W.findIn K (.ref CS) "book" = some none)
    (aLetter : PySem.W.nsIn K mainGlobals "is_letter" = some (some (.ref fLetter)))
    (lLetter : K.lookup fLetter = some ⟨ocLetter, odLetter, .func (PySem.W.fnOf "is_letter" "is_letter" (defArgs sIsLetter) (defBody sIsLetter) (defScope sIsLetter) .none kVLetter dcLetter pmLetter anLetter cdLetter ctLetter), slLetter⟩)
    (cLetter : PySem.W.codeIn K cdLetter "is_letter" = true)
    (kLetter : PySem.W.keepIn K (.ref fLetter) = true)
    (aPieces : PySem.W.nsIn K mainGlobals "pieces" = some (some (.ref fPieces)))
    (lPieces : K.lookup fPieces = some ⟨ocPieces, odPieces, .func (PySem.W.fnOf "pieces" "pieces" (defArgs sPieces) (defBody sPieces) (defScope sPieces) .none kVPieces dcPieces pmPieces anPieces cdPieces ctPieces), slPieces⟩)
    (cPieces : PySem.W.codeIn K cdPieces "pieces" = true)
    (kPieces : PySem.W.keepIn K (.ref fPieces) = true)
    (aTabI : PySem.W.findIn K (.ref CT) "__init__" = some (some (.ref fTabI)))
    (iTabI : PySem.W.isFn K (.ref fTabI) = true)
    (lTabI : K.lookup fTabI = some ⟨ocTabI, odTabI, .func (PySem.W.fnOf "__init__" "Table.__init__" (defArgs sTableInit) (defBody sTableInit) (defScope sTableInit) .none kVTabI dcTabI pmTabI anTabI cdTabI ctTabI), slTabI⟩)
    (cTabI : PySem.W.codeIn K cdTabI "Table.__init__" = true)
    (kTabI : PySem.W.keepIn K (.ref fTabI) = true)
    (aEntOf : PySem.W.nsIn K mainGlobals "entries_of" = some (some (.ref fEntOf)))
    (lEntOf : K.lookup fEntOf = some ⟨ocEntOf, odEntOf, .func (PySem.W.fnOf "entries_of" "entries_of" (defArgs sEntriesOf) (defBody sEntriesOf) (defScope sEntriesOf) .none kVEntOf dcEntOf pmEntOf anEntOf cdEntOf ctEntOf), slEntOf⟩)
    (cEntOf : PySem.W.codeIn K cdEntOf "entries_of" = true)
    (kEntOf : PySem.W.keepIn K (.ref fEntOf) = true)
    (aIsEnt : PySem.W.nsIn K mainGlobals "is_entry" = some (some (.ref fIsEnt)))
    (lIsEnt : K.lookup fIsEnt = some ⟨ocIsEnt, odIsEnt, .func (PySem.W.fnOf "is_entry" "is_entry" (defArgs sIsEntry) (defBody sIsEntry) (defScope sIsEntry) .none kVIsEnt dcIsEnt pmIsEnt anIsEnt cdIsEnt ctIsEnt), slIsEnt⟩)
    (cIsEnt : PySem.W.codeIn K cdIsEnt "is_entry" = true)
    (kIsEnt : PySem.W.keepIn K (.ref fIsEnt) = true)
    (aIsTab : PySem.W.nsIn K mainGlobals "is_table" = some (some (.ref fIsTab)))
    (lIsTab : K.lookup fIsTab = some ⟨ocIsTab, odIsTab, .func (PySem.W.fnOf "is_table" "is_table" (defArgs sIsTable) (defBody sIsTable) (defScope sIsTable) .none kVIsTab dcIsTab pmIsTab anIsTab cdIsTab ctIsTab), slIsTab⟩)
    (cIsTab : PySem.W.codeIn K cdIsTab "is_table" = true)
    (kIsTab : PySem.W.keepIn K (.ref fIsTab) = true)
    (aFew : PySem.W.nsIn K mainGlobals "fewest_row" = some (some (.ref fFew)))
    (lFew : K.lookup fFew = some ⟨ocFew, odFew, .func (PySem.W.fnOf "fewest_row" "fewest_row" (defArgs sFewest) (defBody sFewest) (defScope sFewest) .none kVFew dcFew pmFew anFew cdFew ctFew), slFew⟩)
    (cFew : PySem.W.codeIn K cdFew "fewest_row" = true)
    (kFew : PySem.W.keepIn K (.ref fFew) = true)
    (aRowBy : PySem.W.nsIn K mainGlobals "row_by_steps" = some (some (.ref fRowBy)))
    (lRowBy : K.lookup fRowBy = some ⟨ocRowBy, odRowBy, .func (PySem.W.fnOf "row_by_steps" "row_by_steps" (defArgs sRowBy) (defBody sRowBy) (defScope sRowBy) .none kVRowBy dcRowBy pmRowBy anRowBy cdRowBy ctRowBy), slRowBy⟩)
    (cRowBy : PySem.W.codeIn K cdRowBy "row_by_steps" = true)
    (kRowBy : PySem.W.keepIn K (.ref fRowBy) = true)
    (aTxtsOf : PySem.W.nsIn K mainGlobals "texts_of_word" = some (some (.ref fTxtsOf)))
    (lTxtsOf : K.lookup fTxtsOf = some ⟨ocTxtsOf, odTxtsOf, .func (PySem.W.fnOf "texts_of_word" "texts_of_word" (defArgs sTextsOf) (defBody sTextsOf) (defScope sTextsOf) .none kVTxtsOf dcTxtsOf pmTxtsOf anTxtsOf cdTxtsOf ctTxtsOf), slTxtsOf⟩)
    (cTxtsOf : PySem.W.codeIn K cdTxtsOf "texts_of_word" = true)
    (kTxtsOf : PySem.W.keepIn K (.ref fTxtsOf) = true)
    (aCellsOf : PySem.W.nsIn K mainGlobals "cells_of_text" = some (some (.ref fCellsOf)))
    (lCellsOf : K.lookup fCellsOf = some ⟨ocCellsOf, odCellsOf, .func (PySem.W.fnOf "cells_of_text" "cells_of_text" (defArgs sCellsOf) (defBody sCellsOf) (defScope sCellsOf) .none kVCellsOf dcCellsOf pmCellsOf anCellsOf cdCellsOf ctCellsOf), slCellsOf⟩)
    (cCellsOf : PySem.W.codeIn K cdCellsOf "cells_of_text" = true)
    (kCellsOf : PySem.W.keepIn K (.ref fCellsOf) = true)
    (aTextOf : PySem.W.nsIn K mainGlobals "text_of_cells" = some (some (.ref fTextOf)))
    (lTextOf : K.lookup fTextOf = some ⟨ocTextOf, odTextOf, .func (PySem.W.fnOf "text_of_cells" "text_of_cells" (defArgs sTextOf) (defBody sTextOf) (defScope sTextOf) .none kVTextOf dcTextOf pmTextOf anTextOf cdTextOf ctTextOf), slTextOf⟩)
    (cTextOf : PySem.W.codeIn K cdTextOf "text_of_cells" = true)
    (kTextOf : PySem.W.keepIn K (.ref fTextOf) = true)
    (aLaidI : PySem.W.findIn K (.ref CL) "__init__" = some (some (.ref fLaidI)))
    (iLaidI : PySem.W.isFn K (.ref fLaidI) = true)
    (lLaidI : K.lookup fLaidI = some ⟨ocLaidI, odLaidI, .func (PySem.W.fnOf "__init__" "Laid.__init__" (defArgs sLaidInit) (defBody sLaidInit) (defScope sLaidInit) .none kVLaidI dcLaidI pmLaidI anLaidI cdLaidI ctLaidI), slLaidI⟩)
    (cLaidI : PySem.W.codeIn K cdLaidI "Laid.__init__" = true)
    (kLaidI : PySem.W.keepIn K (.ref fLaidI) = true)
    (aBookI : PySem.W.findIn K (.ref CB) "__init__" = some (some (.ref fBookI)))
    (iBookI : PySem.W.isFn K (.ref fBookI) = true)
    (lBookI : K.lookup fBookI = some ⟨ocBookI, odBookI, .func (PySem.W.fnOf "__init__" "Book.__init__" (defArgs sBookInit) (defBody sBookInit) (defScope sBookInit) .none kVBookI dcBookI pmBookI anBookI cdBookI ctBookI), slBookI⟩)
    (cBookI : PySem.W.codeIn K cdBookI "Book.__init__" = true)
    (kBookI : PySem.W.keepIn K (.ref fBookI) = true)
    (aNoB : PySem.W.nsIn K mainGlobals "no_book" = some (some (.ref fNoB)))
    (lNoB : K.lookup fNoB = some ⟨ocNoB, odNoB, .func (PySem.W.fnOf "no_book" "no_book" (defArgs sNoBook) (defBody sNoBook) (defScope sNoBook) .none kVNoB dcNoB pmNoB anNoB cdNoB ctNoB), slNoB⟩)
    (cNoB : PySem.W.codeIn K cdNoB "no_book" = true)
    (kNoB : PySem.W.keepIn K (.ref fNoB) = true)
    (aSpots : PySem.W.nsIn K mainGlobals "spots_of_letters" = some (some (.ref fSpots)))
    (lSpots : K.lookup fSpots = some ⟨ocSpots, odSpots, .func (PySem.W.fnOf "spots_of_letters" "spots_of_letters" (defArgs sSpots) (defBody sSpots) (defScope sSpots) .none kVSpots dcSpots pmSpots anSpots cdSpots ctSpots), slSpots⟩)
    (cSpots : PySem.W.codeIn K cdSpots "spots_of_letters" = true)
    (kSpots : PySem.W.keepIn K (.ref fSpots) = true)
    (aCellsL : PySem.W.nsIn K mainGlobals "cells_of_line" = some (some (.ref fCellsL)))
    (lCellsL : K.lookup fCellsL = some ⟨ocCellsL, odCellsL, .func (PySem.W.fnOf "cells_of_line" "cells_of_line" (defArgs sCellsOfLine) (defBody sCellsOfLine) (defScope sCellsOfLine) .none kVCellsL dcCellsL pmCellsL anCellsL cdCellsL ctCellsL), slCellsL⟩)
    (cCellsL : PySem.W.codeIn K cdCellsL "cells_of_line" = true)
    (kCellsL : PySem.W.keepIn K (.ref fCellsL) = true)
    (aLaidA : PySem.W.nsIn K mainGlobals "laid_at_cell" = some (some (.ref fLaidA)))
    (lLaidA : K.lookup fLaidA = some ⟨ocLaidA, odLaidA, .func (PySem.W.fnOf "laid_at_cell" "laid_at_cell" (defArgs sLaidAt) (defBody sLaidAt) (defScope sLaidAt) .none kVLaidA dcLaidA pmLaidA anLaidA cdLaidA ctLaidA), slLaidA⟩)
    (cLaidA : PySem.W.codeIn K cdLaidA "laid_at_cell" = true)
    (kLaidA : PySem.W.keepIn K (.ref fLaidA) = true)
    (aPlaceO : PySem.W.nsIn K mainGlobals "place_of_bytes" = some (some (.ref fPlaceO)))
    (lPlaceO : K.lookup fPlaceO = some ⟨ocPlaceO, odPlaceO, .func (PySem.W.fnOf "place_of_bytes" "place_of_bytes" (defArgs sPlaceOf) (defBody sPlaceOf) (defScope sPlaceOf) .none kVPlaceO dcPlaceO pmPlaceO anPlaceO cdPlaceO ctPlaceO), slPlaceO⟩)
    (cPlaceO : PySem.W.codeIn K cdPlaceO "place_of_bytes" = true)
    (kPlaceO : PySem.W.keepIn K (.ref fPlaceO) = true)
    (aBookOf : PySem.W.nsIn K mainGlobals "book_of_text" = some (some (.ref fBookOf)))
    (lBookOf : K.lookup fBookOf = some ⟨ocBookOf, odBookOf, .func (PySem.W.fnOf "book_of_text" "book_of_text" (defArgs sBookOf) (defBody sBookOf) (defScope sBookOf) .none kVBookOf dcBookOf pmBookOf anBookOf cdBookOf ctBookOf), slBookOf⟩)
    (cBookOf : PySem.W.codeIn K cdBookOf "book_of_text" = true)
    (kBookOf : PySem.W.keepIn K (.ref fBookOf) = true)
    (aParOf : PySem.W.nsIn K mainGlobals "lines_of_paragraph" = some (some (.ref fParOf)))
    (lParOf : K.lookup fParOf = some ⟨ocParOf, odParOf, .func (PySem.W.fnOf "lines_of_paragraph" "lines_of_paragraph" (defArgs sParOf) (defBody sParOf) (defScope sParOf) .none kVParOf dcParOf pmParOf anParOf cdParOf ctParOf), slParOf⟩)
    (cParOf : PySem.W.codeIn K cdParOf "lines_of_paragraph" = true)
    (kParOf : PySem.W.keepIn K (.ref fParOf) = true)
    (aLayW : PySem.W.nsIn K mainGlobals "lay_word" = some (some (.ref fLayW)))
    (lLayW : K.lookup fLayW = some ⟨ocLayW, odLayW, .func (PySem.W.fnOf "lay_word" "lay_word" (defArgs sLayWord) (defBody sLayWord) (defScope sLayWord) .none kVLayW dcLayW pmLayW anLayW cdLayW ctLayW), slLayW⟩)
    (cLayW : PySem.W.codeIn K cdLayW "lay_word" = true)
    (kLayW : PySem.W.keepIn K (.ref fLayW) = true)
    (aCellFor : PySem.W.nsIn K mainGlobals "cell_for_word" = some (some (.ref fCellFor)))
    (lCellFor : K.lookup fCellFor = some ⟨ocCellFor, odCellFor, .func (PySem.W.fnOf "cell_for_word" "cell_for_word" (defArgs sCellFor) (defBody sCellFor) (defScope sCellFor) .none kVCellFor dcCellFor pmCellFor anCellFor cdCellFor ctCellFor), slCellFor⟩)
    (cCellFor : PySem.W.codeIn K cdCellFor "cell_for_word" = true)
    (kCellFor : PySem.W.keepIn K (.ref fCellFor) = true)
    (aSure : PySem.W.nsIn K mainGlobals "is_sure" = some (some (.ref fSure)))
    (lSure : K.lookup fSure = some ⟨ocSure, odSure, .func (PySem.W.fnOf "is_sure" "is_sure" (defArgs sIsSure) (defBody sIsSure) (defScope sIsSure) .none kVSure dcSure pmSure anSure cdSure ctSure), slSure⟩)
    (cSure : PySem.W.codeIn K cdSure "is_sure" = true)
    (kSure : PySem.W.keepIn K (.ref fSure) = true)
    (aTails : PySem.W.nsIn K mainGlobals "tails_by_start" = some (some (.ref fTails)))
    (lTails : K.lookup fTails = some ⟨ocTails, odTails, .func (PySem.W.fnOf "tails_by_start" "tails_by_start" (defArgs sTails) (defBody sTails) (defScope sTails) .none kVTails dcTails pmTails anTails cdTails ctTails), slTails⟩)
    (cTails : PySem.W.codeIn K cdTails "tails_by_start" = true)
    (kTails : PySem.W.keepIn K (.ref fTails) = true)
    (aBehind : PySem.W.nsIn K mainGlobals "rests_behind" = some (some (.ref fBehind)))
    (lBehind : K.lookup fBehind = some ⟨ocBehind, odBehind, .func (PySem.W.fnOf "rests_behind" "rests_behind" (defArgs sBehind) (defBody sBehind) (defScope sBehind) .none kVBehind dcBehind pmBehind anBehind cdBehind ctBehind), slBehind⟩)
    (cBehind : PySem.W.codeIn K cdBehind "rests_behind" = true)
    (kBehind : PySem.W.keepIn K (.ref fBehind) = true)
    (aNote : PySem.W.nsIn K mainGlobals "note_new" = some (some (.ref fNote)))
    (lNote : K.lookup fNote = some ⟨ocNote, odNote, .func (PySem.W.fnOf "note_new" "note_new" (defArgs sNote) (defBody sNote) (defScope sNote) .none kVNote dcNote pmNote anNote cdNote ctNote), slNote⟩)
    (cNote : PySem.W.codeIn K cdNote "note_new" = true)
    (kNote : PySem.W.keepIn K (.ref fNote) = true)
    (aSesI : PySem.W.findIn K (.ref CS) "__init__" = some (some (.ref fSesI)))
    (iSesI : PySem.W.isFn K (.ref fSesI) = true)
    (lSesI : K.lookup fSesI = some ⟨ocSesI, odSesI, .func (PySem.W.fnOf "__init__" "Session.__init__" (defArgs sSessInit) (defBody sSessInit) (defScope sSessInit) .none kVSesI dcSesI pmSesI anSesI cdSesI ctSesI), slSesI⟩)
    (cSesI : PySem.W.codeIn K cdSesI "Session.__init__" = true)
    (kSesI : PySem.W.keepIn K (.ref fSesI) = true)
    (aStart : PySem.W.findIn K (.ref CS) "fp_start" = some (some (.ref fStart)))
    (iStart : PySem.W.isFn K (.ref fStart) = true)
    (lStart : K.lookup fStart = some ⟨ocStart, odStart, .func (PySem.W.fnOf "fp_start" "Session.fp_start" (defArgs sStart) (defBody sStart) (defScope sStart) .none kVStart dcStart pmStart anStart cdStart ctStart), slStart⟩)
    (cStart : PySem.W.codeIn K cdStart "Session.fp_start" = true)
    (kStart : PySem.W.keepIn K (.ref fStart) = true)
    (aFpCells : PySem.W.findIn K (.ref CS) "fp_cells" = some (some (.ref fFpCells)))
    (iFpCells : PySem.W.isFn K (.ref fFpCells) = true)
    (lFpCells : K.lookup fFpCells = some ⟨ocFpCells, odFpCells, .func (PySem.W.fnOf "fp_cells" "Session.fp_cells" (defArgs sFpCells) (defBody sFpCells) (defScope sFpCells) .none kVFpCells dcFpCells pmFpCells anFpCells cdFpCells ctFpCells), slFpCells⟩)
    (cFpCells : PySem.W.codeIn K cdFpCells "Session.fp_cells" = true)
    (kFpCells : PySem.W.keepIn K (.ref fFpCells) = true)
    (aFpText : PySem.W.findIn K (.ref CS) "fp_text" = some (some (.ref fFpText)))
    (iFpText : PySem.W.isFn K (.ref fFpText) = true)
    (lFpText : K.lookup fFpText = some ⟨ocFpText, odFpText, .func (PySem.W.fnOf "fp_text" "Session.fp_text" (defArgs sFpText) (defBody sFpText) (defScope sFpText) .none kVFpText dcFpText pmFpText anFpText cdFpText ctFpText), slFpText⟩)
    (cFpText : PySem.W.codeIn K cdFpText "Session.fp_text" = true)
    (kFpText : PySem.W.keepIn K (.ref fFpText) = true)
    (aOpen : PySem.W.findIn K (.ref CS) "fp_open" = some (some (.ref fOpen)))
    (iOpen : PySem.W.isFn K (.ref fOpen) = true)
    (lOpen : K.lookup fOpen = some ⟨ocOpen, odOpen, .func (PySem.W.fnOf "fp_open" "Session.fp_open" (defArgs sOpen) (defBody sOpen) (defScope sOpen) .none kVOpen dcOpen pmOpen anOpen cdOpen ctOpen), slOpen⟩)
    (cOpen : PySem.W.codeIn K cdOpen "Session.fp_open" = true)
    (kOpen : PySem.W.keepIn K (.ref fOpen) = true)
    (aFpLine : PySem.W.findIn K (.ref CS) "fp_line" = some (some (.ref fFpLine)))
    (iFpLine : PySem.W.isFn K (.ref fFpLine) = true)
    (lFpLine : K.lookup fFpLine = some ⟨ocFpLine, odFpLine, .func (PySem.W.fnOf "fp_line" "Session.fp_line" (defArgs sLine) (defBody sLine) (defScope sLine) .none kVFpLine dcFpLine pmFpLine anFpLine cdFpLine ctFpLine), slFpLine⟩)
    (cFpLine : PySem.W.codeIn K cdFpLine "Session.fp_line" = true)
    (kFpLine : PySem.W.keepIn K (.ref fFpLine) = true)
    (aFpTouch : PySem.W.findIn K (.ref CS) "fp_touch" = some (some (.ref fFpTouch)))
    (iFpTouch : PySem.W.isFn K (.ref fFpTouch) = true)
    (lFpTouch : K.lookup fFpTouch = some ⟨ocFpTouch, odFpTouch, .func (PySem.W.fnOf "fp_touch" "Session.fp_touch" (defArgs sTouch) (defBody sTouch) (defScope sTouch) .none kVFpTouch dcFpTouch pmFpTouch anFpTouch cdFpTouch ctFpTouch), slFpTouch⟩)
    (cFpTouch : PySem.W.codeIn K cdFpTouch "Session.fp_touch" = true)
    (kFpTouch : PySem.W.keepIn K (.ref fFpTouch) = true)
    (aFpPlace : PySem.W.findIn K (.ref CS) "fp_place" = some (some (.ref fFpPlace)))
    (iFpPlace : PySem.W.isFn K (.ref fFpPlace) = true)
    (lFpPlace : K.lookup fFpPlace = some ⟨ocFpPlace, odFpPlace, .func (PySem.W.fnOf "fp_place" "Session.fp_place" (defArgs sPlace) (defBody sPlace) (defScope sPlace) .none kVFpPlace dcFpPlace pmFpPlace anFpPlace cdFpPlace ctFpPlace), slFpPlace⟩)
    (cFpPlace : PySem.W.codeIn K cdFpPlace "Session.fp_place" = true)
    (kFpPlace : PySem.W.keepIn K (.ref fFpPlace) = true)
    (aFpFind : PySem.W.findIn K (.ref CS) "fp_find" = some (some (.ref fFpFind)))
    (iFpFind : PySem.W.isFn K (.ref fFpFind) = true)
    (lFpFind : K.lookup fFpFind = some ⟨ocFpFind, odFpFind, .func (PySem.W.fnOf "fp_find" "Session.fp_find" (defArgs sFind) (defBody sFind) (defScope sFind) .none kVFpFind dcFpFind pmFpFind anFpFind cdFpFind ctFpFind), slFpFind⟩)
    (cFpFind : PySem.W.codeIn K cdFpFind "Session.fp_find" = true)
    (kFpFind : PySem.W.keepIn K (.ref fFpFind) = true)
    (aIsText : PySem.W.nsIn K mainGlobals "is_text" = some (some (.ref fIsText)))
    (lIsText : K.lookup fIsText = some ⟨ocIsText, odIsText, .func (PySem.W.fnOf "is_text" "is_text" (defArgs sIsText) (defBody sIsText) (defScope sIsText) .none kVIsText dcIsText pmIsText anIsText cdIsText ctIsText), slIsText⟩)
    (cIsText : PySem.W.codeIn K cdIsText "is_text" = true)
    (kIsText : PySem.W.keepIn K (.ref fIsText) = true)
    (aAns : PySem.W.nsIn K mainGlobals "answers" = some (some (.ref fAns)))
    (lAns : K.lookup fAns = some ⟨ocAns, odAns, .func (PySem.W.fnOf "answers" "answers" (defArgs sAnswers) (defBody sAnswers) (defScope sAnswers) .none kVAns dcAns pmAns anAns cdAns ctAns), slAns⟩)
    (cAns : PySem.W.codeIn K cdAns "answers" = true)
    (kAns : PySem.W.keepIn K (.ref fAns) = true)
    (aAnsOf : PySem.W.nsIn K mainGlobals "answer_of_call" = some (some (.ref fAnsOf)))
    (lAnsOf : K.lookup fAnsOf = some ⟨ocAnsOf, odAnsOf, .func (PySem.W.fnOf "answer_of_call" "answer_of_call" (defArgs sAnsOf) (defBody sAnsOf) (defScope sAnsOf) .none kVAnsOf dcAnsOf pmAnsOf anAnsOf cdAnsOf ctAnsOf), slAnsOf⟩)
    (cAnsOf : PySem.W.codeIn K cdAnsOf "answer_of_call" = true)
    (kAnsOf : PySem.W.keepIn K (.ref fAnsOf) = true)
    (uLINE_END : PySem.W.nsIn K mainGlobals "LINE_END" = some (some (.int 10 tLINE_END)))
    (uBLANK : PySem.W.nsIn K mainGlobals "BLANK" = some (some (.int 32 tBLANK)))
    (uFIRST_LETTER : PySem.W.nsIn K mainGlobals "FIRST_LETTER" = some (some (.int 33 tFIRST_LETTER)))
    (uLAST_LETTER : PySem.W.nsIn K mainGlobals "LAST_LETTER" = some (some (.int 126 tLAST_LETTER)))
    (uEMPTY_CELL : PySem.W.nsIn K mainGlobals "EMPTY_CELL" = some (some (.int 0 tEMPTY_CELL)))
    (uLAST_CELL : PySem.W.nsIn K mainGlobals "LAST_CELL" = some (some (.int 63 tLAST_CELL)))
    (uLEAST_ENTRIES : PySem.W.nsIn K mainGlobals "LEAST_ENTRIES" = some (some (.int 94 tLEAST_ENTRIES)))
    (uMOST_ENTRIES : PySem.W.nsIn K mainGlobals "MOST_ENTRIES" = some (some (.int 512 tMOST_ENTRIES)))
    (uMOST_LETTERS : PySem.W.nsIn K mainGlobals "MOST_LETTERS" = some (some (.int 12 tMOST_LETTERS)))
    (uMOST_CELLS : PySem.W.nsIn K mainGlobals "MOST_CELLS" = some (some (.int 6 tMOST_CELLS)))
    (uLEAST_WIDTH : PySem.W.nsIn K mainGlobals "LEAST_WIDTH" = some (some (.int 20 tLEAST_WIDTH)))
    (uMOST_WIDTH : PySem.W.nsIn K mainGlobals "MOST_WIDTH" = some (some (.int 48 tMOST_WIDTH)))
    (uMOST_TEXT : PySem.W.nsIn K mainGlobals "MOST_TEXT" = some (some (.int 4096 tMOST_TEXT)))
    (uMOST_CELLS_READ : PySem.W.nsIn K mainGlobals "MOST_CELLS_READ" = some (some (.int 24576 tMOST_CELLS_READ)))
    (uNO_ROW : PySem.W.nsIn K mainGlobals "NO_ROW" = some (some (.int 13 tNO_ROW)))
    (uNOT_VALID : PySem.W.nsIn K mainGlobals "NOT_VALID" = some (some (.int 22 tNOT_VALID)))
    (uTOO_LONG : PySem.W.nsIn K mainGlobals "TOO_LONG" = some (some (.int 28 tTOO_LONG)))
    (uNOT_SURE : PySem.W.nsIn K mainGlobals "NOT_SURE" = some (some (.int 61 tNOT_SURE)))
    (uSTART : PySem.W.nsIn K mainGlobals "START" = some (some (.int 0 tSTART)))
    (uCELLS : PySem.W.nsIn K mainGlobals "CELLS" = some (some (.int 1 tCELLS)))
    (uTEXT : PySem.W.nsIn K mainGlobals "TEXT" = some (some (.int 2 tTEXT)))
    (uBOOK : PySem.W.nsIn K mainGlobals "BOOK" = some (some (.int 3 tBOOK)))
    (uLINE : PySem.W.nsIn K mainGlobals "LINE" = some (some (.int 4 tLINE)))
    (uTOUCH : PySem.W.nsIn K mainGlobals "TOUCH" = some (some (.int 5 tTOUCH)))
    (uPLACE : PySem.W.nsIn K mainGlobals "PLACE" = some (some (.int 6 tPLACE)))
    (uMOST_BYTES_FOUND : PySem.W.nsIn K mainGlobals "MOST_BYTES_FOUND" = some (some (.int 64 tMOST_BYTES_FOUND)))
    (uNOT_THERE : PySem.W.nsIn K mainGlobals "NOT_THERE" = some (some (.int 2 tNOT_THERE)))
    (uNUMBERS_AHEAD : PySem.W.nsIn K mainGlobals "NUMBERS_AHEAD" = some (some (.ref vNUMBERS_AHEAD)))
    (lNUMBERS_AHEAD : K.lookup vNUMBERS_AHEAD = some ⟨.type "tuple", dNUMBERS_AHEAD, .seq #[.int 1 yNUMBERS_AHEAD_0, .int 0 yNUMBERS_AHEAD_1, .int 0 yNUMBERS_AHEAD_2, .int 0 yNUMBERS_AHEAD_3, .int 1 yNUMBERS_AHEAD_4, .int 2 yNUMBERS_AHEAD_5, .int 1 yNUMBERS_AHEAD_6, .int 1 yNUMBERS_AHEAD_7] nNUMBERS_AHEAD, sNUMBERS_AHEAD⟩)
    (uHAS_ROW : PySem.W.nsIn K mainGlobals "HAS_ROW" = some (some (.ref vHAS_ROW)))
    (lHAS_ROW : K.lookup vHAS_ROW = some ⟨.type "tuple", dHAS_ROW, .seq #[.bool true, .bool true, .bool true, .bool true, .bool false, .bool false, .bool false, .bool true] nHAS_ROW, sHAS_ROW⟩)
    (zlen : PySem.W.nsIn K mainGlobals "len" = some none)
    (zenumerate : PySem.W.nsIn K mainGlobals "enumerate" = some none)
    (ztuple : PySem.W.nsIn K mainGlobals "tuple" = some none)
    (zrange : PySem.W.nsIn K mainGlobals "range" = some none)
    (zmin : PySem.W.nsIn K mainGlobals "min" = some none)
    (zsum : PySem.W.nsIn K mainGlobals "sum" = some none)
    (zall : PySem.W.nsIn K mainGlobals "all" = some none)
    (zlist : PySem.W.nsIn K mainGlobals "list" = some none) :
    ∃ fd : FuncData, (∀ (s : Shared) (us : List Value), us.length = (["calls"] : List Str).length → BindsTo s fd ⟨us, []⟩ ((["calls"] : List Str).zip us)) ∧ ∀ base : Heap, K.In base → base.Ns mainGlobals mg → FnOk P w K mg base CX0 9 fa fd ["calls"] (spAns K) := by
  have e := hfa.symm.trans (PySem.W.mg_of X G aAns)
  cases e
  have GCT := PySem.W.mg_of X G gCT
  have clCT : Cls K CT := ⟨pgCT, hdCT, poCT, saCT⟩
  have GCL := PySem.W.mg_of X G gCL
  have clCL : Cls K CL := ⟨pgCL, hdCL, poCL, saCL⟩
  have GCB := PySem.W.mg_of X G gCB
  have clCB : Cls K CB := ⟨pgCB, hdCB, poCB, saCB⟩
  have GCS := PySem.W.mg_of X G gCS
  have clCS : Cls K CS := ⟨pgCS, hdCS, poCS, saCS⟩
  have FLetter := fun_mk (st := sIsLetter) lLetter cLetter kLetter
  have bLetter := FLetter.binds (ps := ["number"]) fun _ _ _ _ _ _ us hl => match us, hl with | [_], _ => rfl
  have gLetter := PySem.W.mg_of X G aLetter
  have FPieces := fun_mk (st := sPieces) lPieces cPieces kPieces
  have bPieces := FPieces.binds (ps := ["numbers", "mark"]) fun _ _ _ _ _ _ us hl => match us, hl with | [_, _], _ => rfl
  have gPieces := PySem.W.mg_of X G aPieces
  have FTabI := fun_mk (st := sTableInit) lTabI cTabI kTabI
  have bTabI := FTabI.binds (ps := ["self", "entries"]) fun _ _ _ _ _ _ us hl => match us, hl with | [_, _], _ => rfl
  have FEntOf := fun_mk (st := sEntriesOf) lEntOf cEntOf kEntOf
  have bEntOf := FEntOf.binds (ps := ["numbers"]) fun _ _ _ _ _ _ us hl => match us, hl with | [_], _ => rfl
  have gEntOf := PySem.W.mg_of X G aEntOf
  have FIsEnt := fun_mk (st := sIsEntry) lIsEnt cIsEnt kIsEnt
  have bIsEnt := FIsEnt.binds (ps := ["text", "cells"]) fun _ _ _ _ _ _ us hl => match us, hl with | [_, _], _ => rfl
  have gIsEnt := PySem.W.mg_of X G aIsEnt
  have FIsTab := fun_mk (st := sIsTable) lIsTab cIsTab kIsTab
  have bIsTab := FIsTab.binds (ps := ["entries"]) fun _ _ _ _ _ _ us hl => match us, hl with | [_], _ => rfl
  have gIsTab := PySem.W.mg_of X G aIsTab
  have FFew := fun_mk (st := sFewest) lFew cFew kFew
  have bFew := FFew.binds (ps := ["signs", "known", "longest"]) fun _ _ _ _ _ _ us hl => match us, hl with | [_, _, _], _ => rfl
  have gFew := PySem.W.mg_of X G aFew
  have FRowBy := fun_mk (st := sRowBy) lRowBy cRowBy kRowBy
  have bRowBy := FRowBy.binds (ps := ["signs", "steps"]) fun _ _ _ _ _ _ us hl => match us, hl with | [_, _], _ => rfl
  have gRowBy := PySem.W.mg_of X G aRowBy
  have FTxtsOf := fun_mk (st := sTextsOf) lTxtsOf cTxtsOf kTxtsOf
  have bTxtsOf := FTxtsOf.binds (ps := ["word", "table"]) fun _ _ _ _ _ _ us hl => match us, hl with | [_, _], _ => rfl
  have gTxtsOf := PySem.W.mg_of X G aTxtsOf
  have FCellsOf := fun_mk (st := sCellsOf) lCellsOf cCellsOf kCellsOf
  have bCellsOf := FCellsOf.binds (ps := ["text", "table"]) fun _ _ _ _ _ _ us hl => match us, hl with | [_, _], _ => rfl
  have gCellsOf := PySem.W.mg_of X G aCellsOf
  have FTextOf := fun_mk (st := sTextOf) lTextOf cTextOf kTextOf
  have bTextOf := FTextOf.binds (ps := ["cells", "table"]) fun _ _ _ _ _ _ us hl => match us, hl with | [_, _], _ => rfl
  have gTextOf := PySem.W.mg_of X G aTextOf
  have FLaidI := fun_mk (st := sLaidInit) lLaidI cLaidI kLaidI
  have bLaidI := FLaidI.binds (ps := ["self", "place", "text", "cell", "cells"]) fun _ _ _ _ _ _ us hl => match us, hl with | [_, _, _, _, _], _ => rfl
  have FBookI := fun_mk (st := sBookInit) lBookI cBookI kBookI
  have bBookI := FBookI.binds (ps := ["self", "text", "lines"]) fun _ _ _ _ _ _ us hl => match us, hl with | [_, _, _], _ => rfl
  have FNoB := fun_mk (st := sNoBook) lNoB cNoB kNoB
  have bNoB := FNoB.binds (ps := []) fun _ _ _ _ _ _ us hl => match us, hl with | [], _ => rfl
  have gNoB := PySem.W.mg_of X G aNoB
  have FSpots := fun_mk (st := sSpots) lSpots cSpots kSpots
  have bSpots := FSpots.binds (ps := ["count", "lines"]) fun _ _ _ _ _ _ us hl => match us, hl with | [_, _], _ => rfl
  have gSpots := PySem.W.mg_of X G aSpots
  have FCellsL := fun_mk (st := sCellsOfLine) lCellsL cCellsL kCellsL
  have bCellsL := FCellsL.binds (ps := ["line"]) fun _ _ _ _ _ _ us hl => match us, hl with | [_], _ => rfl
  have gCellsL := PySem.W.mg_of X G aCellsL
  have FLaidA := fun_mk (st := sLaidAt) lLaidA cLaidA kLaidA
  have bLaidA := FLaidA.binds (ps := ["line", "cell"]) fun _ _ _ _ _ _ us hl => match us, hl with | [_, _], _ => rfl
  have gLaidA := PySem.W.mg_of X G aLaidA
  have FPlaceO := fun_mk (st := sPlaceOf) lPlaceO cPlaceO kPlaceO
  have bPlaceO := FPlaceO.binds (ps := ["text", "what", "beginning"]) fun _ _ _ _ _ _ us hl => match us, hl with | [_, _, _], _ => rfl
  have gPlaceO := PySem.W.mg_of X G aPlaceO
  have FBookOf := fun_mk (st := sBookOf) lBookOf cBookOf kBookOf
  have bBookOf := FBookOf.binds (ps := ["text", "table", "width"]) fun _ _ _ _ _ _ us hl => match us, hl with | [_, _, _], _ => rfl
  have gBookOf := PySem.W.mg_of X G aBookOf
  have FParOf := fun_mk (st := sParOf) lParOf cParOf kParOf
  have bParOf := FParOf.binds (ps := ["paragraph", "place", "table", "width"]) fun _ _ _ _ _ _ us hl => match us, hl with | [_, _, _, _], _ => rfl
  have gParOf := PySem.W.mg_of X G aParOf
  have FLayW := fun_mk (st := sLayWord) lLayW cLayW kLayW
  have bLayW := FLayW.binds (ps := ["word", "place", "lines", "table", "width"]) fun _ _ _ _ _ _ us hl => match us, hl with | [_, _, _, _, _], _ => rfl
  have gLayW := PySem.W.mg_of X G aLayW
  have FCellFor := fun_mk (st := sCellFor) lCellFor cCellFor kCellFor
  have bCellFor := FCellFor.binds (ps := ["line"]) fun _ _ _ _ _ _ us hl => match us, hl with | [_], _ => rfl
  have gCellFor := PySem.W.mg_of X G aCellFor
  have FSure := fun_mk (st := sIsSure) lSure cSure kSure
  have bSure := FSure.binds (ps := ["entries"]) fun _ _ _ _ _ _ us hl => match us, hl with | [_], _ => rfl
  have gSure := PySem.W.mg_of X G aSure
  have FTails := fun_mk (st := sTails) lTails cTails kTails
  have bTails := FTails.binds (ps := ["codes"]) fun _ _ _ _ _ _ us hl => match us, hl with | [_], _ => rfl
  have gTails := PySem.W.mg_of X G aTails
  have FBehind := fun_mk (st := sBehind) lBehind cBehind kBehind
  have bBehind := FBehind.binds (ps := ["rest", "codes", "tails"]) fun _ _ _ _ _ _ us hl => match us, hl with | [_, _, _], _ => rfl
  have gBehind := PySem.W.mg_of X G aBehind
  have FNote := fun_mk (st := sNote) lNote cNote kNote
  have bNote := FNote.binds (ps := ["found", "rests", "seen"]) fun _ _ _ _ _ _ us hl => match us, hl with | [_, _, _], _ => rfl
  have gNote := PySem.W.mg_of X G aNote
  have FSesI := fun_mk (st := sSessInit) lSesI cSesI kSesI
  have bSesI := FSesI.binds (ps := ["self"]) fun _ _ _ _ _ _ us hl => match us, hl with | [_], _ => rfl
  have FStart := fun_mk (st := sStart) lStart cStart kStart
  have bStart := FStart.binds (ps := ["self", "width", "numbers"]) fun _ _ _ _ _ _ us hl => match us, hl with | [_, _, _], _ => rfl
  have FFpCells := fun_mk (st := sFpCells) lFpCells cFpCells kFpCells
  have bFpCells := FFpCells.binds (ps := ["self", "text"]) fun _ _ _ _ _ _ us hl => match us, hl with | [_, _], _ => rfl
  have FFpText := fun_mk (st := sFpText) lFpText cFpText kFpText
  have bFpText := FFpText.binds (ps := ["self", "cells"]) fun _ _ _ _ _ _ us hl => match us, hl with | [_, _], _ => rfl
  have FOpen := fun_mk (st := sOpen) lOpen cOpen kOpen
  have bOpen := FOpen.binds (ps := ["self", "text"]) fun _ _ _ _ _ _ us hl => match us, hl with | [_, _], _ => rfl
  have FFpLine := fun_mk (st := sLine) lFpLine cFpLine kFpLine
  have bFpLine := FFpLine.binds (ps := ["self", "line"]) fun _ _ _ _ _ _ us hl => match us, hl with | [_, _], _ => rfl
  have FFpTouch := fun_mk (st := sTouch) lFpTouch cFpTouch kFpTouch
  have bFpTouch := FFpTouch.binds (ps := ["self", "line", "cell"]) fun _ _ _ _ _ _ us hl => match us, hl with | [_, _, _], _ => rfl
  have FFpPlace := fun_mk (st := sPlace) lFpPlace cFpPlace kFpPlace
  have bFpPlace := FFpPlace.binds (ps := ["self", "place"]) fun _ _ _ _ _ _ us hl => match us, hl with | [_, _], _ => rfl
  have FFpFind := fun_mk (st := sFind) lFpFind cFpFind kFpFind
  have bFpFind := FFpFind.binds (ps := ["self", "beginning", "what"]) fun _ _ _ _ _ _ us hl => match us, hl with | [_, _, _], _ => rfl
  have FIsText := fun_mk (st := sIsText) lIsText cIsText kIsText
  have bIsText := FIsText.binds (ps := ["text", "others"]) fun _ _ _ _ _ _ us hl => match us, hl with | [_, _], _ => rfl
  have gIsText := PySem.W.mg_of X G aIsText
  have FAns := fun_mk (st := sAnswers) lAns cAns kAns
  have bAns := FAns.binds (ps := ["calls"]) fun _ _ _ _ _ _ us hl => match us, hl with | [_], _ => rfl
  have gAns := PySem.W.mg_of X G aAns
  have FAnsOf := fun_mk (st := sAnsOf) lAnsOf cAnsOf kAnsOf
  have bAnsOf := FAnsOf.binds (ps := ["session", "call", "numbers", "row"]) fun _ _ _ _ _ _ us hl => match us, hl with | [_, _, _, _], _ => rfl
  have gAnsOf := PySem.W.mg_of X G aAnsOf
  have NLINE_END : Num mg "LINE_END" 10 := ⟨_, PySem.W.mg_of X G uLINE_END⟩
  have NBLANK : Num mg "BLANK" 32 := ⟨_, PySem.W.mg_of X G uBLANK⟩
  have NFIRST_LETTER : Num mg "FIRST_LETTER" 33 := ⟨_, PySem.W.mg_of X G uFIRST_LETTER⟩
  have NLAST_LETTER : Num mg "LAST_LETTER" 126 := ⟨_, PySem.W.mg_of X G uLAST_LETTER⟩
  have NEMPTY_CELL : Num mg "EMPTY_CELL" 0 := ⟨_, PySem.W.mg_of X G uEMPTY_CELL⟩
  have NLAST_CELL : Num mg "LAST_CELL" 63 := ⟨_, PySem.W.mg_of X G uLAST_CELL⟩
  have NLEAST_ENTRIES : Num mg "LEAST_ENTRIES" 94 := ⟨_, PySem.W.mg_of X G uLEAST_ENTRIES⟩
  have NMOST_ENTRIES : Num mg "MOST_ENTRIES" 512 := ⟨_, PySem.W.mg_of X G uMOST_ENTRIES⟩
  have NMOST_LETTERS : Num mg "MOST_LETTERS" 12 := ⟨_, PySem.W.mg_of X G uMOST_LETTERS⟩
  have NMOST_CELLS : Num mg "MOST_CELLS" 6 := ⟨_, PySem.W.mg_of X G uMOST_CELLS⟩
  have NLEAST_WIDTH : Num mg "LEAST_WIDTH" 20 := ⟨_, PySem.W.mg_of X G uLEAST_WIDTH⟩
  have NMOST_WIDTH : Num mg "MOST_WIDTH" 48 := ⟨_, PySem.W.mg_of X G uMOST_WIDTH⟩
  have NMOST_TEXT : Num mg "MOST_TEXT" 4096 := ⟨_, PySem.W.mg_of X G uMOST_TEXT⟩
  have NMOST_CELLS_READ : Num mg "MOST_CELLS_READ" 24576 := ⟨_, PySem.W.mg_of X G uMOST_CELLS_READ⟩
  have NNO_ROW : Num mg "NO_ROW" 13 := ⟨_, PySem.W.mg_of X G uNO_ROW⟩
  have NNOT_VALID : Num mg "NOT_VALID" 22 := ⟨_, PySem.W.mg_of X G uNOT_VALID⟩
  have NTOO_LONG : Num mg "TOO_LONG" 28 := ⟨_, PySem.W.mg_of X G uTOO_LONG⟩
  have NNOT_SURE : Num mg "NOT_SURE" 61 := ⟨_, PySem.W.mg_of X G uNOT_SURE⟩
  have NSTART : Num mg "START" 0 := ⟨_, PySem.W.mg_of X G uSTART⟩
  have NCELLS : Num mg "CELLS" 1 := ⟨_, PySem.W.mg_of X G uCELLS⟩
  have NTEXT : Num mg "TEXT" 2 := ⟨_, PySem.W.mg_of X G uTEXT⟩
  have NBOOK : Num mg "BOOK" 3 := ⟨_, PySem.W.mg_of X G uBOOK⟩
  have NLINE : Num mg "LINE" 4 := ⟨_, PySem.W.mg_of X G uLINE⟩
  have NTOUCH : Num mg "TOUCH" 5 := ⟨_, PySem.W.mg_of X G uTOUCH⟩
  have NPLACE : Num mg "PLACE" 6 := ⟨_, PySem.W.mg_of X G uPLACE⟩
  have NMOST_BYTES_FOUND : Num mg "MOST_BYTES_FOUND" 64 := ⟨_, PySem.W.mg_of X G uMOST_BYTES_FOUND⟩
  have NNOT_THERE : Num mg "NOT_THERE" 2 := ⟨_, PySem.W.mg_of X G uNOT_THERE⟩
  have GNUMBERS_AHEAD := PySem.W.mg_of X G uNUMBERS_AHEAD
  have TNUMBERS_AHEAD : ∀ H, SqT K H vNUMBERS_AHEAD [.int 1, .int 0, .int 0, .int 0, .int 1, .int 2, .int 1, .int 1] := fun H => .inr ⟨_, _, _, lNUMBERS_AHEAD, rfl, rfl, by show 8 ≤ sizeLine; decide, .cons ⟨_, rfl⟩ (.cons ⟨_, rfl⟩ (.cons ⟨_, rfl⟩ (.cons ⟨_, rfl⟩ (.cons ⟨_, rfl⟩ (.cons ⟨_, rfl⟩ (.cons ⟨_, rfl⟩ (.cons ⟨_, rfl⟩ (.nil))))))))⟩
  have GHAS_ROW := PySem.W.mg_of X G uHAS_ROW
  have THAS_ROW : ∀ H, SqT K H vHAS_ROW [.bl true, .bl true, .bl true, .bl true, .bl false, .bl false, .bl false, .bl true] := fun H => .inr ⟨_, _, _, lHAS_ROW, rfl, rfl, by show 8 ≤ sizeLine; decide, .cons rfl (.cons rfl (.cons rfl (.cons rfl (.cons rfl (.cons rfl (.cons rfl (.cons rfl (.nil))))))))⟩
  have Blen := PySem.W.mg_none_of X G zlen
  have Benumerate := PySem.W.mg_none_of X G zenumerate
  have Btuple := PySem.W.mg_none_of X G ztuple
  have Brange := PySem.W.mg_none_of X G zrange
  have Bmin := PySem.W.mg_none_of X G zmin
  have Bsum := PySem.W.mg_none_of X G zsum
  have Ball := PySem.W.mg_none_of X G zall
  have Blist := PySem.W.mg_none_of X G zlist
  refine ⟨PySem.W.fnOf "answers" "answers" (defArgs sAnswers) (defBody sAnswers) (defScope sAnswers) .none kVAns dcAns pmAns anAns cdAns ctAns, fun s us hu => match us, hu with | [_], _ => .of_eq rfl, fun base _ _ => ?_⟩
  have MkT : Mk K CT fTabI := ⟨mkCT, aTabI, iTabI, kcCT⟩
  have MkL : Mk K CL fLaidI := ⟨mkCL, aLaidI, iLaidI, kcCL⟩
  have MkB : Mk K CB fBookI := ⟨mkCB, aBookI, iBookI, kcCB⟩
  have MkS : Mk K CS fSesI := ⟨mkCS, aSesI, iSesI, kcCS⟩
  have TT : TxtT K CT := ⟨clCT, nCT_cells_by_text, nCT_text_by_cells⟩
  have TL : TxtL K CL := ⟨clCL, nCL_place, nCL_text, nCL_cell, nCL_cells⟩
  have TB : TxtB K CB := ⟨clCB, nCB_text, nCB_lines, nCB_spots⟩
  have TS : TxtS K CS := ⟨clCS, nCS_table, nCS_width, nCS_book⟩
  have MStart : Meth K CS "fp_start" fStart := ⟨aStart, iStart, kStart⟩
  have MFpCells : Meth K CS "fp_cells" fFpCells := ⟨aFpCells, iFpCells, kFpCells⟩
  have MFpText : Meth K CS "fp_text" fFpText := ⟨aFpText, iFpText, kFpText⟩
  have MFpLine : Meth K CS "fp_line" fFpLine := ⟨aFpLine, iFpLine, kFpLine⟩
  have MFpTouch : Meth K CS "fp_touch" fFpTouch := ⟨aFpTouch, iFpTouch, kFpTouch⟩
  have MFpPlace : Meth K CS "fp_place" fFpPlace := ⟨aFpPlace, iFpPlace, kFpPlace⟩
  have MFpFind : Meth K CS "fp_find" fFpFind := ⟨aFpFind, iFpFind, kFpFind⟩
  have MOpen : Meth K CS "fp_open" fOpen := ⟨aOpen, iOpen, kOpen⟩
  have OLetter := ok_letter (P := P) (w := w) (base := base) FLetter NFIRST_LETTER NLAST_LETTER
  have OPieces := ok_pieces (P := P) (w := w) (base := base) FPieces Benumerate Btuple
  have OFew := ok_fewest (P := P) (w := w) (base := base) FFew FRowBy bRowBy gRowBy Blen Brange Bmin
  have OTabI := ok_tableInit (P := P) (w := w) (mg := mg) (base := base) FTabI TT
  have OTxtsOf := ok_textsOf (P := P) (w := w) (base := base) FTxtsOf OFew kFew bFew gFew TT NMOST_LETTERS
  have OCellsOf := ok_cellsOf (P := P) (w := w) (base := base) FCellsOf OPieces kPieces bPieces gPieces OTxtsOf kTxtsOf bTxtsOf gTxtsOf TT Benumerate NBLANK NEMPTY_CELL
  have OTextOf := ok_textOf (P := P) (w := w) (base := base) FTextOf OPieces kPieces bPieces gPieces OFew kFew bFew gFew TT Benumerate NEMPTY_CELL NBLANK NMOST_CELLS
  have OEntOf := ok_entriesOf (P := P) (w := w) (base := base) FEntOf Blen Btuple
  have OIsEnt := ok_isEntry (P := P) (w := w) (base := base) FIsEnt OLetter kLetter bLetter gLetter Blen Ball NMOST_LETTERS NMOST_CELLS NEMPTY_CELL NLAST_CELL
  have OIsTab := ok_isTable (P := P) (w := w) (base := base) FIsTab OIsEnt kIsEnt bIsEnt gIsEnt Blen Ball Brange NLEAST_ENTRIES NMOST_ENTRIES NFIRST_LETTER NLAST_LETTER
  have ONote := ok_note (P := P) (w := w) (mg := mg) (base := base) FNote
  have OTails := ok_tails (P := P) (w := w) (base := base) FTails Blen Brange
  have OBehind := ok_behind (P := P) (w := w) (base := base) FBehind Blen Brange
  have OSure := ok_sure (P := P) (w := w) (base := base) FSure OTails kTails bTails gTails OBehind kBehind bBehind gBehind ONote kNote bNote gNote Blen
  have OLaidI := ok_laidInit (P := P) (w := w) (mg := mg) (base := base) FLaidI TL
  have OCellFor := ok_cellFor (P := P) (w := w) (base := base) FCellFor TL Blen
  have OLayW := ok_layWord (P := P) (w := w) (base := base) FLayW OTxtsOf kTxtsOf bTxtsOf gTxtsOf OCellFor kCellFor bCellFor gCellFor MkL OLaidI bLaidI GCL TT Blen Bsum
  have OPar := ok_par (P := P) (w := w) (base := base) FParOf OPieces kPieces bPieces gPieces OLayW kLayW bLayW gLayW Blen NBLANK
  have OSpots := ok_spots (P := P) (w := w) (base := base) FSpots TL Blen Brange Benumerate
  have OCellsL := ok_cellsL (P := P) (w := w) (base := base) FCellsL TL Blen NEMPTY_CELL
  have OLaidA := ok_laidAt (P := P) (w := w) (base := base) FLaidA TL Blen
  have OPlaceO := ok_placeOf (P := P) (w := w) (base := base) FPlaceO Blen Brange
  have OBookI := ok_bookInit (P := P) (w := w) (base := base) FBookI TB OSpots kSpots bSpots gSpots Blen
  have ONoB := ok_noBook (P := P) (w := w) (base := base) FNoB MkB OBookI bBookI GCB
  have OBookOf := ok_bookOf (P := P) (w := w) (base := base) FBookOf OPieces kPieces bPieces gPieces OPar kParOf bParOf gParOf MkB OBookI bBookI GCB Blen NLINE_END
  have OSesI := ok_sessInit (P := P) (w := w) (base := base) FSesI TS ONoB kNoB bNoB gNoB
  have OIsText := ok_isText (P := P) (w := w) (base := base) FIsText OLetter kLetter bLetter gLetter Blen Ball NMOST_TEXT
  have OStart := ok_start (P := P) (w := w) (base := base) (c := ⟨CT, CL, CB, CS⟩) FStart OEntOf kEntOf bEntOf gEntOf OIsTab kIsTab bIsTab gIsTab OSure kSure bSure gSure MkT OTabI bTabI GCT ONoB kNoB bNoB gNoB TS NLEAST_WIDTH NMOST_WIDTH NNOT_VALID NNOT_SURE
  have OFpCells := ok_fpCells (P := P) (w := w) (base := base) (c := ⟨CT, CL, CB, CS⟩) FFpCells OIsText kIsText bIsText gIsText OCellsOf kCellsOf bCellsOf gCellsOf TS Blen NBLANK NNOT_VALID
  have OFpText := ok_fpText (P := P) (w := w) (base := base) (c := ⟨CT, CL, CB, CS⟩) FFpText OTextOf kTextOf bTextOf gTextOf TS Blen Ball NMOST_CELLS_READ NLAST_CELL NNOT_VALID NNO_ROW NMOST_TEXT NTOO_LONG
  have OOpen := ok_open (P := P) (w := w) (base := base) (c := ⟨CT, CL, CB, CS⟩) FOpen OIsText kIsText bIsText gIsText OBookOf kBookOf bBookOf gBookOf TS TB Blen NBLANK NLINE_END NNOT_VALID
  have OLine := ok_line (P := P) (w := w) (base := base) (c := ⟨CT, CL, CB, CS⟩) FFpLine OCellsL kCellsL bCellsL gCellsL TS TB Blen NNOT_THERE NEMPTY_CELL NMOST_WIDTH
  have OTouch := ok_touch (P := P) (w := w) (base := base) (c := ⟨CT, CL, CB, CS⟩) FFpTouch OLaidA kLaidA bLaidA gLaidA TS TB TL Blen NNOT_THERE
  have OPlace := ok_place (P := P) (w := w) (base := base) (c := ⟨CT, CL, CB, CS⟩) FFpPlace TS TB Blen Blist NNOT_THERE
  have OFind := ok_find (P := P) (w := w) (base := base) (c := ⟨CT, CL, CB, CS⟩) FFpFind OPlaceO kPlaceO bPlaceO gPlaceO TS TB Blen NMOST_BYTES_FOUND NNOT_VALID NNOT_THERE
  have OAnsOf := ok_ansOf (P := P) (w := w) (base := base) (c := ⟨CT, CL, CB, CS⟩) FAnsOf clCS MStart OStart bStart MFpCells OFpCells bFpCells MFpText OFpText bFpText MOpen OOpen bOpen MFpLine OLine bFpLine MFpTouch OTouch bFpTouch MFpPlace OPlace bFpPlace MFpFind OFind bFpFind NSTART NCELLS NTEXT NBOOK NLINE NTOUCH NPLACE
  exact ok_answers (P := P) (w := w) (base := base) (c := ⟨CT, CL, CB, CS⟩) FAns MkS OSesI bSesI GCS OAnsOf kAnsOf bAnsOf gAnsOf GNUMBERS_AHEAD TNUMBERS_AHEAD GHAS_ROW THAS_ROW Blen
theorem len_of {a : PySem.W.Codec.denoteAll PySem.Challenge.rw_fingercells_s01_answers.args} (h : PySem.W.Codec.withinAll PySem.Challenge.rw_fingercells_s01_answers.args a = true) : a.1.length ≤ 30000 := by
  have h2 : ((decide (0 ≤ a.1.length) && decide (a.1.length ≤ 30000) && a.1.all _) && true) = true := h
  simp at h2
  exact h2.1
end Fc
open PySem PySem.W PyProof.Rows
set_option maxRecDepth 100000 in
set_option maxHeartbeats 80000000 in
theorem PySem.Challenge.cw_fingercells_s01_answers_holds : PySem.Challenge.rw_fingercells_s01_answers.Holds := by
  w_on; k_headS; (case hw => exact ⟨[.list [.int 0, .int 0, .int 0]], by decide +kernel, by decide +kernel⟩)
  k_fillS
  refine L2.walk_specK (r := PySem.Challenge.rw_fingercells_s01_answers) (k := 9) (CX := L2.CX0) (ps := ["calls"]) (sp := Fc.spAns) (by decide +kernel) rfl rfl ⟨rfl, by decide, by decide⟩ (fun w h Y => PySem.W.kIn_of Y) ?F ?S (fun _ _ _ _ z => z)
  case F =>
    intro w mg fa h Y KX G hmg
    refine' Fc.all_mk KX G hmg ?gCT ?pgCT ?hdCT ?poCT ?saCT ?mkCT ?kcCT ?nCT_cells_by_text ?nCT_text_by_cells ?gCL ?pgCL ?hdCL ?poCL ?saCL ?mkCL ?kcCL ?nCL_place ?nCL_text ?nCL_cell ?nCL_cells ?gCB ?pgCB ?hdCB ?poCB ?saCB ?mkCB ?kcCB ?nCB_text ?nCB_lines ?nCB_spots ?gCS ?pgCS ?hdCS ?poCS ?saCS ?mkCS ?kcCS ?nCS_table ?nCS_width ?nCS_book ?aLetter ?lLetter ?cLetter ?kLetter ?aPieces ?lPieces ?cPieces ?kPieces ?aTabI ?iTabI ?lTabI ?cTabI ?kTabI ?aEntOf ?lEntOf ?cEntOf ?kEntOf ?aIsEnt ?lIsEnt ?cIsEnt ?kIsEnt ?aIsTab ?lIsTab ?cIsTab ?kIsTab ?aFew ?lFew ?cFew ?kFew ?aRowBy ?lRowBy ?cRowBy ?kRowBy ?aTxtsOf ?lTxtsOf ?cTxtsOf ?kTxtsOf ?aCellsOf ?lCellsOf ?cCellsOf ?kCellsOf ?aTextOf ?lTextOf ?cTextOf ?kTextOf ?aLaidI ?iLaidI ?lLaidI ?cLaidI ?kLaidI ?aBookI ?iBookI ?lBookI ?cBookI ?kBookI ?aNoB ?lNoB ?cNoB ?kNoB ?aSpots ?lSpots ?cSpots ?kSpots ?aCellsL ?lCellsL ?cCellsL ?kCellsL ?aLaidA ?lLaidA ?cLaidA ?kLaidA ?aPlaceO ?lPlaceO ?cPlaceO ?kPlaceO ?aBookOf ?lBookOf ?cBookOf ?kBookOf ?aParOf ?lParOf ?cParOf ?kParOf ?aLayW ?lLayW ?cLayW ?kLayW ?aCellFor ?lCellFor ?cCellFor ?kCellFor ?aSure ?lSure ?cSure ?kSure ?aTails ?lTails ?cTails ?kTails ?aBehind ?lBehind ?cBehind ?kBehind ?aNote ?lNote ?cNote ?kNote ?aSesI ?iSesI ?lSesI ?cSesI ?kSesI ?aStart ?iStart ?lStart ?cStart ?kStart ?aFpCells ?iFpCells ?lFpCells ?cFpCells ?kFpCells ?aFpText ?iFpText ?lFpText ?cFpText ?kFpText ?aOpen ?iOpen ?lOpen ?cOpen ?kOpen ?aFpLine ?iFpLine ?lFpLine ?cFpLine ?kFpLine ?aFpTouch ?iFpTouch ?lFpTouch ?cFpTouch ?kFpTouch ?aFpPlace ?iFpPlace ?lFpPlace ?cFpPlace ?kFpPlace ?aFpFind ?iFpFind ?lFpFind ?cFpFind ?kFpFind ?aIsText ?lIsText ?cIsText ?kIsText ?aAns ?lAns ?cAns ?kAns ?aAnsOf ?lAnsOf ?cAnsOf ?kAnsOf ?uLINE_END ?uBLANK ?uFIRST_LETTER ?uLAST_LETTER ?uEMPTY_CELL ?uLAST_CELL ?uLEAST_ENTRIES ?uMOST_ENTRIES ?uMOST_LETTERS ?uMOST_CELLS ?uLEAST_WIDTH ?uMOST_WIDTH ?uMOST_TEXT ?uMOST_CELLS_READ ?uNO_ROW ?uNOT_VALID ?uTOO_LONG ?uNOT_SURE ?uSTART ?uCELLS ?uTEXT ?uBOOK ?uLINE ?uTOUCH ?uPLACE ?uMOST_BYTES_FOUND ?uNOT_THERE ?uNUMBERS_AHEAD ?lNUMBERS_AHEAD ?uHAS_ROW ?lHAS_ROW ?zlen ?zenumerate ?ztuple ?zrange ?zmin ?zsum ?zall ?zlist
    (case gCT => k_is)
    (case pgCT => k_is)
    (case hdCT => k_is)
    (case poCT => k_is)
    (case saCT => k_is)
    (case mkCT => k_is)
    (case kcCT => k_is)
    (case nCT_cells_by_text => k_is)
    (case nCT_text_by_cells => k_is)
    (case gCL => k_is)
    (case pgCL => k_is)
    (case hdCL => k_is)
    (case poCL => k_is)
    (case saCL => k_is)
    (case mkCL => k_is)
    (case kcCL => k_is)
    (case nCL_place => k_is)
    (case nCL_text => k_is)
    (case nCL_cell => k_is)
    (case nCL_cells => k_is)
    (case gCB => k_is)
    (case pgCB => k_is)
    (case hdCB => k_is)
    (case poCB => k_is)
    (case saCB => k_is)
    (case mkCB => k_is)
    (case kcCB => k_is)
    (case nCB_text => k_is)
    (case nCB_lines => k_is)
    (case nCB_spots => k_is)
    (case gCS => k_is)
    (case pgCS => k_is)
    (case hdCS => k_is)
    (case poCS => k_is)
    (case saCS => k_is)
    (case mkCS => k_is)
    (case kcCS => k_is)
    (case nCS_table => k_is)
    (case nCS_width => k_is)
    (case nCS_book => k_is)
    (case aLetter => k_is)
    (case lLetter => k_is)
    (case cLetter => k_is)
    (case kLetter => k_is)
    (case aPieces => k_is)
    (case lPieces => k_is)
    (case cPieces => k_is)
    (case kPieces => k_is)
    (case aTabI => k_is)
    (case iTabI => k_is)
    (case lTabI => k_is)
    (case cTabI => k_is)
    (case kTabI => k_is)
    (case aEntOf => k_is)
    (case lEntOf => k_is)
    (case cEntOf => k_is)
    (case kEntOf => k_is)
    (case aIsEnt => k_is)
    (case lIsEnt => k_is)
    (case cIsEnt => k_is)
    (case kIsEnt => k_is)
    (case aIsTab => k_is)
    (case lIsTab => k_is)
    (case cIsTab => k_is)
    (case kIsTab => k_is)
    (case aFew => k_is)
    (case lFew => k_is)
    (case cFew => k_is)
    (case kFew => k_is)
    (case aRowBy => k_is)
    (case lRowBy => k_is)
    (case cRowBy => k_is)
    (case kRowBy => k_is)
    (case aTxtsOf => k_is)
    (case lTxtsOf => k_is)
    (case cTxtsOf => k_is)
    (case kTxtsOf => k_is)
    (case aCellsOf => k_is)
    (case lCellsOf => k_is)
    (case cCellsOf => k_is)
    (case kCellsOf => k_is)
    (case aTextOf => k_is)
    (case lTextOf => k_is)
    (case cTextOf => k_is)
    (case kTextOf => k_is)
    (case aLaidI => k_is)
    (case iLaidI => k_is)
    (case lLaidI => k_is)
    (case cLaidI => k_is)
    (case kLaidI => k_is)
    (case aBookI => k_is)
    (case iBookI => k_is)
    (case lBookI => k_is)
    (case cBookI => k_is)
    (case kBookI => k_is)
    (case aNoB => k_is)
    (case lNoB => k_is)
    (case cNoB => k_is)
    (case kNoB => k_is)
    (case aSpots => k_is)
    (case lSpots => k_is)
    (case cSpots => k_is)
    (case kSpots => k_is)
    (case aCellsL => k_is)
    (case lCellsL => k_is)
    (case cCellsL => k_is)
    (case kCellsL => k_is)
    (case aLaidA => k_is)
    (case lLaidA => k_is)
    (case cLaidA => k_is)
    (case kLaidA => k_is)
    (case aPlaceO => k_is)
    (case lPlaceO => k_is)
    (case cPlaceO => k_is)
    (case kPlaceO => k_is)
    (case aBookOf => k_is)
    (case lBookOf => k_is)
    (case cBookOf => k_is)
    (case kBookOf => k_is)
    (case aParOf => k_is)
    (case lParOf => k_is)
    (case cParOf => k_is)
    (case kParOf => k_is)
    (case aLayW => k_is)
    (case lLayW => k_is)
    (case cLayW => k_is)
    (case kLayW => k_is)
    (case aCellFor => k_is)
    (case lCellFor => k_is)
    (case cCellFor => k_is)
    (case kCellFor => k_is)
    (case aSure => k_is)
    (case lSure => k_is)
    (case cSure => k_is)
    (case kSure => k_is)
    (case aTails => k_is)
    (case lTails => k_is)
    (case cTails => k_is)
    (case kTails => k_is)
    (case aBehind => k_is)
    (case lBehind => k_is)
    (case cBehind => k_is)
    (case kBehind => k_is)
    (case aNote => k_is)
    (case lNote => k_is)
    (case cNote => k_is)
    (case kNote => k_is)
    (case aSesI => k_is)
    (case iSesI => k_is)
    (case lSesI => k_is)
    (case cSesI => k_is)
    (case kSesI => k_is)
    (case aStart => k_is)
    (case iStart => k_is)
    (case lStart => k_is)
    (case cStart => k_is)
    (case kStart => k_is)
    (case aFpCells => k_is)
    (case iFpCells => k_is)
    (case lFpCells => k_is)
    (case cFpCells => k_is)
    (case kFpCells => k_is)
    (case aFpText => k_is)
    (case iFpText => k_is)
    (case lFpText => k_is)
    (case cFpText => k_is)
    (case kFpText => k_is)
    (case aOpen => k_is)
    (case iOpen => k_is)
    (case lOpen => k_is)
    (case cOpen => k_is)
    (case kOpen => k_is)
    (case aFpLine => k_is)
    (case iFpLine => k_is)
    (case lFpLine => k_is)
    (case cFpLine => k_is)
    (case kFpLine => k_is)
    (case aFpTouch => k_is)
    (case iFpTouch => k_is)
    (case lFpTouch => k_is)
    (case cFpTouch => k_is)
    (case kFpTouch => k_is)
    (case aFpPlace => k_is)
    (case iFpPlace => k_is)
    (case lFpPlace => k_is)
    (case cFpPlace => k_is)
    (case kFpPlace => k_is)
    (case aFpFind => k_is)
    (case iFpFind => k_is)
    (case lFpFind => k_is)
    (case cFpFind => k_is)
    (case kFpFind => k_is)
    (case aIsText => k_is)
    (case lIsText => k_is)
    (case cIsText => k_is)
    (case kIsText => k_is)
    (case aAns => k_is)
    (case lAns => k_is)
    (case cAns => k_is)
    (case kAns => k_is)
    (case aAnsOf => k_is)
    (case lAnsOf => k_is)
    (case cAnsOf => k_is)
    (case kAnsOf => k_is)
    (case uLINE_END => k_is)
    (case uBLANK => k_is)
    (case uFIRST_LETTER => k_is)
    (case uLAST_LETTER => k_is)
    (case uEMPTY_CELL => k_is)
    (case uLAST_CELL => k_is)
    (case uLEAST_ENTRIES => k_is)
    (case uMOST_ENTRIES => k_is)
    (case uMOST_LETTERS => k_is)
    (case uMOST_CELLS => k_is)
    (case uLEAST_WIDTH => k_is)
    (case uMOST_WIDTH => k_is)
    (case uMOST_TEXT => k_is)
    (case uMOST_CELLS_READ => k_is)
    (case uNO_ROW => k_is)
    (case uNOT_VALID => k_is)
    (case uTOO_LONG => k_is)
    (case uNOT_SURE => k_is)
    (case uSTART => k_is)
    (case uCELLS => k_is)
    (case uTEXT => k_is)
    (case uBOOK => k_is)
    (case uLINE => k_is)
    (case uTOUCH => k_is)
    (case uPLACE => k_is)
    (case uMOST_BYTES_FOUND => k_is)
    (case uNOT_THERE => k_is)
    (case uNUMBERS_AHEAD => k_is)
    (case lNUMBERS_AHEAD => k_is)
    (case uHAS_ROW => k_is)
    (case lHAS_ROW => k_is)
    (case zlen => k_is)
    (case zenumerate => k_is)
    (case ztuple => k_is)
    (case zrange => k_is)
    (case zmin => k_is)
    (case zsum => k_is)
    (case zall => k_is)
    (case zlist => k_is)
  case S =>
    intro K H xs a hO hwi hask hx
    cases hx with
    | cons h1 h2 =>
      cases h2
      cases h1 with
      | lst hs ha =>
        have e := L2.ints_dw a.1 _ ha
        subst e
        exact ⟨_, a.1, rfl, hs, Fc.len_of hwi, hask, fun H' p hp => .lst (L2.SqL.of hp) (L2.dw_ints _)⟩

