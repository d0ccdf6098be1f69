import PyProof.Rows.All
import Wide.All
import OpenK.AllK
import Wide.FinOn
import Open.SpecLaws
import KE.OsGo
import HandS.ForSpec
import HandS.ForMost
import HandS.Conv
import HandS.Rev
import HandS.Walk
import HandS.SortKw
import KE.KMinBuiltin
import KE.SortData
import KE.SortKeyHeap
import PySem.Challenge.RW_keptclauses_s01_answers
set_option Elab.async false
set_option maxHeartbeats 1000000
namespace Kc
open Sm06

/-! ### numbers and lists -/
theorem nodup_bound : ∀ (n : Nat) (l : List Nat), l.Nodup → (∀ x ∈ l, x < n) → l.length ≤ n
  | 0, l, _, h => by
    cases l with
    | nil => exact Nat.le_refl _
    | cons a r => exact absurd (h a (List.mem_cons_self)) (Nat.not_lt_zero _)
  | n + 1, l, nd, h => by
    by_cases hn : n ∈ l
    · have e := List.length_erase_of_mem hn
      have ih := nodup_bound n (l.erase n) (nd.erase n) (fun x hx => by
        have := nd.mem_erase_iff.mp hx
        have h2 := h x this.2
        omega)
      have : 0 < l.length := List.length_pos_of_mem hn
      omega
    · have ih := nodup_bound n l nd (fun x hx => by
        have h2 := h x hx
        have : x ≠ n := fun e => hn (e ▸ hx)
        omega)
      omega

/-! ### literals -/
/-- literals told by their variables from the least on, all within 1 to n -/
structure Lits (n : Nat) (l : List Int) : Prop where
  up : l.Pairwise fun a b => a.natAbs < b.natAbs
  ok : ∀ x ∈ l, 1 ≤ x.natAbs ∧ x.natAbs ≤ n

theorem Lits.inj {n : Nat} {l : List Int} (h : Lits n l) {a b : Int} (ha : a ∈ l) (hb : b ∈ l) (e : a.natAbs = b.natAbs) : a = b := by
  have up := h.up
  clear h
  induction l with
  | nil => cases ha
  | cons x r ih =>
    rw [List.pairwise_cons] at up
    rcases List.mem_cons.mp ha with e1 | ha1
    · rcases List.mem_cons.mp hb with e2 | hb1
      · rw [e1, e2]
      · have := up.1 b hb1
        rw [← e1] at this
        omega
    · rcases List.mem_cons.mp hb with e2 | hb1
      · have := up.1 a ha1
        rw [← e2] at this
        omega
      · exact ih ha1 hb1 up.2

theorem Lits.len {n : Nat} {l : List Int} (h : Lits n l) : l.length ≤ n := by
  have nd : (l.map Int.natAbs).Nodup := by
    rw [List.Nodup, List.pairwise_map]
    exact h.up.imp fun q => Nat.ne_of_lt q
  have hb := nodup_bound (n + 1) ((0 : Nat) :: l.map Int.natAbs) (by
    rw [List.nodup_cons]
    refine ⟨fun q => ?_, nd⟩
    obtain ⟨x, hx, e⟩ := List.mem_map.mp q
    have := (h.ok x hx).1
    omega) (fun x hx => by
    rcases List.mem_cons.mp hx with rfl | hx
    · omega
    · obtain ⟨y, hy, rfl⟩ := List.mem_map.mp hx
      have := (h.ok y hy).2
      omega)
  simp only [List.length_cons, List.length_map] at hb
  omega

/-- two lists in order with the same members are one -/
theorem up_unique : ∀ {a b : List Int}, a.Pairwise (fun x y => x.natAbs < y.natAbs) → b.Pairwise (fun x y => x.natAbs < y.natAbs) → (∀ x, x ∈ a ↔ x ∈ b) → a = b
  | [], [], _, _, _ => rfl
  | [], y :: s, _, _, h => absurd ((h y).mpr List.mem_cons_self) (List.not_mem_nil)
  | x :: r, [], _, _, h => absurd ((h x).mp List.mem_cons_self) (List.not_mem_nil)
  | x :: r, y :: s, ha, hb, h => by
    rw [List.pairwise_cons] at ha hb
    have e : x = y := by
      rcases List.mem_cons.mp ((h x).mp List.mem_cons_self) with e | hx
      · exact e
      · rcases List.mem_cons.mp ((h y).mpr List.mem_cons_self) with e | hy
        · exact e.symm
        · have h1 := hb.1 x hx
          have h2 := ha.1 y hy
          omega
    subst e
    refine congrArg _ (up_unique ha.2 hb.2 fun z => ⟨fun hz => ?_, fun hz => ?_⟩)
    · rcases List.mem_cons.mp ((h z).mp (List.mem_cons_of_mem _ hz)) with e | q
      · subst e
        have := ha.1 z hz
        omega
      · exact q
    · rcases List.mem_cons.mp ((h z).mpr (List.mem_cons_of_mem _ hz)) with e | q
      · subst e
        have := hb.1 z hz
        omega
      · exact q

theorem mem_putIn {l x : Int} : ∀ {s : List Int}, x ∈ putIn l s ↔ x = l ∨ x ∈ s
  | [] => by simp [putIn]
  | y :: r => by
    unfold putIn
    split
    · rename_i e
      subst e
      constructor
      · intro h
        exact Or.inr h
      · rintro (h | h)
        · subst h
          exact List.mem_cons_self
        · exact h
    · split
      · simp
      · simp only [List.mem_cons, mem_putIn (s := r)]
        constructor
        · rintro (h | h | h)
          · exact Or.inr (Or.inl h)
          · exact Or.inl h
          · exact Or.inr (Or.inr h)
        · rintro (h | h | h)
          · exact Or.inr (Or.inl h)
          · exact Or.inl h
          · exact Or.inr (Or.inr h)

theorem putIn_up {l : Int} : ∀ {s : List Int}, s.Pairwise (fun x y => x.natAbs < y.natAbs) → (∀ x ∈ s, x.natAbs = l.natAbs → x = l) → (putIn l s).Pairwise (fun x y => x.natAbs < y.natAbs)
  | [], _, _ => by simp [putIn]
  | y :: r, h, hl => by
    unfold putIn
    have h0 := h
    rw [List.pairwise_cons] at h
    split
    · exact h0
    · rename_i ne
      split
      · rename_i lt
        rw [List.pairwise_cons]
        refine ⟨fun z hz => ?_, h0⟩
        rcases List.mem_cons.mp hz with rfl | hz
        · exact lt
        · have := h.1 z hz
          omega
      · rename_i nlt
        rw [List.pairwise_cons]
        refine ⟨fun z hz => ?_, putIn_up h.2 fun x hx => hl x (List.mem_cons_of_mem _ hx)⟩
        rcases mem_putIn.mp hz with rfl | hz
        · have : y.natAbs ≠ z.natAbs := fun e => ne (hl y List.mem_cons_self e)
          omega
        · exact h.1 z hz

theorem mem_joined {x : Int} : ∀ {b a : List Int}, x ∈ joined a b ↔ x ∈ a ∨ x ∈ b
  | [], a => by simp [joined]
  | y :: r, a => by
    show x ∈ joined (putIn y a) r ↔ _
    rw [mem_joined (b := r), mem_putIn]
    simp only [List.mem_cons]
    constructor
    · rintro ((h | h) | h)
      · exact Or.inr (Or.inl h)
      · exact Or.inl h
      · exact Or.inr (Or.inr h)
    · rintro (h | h | h)
      · exact Or.inl (Or.inr h)
      · exact Or.inl (Or.inl h)
      · exact Or.inr h

theorem joined_up : ∀ {b a : List Int}, a.Pairwise (fun x y => x.natAbs < y.natAbs) → (∀ x ∈ a ++ b, ∀ y ∈ a ++ b, x.natAbs = y.natAbs → x = y) → (joined a b).Pairwise (fun x y => x.natAbs < y.natAbs)
  | [], a, h, _ => h
  | y :: r, a, h, hl => by
    show (joined (putIn y a) r).Pairwise _
    refine joined_up (putIn_up h fun x hx => hl x (List.mem_append_left _ hx) y (List.mem_append_right _ List.mem_cons_self)) ?_
    have key : ∀ x ∈ putIn y a ++ r, x ∈ a ++ y :: r := fun x hx => by
      rcases List.mem_append.mp hx with hx | hx
      · rcases mem_putIn.mp hx with rfl | hx
        · exact List.mem_append_right _ List.mem_cons_self
        · exact List.mem_append_left _ hx
      · exact List.mem_append_right _ (List.mem_cons_of_mem _ hx)
    exact fun x hx z hz e => hl x (key x hx) z (key z hz) e

/-! ### settings -/
theorem isSo_iff {t : Trail} {l : Int} : isSo t l = true ↔ ∃ x ∈ t, x.lit = l := by
  simp [isSo, List.any_eq_true]
theorem isNot_iff {t : Trail} {l : Int} : isNot t l = true ↔ ∃ x ∈ t, x.lit = 0 - l := by
  simp [isNot, List.any_eq_true]
theorem isNot_neg {t : Trail} {l : Int} : isNot t l = isSo t (0 - l) := rfl
theorem isSo_neg {t : Trail} {l : Int} : isNot t (0 - l) = isSo t l := by
  unfold isNot isSo
  have : (0 - (0 - l)) = l := by omega
  rw [this]

/-- settings as the search makes them, the last one first (z: it is a search, where what no clause set begins a level; else settings that are given) -/
def Good (z : Bool) (n : Nat) (cs : List Clause) : Trail → Prop
  | [] => True
  | s :: t => (1 ≤ s.lit.natAbs ∧ s.lit.natAbs ≤ n) ∧ (∀ x ∈ t, x.lit.natAbs ≠ s.lit.natAbs) ∧ (∀ x ∈ t, x.level ≤ s.level) ∧
      (s.why = none → z = true → 0 < s.level ∧ ∀ x ∈ t, x.level < s.level) ∧
      (∀ c, s.why = some c → c ∈ cs ∧ s.lit ∈ c.lits ∧ ∀ l ∈ c.lits, l ≠ s.lit → isNot t l = true) ∧ Good z n cs t

section
variable {z : Bool} {n : Nat} {cs : List Clause}
theorem Good.tail {s : Setting} {t : Trail} (g : Good z n cs (s :: t)) : Good z n cs t := g.2.2.2.2.2
theorem Good.drop : ∀ {a t : Trail}, Good z n cs (a ++ t) → Good z n cs t
  | [], _, g => g
  | _ :: a, _, g => Good.drop (a := a) g.tail
theorem Good.range : ∀ {t : Trail}, Good z n cs t → ∀ x ∈ t, 1 ≤ x.lit.natAbs ∧ x.lit.natAbs ≤ n
  | [], _, x, hx => absurd hx List.not_mem_nil
  | s :: t, g, x, hx => by
    rcases List.mem_cons.mp hx with rfl | hx
    · exact g.1
    · exact Good.range g.tail x hx
theorem Good.nodup : ∀ {t : Trail}, Good z n cs t → (t.map fun x => x.lit.natAbs).Nodup
  | [], _ => List.nodup_nil
  | s :: t, g => by
    rw [List.map_cons, List.nodup_cons]
    refine ⟨fun q => ?_, Good.nodup g.tail⟩
    obtain ⟨x, hx, e⟩ := List.mem_map.mp q
    exact g.2.1 x hx e
theorem Good.one : ∀ {t : Trail}, Good z n cs t → ∀ x ∈ t, ∀ y ∈ t, x.lit.natAbs = y.lit.natAbs → x = y
  | [], _, x, hx, _, _, _ => absurd hx List.not_mem_nil
  | s :: t, g, x, hx, y, hy, e => by
    rcases List.mem_cons.mp hx with e1 | hx1
    · rcases List.mem_cons.mp hy with e2 | hy1
      · rw [e1, e2]
      · rw [e1] at e
        exact absurd e.symm (g.2.1 y hy1)
    · rcases List.mem_cons.mp hy with e2 | hy1
      · rw [e2] at e
        exact absurd e (g.2.1 x hx1)
      · exact Good.one g.tail x hx1 y hy1 e
theorem Good.len {t : Trail} (g : Good z n cs t) : t.length ≤ n := by
  have hb := nodup_bound (n + 1) ((0 : Nat) :: t.map fun x => x.lit.natAbs) (by
    rw [List.nodup_cons]
    refine ⟨fun q => ?_, g.nodup⟩
    obtain ⟨x, hx, e⟩ := List.mem_map.mp q
    have := (g.range x hx).1
    omega) (fun x hx => by
    rcases List.mem_cons.mp hx with rfl | hx
    · omega
    · obtain ⟨y, hy, rfl⟩ := List.mem_map.mp hx
      have := (g.range y hy).2
      omega)
  simp only [List.length_cons, List.length_map] at hb
  omega
theorem Good.both {t : Trail} (g : Good z n cs t) {l : Int} (a : isSo t l = true) (b : isNot t l = true) : False := by
  obtain ⟨x, hx, ex⟩ := isSo_iff.mp a
  obtain ⟨y, hy, ey⟩ := isNot_iff.mp b
  have e := g.one x hx y hy (by rw [ex, ey]; omega)
  subst e
  have := (g.range x hx).1
  omega
theorem Good.mono {cs' : List Clause} (h : ∀ c ∈ cs, c ∈ cs') : ∀ {t : Trail}, Good z n cs t → Good z n cs' t
  | [], _ => trivial
  | _ :: _, g => ⟨g.1, g.2.1, g.2.2.1, g.2.2.2.1, fun c e => let q := g.2.2.2.2.1 c e; ⟨h c q.1, q.2⟩, Good.mono h g.tail⟩

/-- one of a variable is found -/
theorem find_var : ∀ {t : Trail}, Good z n cs t → ∀ x ∈ t, t.find? (fun y => y.lit.natAbs == x.lit.natAbs) = some x
  | [], _, x, hx => absurd hx List.not_mem_nil
  | s :: t, g, x, hx => by
    rw [List.find?_cons]
    rcases List.mem_cons.mp hx with rfl | hx
    · simp
    · have : (s.lit.natAbs == x.lit.natAbs) = false := by
        rw [beq_eq_false_iff_ne]
        exact fun e => g.2.1 x hx e.symm
      rw [this]
      exact find_var g.tail x hx
theorem levelOf_mem {t : Trail} (g : Good z n cs t) {x : Setting} (hx : x ∈ t) {l : Int} (e : l.natAbs = x.lit.natAbs) : levelOf t l = x.level := by
  unfold levelOf
  rw [e, find_var g x hx]
theorem open_iff {t : Trail} {l : Int} : isOpen t l = true ↔ isSo t l = false ∧ isNot t l = false := by
  unfold isOpen
  simp
theorem not_open {t : Trail} {l : Int} (h : isOpen t l = true) : ∀ x ∈ t, x.lit.natAbs ≠ l.natAbs := by
  intro x hx e
  obtain ⟨a, b⟩ := open_iff.mp h
  rcases Int.natAbs_eq_natAbs_iff.mp e with q | q
  · rw [isSo_iff.mpr ⟨x, hx, q⟩] at a
    cases a
  · rw [isNot_iff.mpr ⟨x, hx, by omega⟩] at b
    cases b
/-- a literal that follows -/
theorem Good.follow {t : Trail} {level : Nat} {c : Clause} {l : Int} (g : Good z n cs t) (hl : ∀ x ∈ t, x.level ≤ level) (hc : c ∈ cs) (ok : Lits n c.lits) (hp : presses t c = true) (hf : c.lits.find? (isOpen t) = some l) : Good z n cs (⟨l, level, some c⟩ :: t) := by
  have ho : isOpen t l = true := List.find?_some hf
  have hm : l ∈ c.lits := List.mem_of_find?_eq_some hf
  refine ⟨ok.ok l hm, not_open ho, hl, (fun e => nomatch e), fun c' e => ?_, g⟩
  cases e
  refine ⟨hc, hm, fun z hz ne => ?_⟩
  unfold presses at hp
  rw [Bool.and_eq_true] at hp
  have h1 : isSo t z = false := by
    have := hp.1
    simp only [Bool.not_eq_true', List.any_eq_false] at this
    exact Bool.eq_false_iff.mpr (this z hz)
  cases h2 : isNot t z with
  | true => rfl
  | false =>
    exfalso
    have oz : isOpen t z = true := open_iff.mpr ⟨h1, h2⟩
    have h3 := of_decide_eq_true hp.2
    have a1 : l ∈ c.lits.filter (isOpen t) := List.mem_filter.mpr ⟨hm, ho⟩
    have a2 : z ∈ c.lits.filter (isOpen t) := List.mem_filter.mpr ⟨hz, oz⟩
    match e : c.lits.filter (isOpen t), a1, a2, h3 with
    | [q], a1, a2, _ =>
      simp only [List.mem_singleton] at a1 a2
      exact ne (a2.trans a1.symm)
    | q :: q' :: r, _, _, h3 => simp at h3
/-- a literal that is decided -/
theorem Good.decided {t : Trail} {level : Nat} {l : Int} (g : Good z n cs t) (hl : ∀ x ∈ t, x.level ≤ level) (hr : 1 ≤ l.natAbs ∧ l.natAbs ≤ n) (ho : isOpen t l = true) : Good z n cs (⟨l, level + 1, none⟩ :: t) :=
  ⟨hr, not_open ho, fun x hx => Nat.le_succ_of_le (hl x hx), fun _ _ => ⟨Nat.succ_pos _, fun x hx => Nat.lt_succ_of_le (hl x hx)⟩, (fun _ e => nomatch e), g⟩
end
end Kc
set_option Elab.async false
set_option maxHeartbeats 1000000
namespace Kc
open Sm06
section
variable {z : Bool} {n : Nat} {cs : List Clause}

theorem isNot_app {a t : Trail} {l : Int} : isNot (a ++ t) l = (isNot a l || isNot t l) := by
  unfold isNot
  rw [List.any_append]
theorem isNot_cons {s : Setting} {t : Trail} {l : Int} : isNot (s :: t) l = ((s.lit == 0 - l) || isNot t l) := rfl
theorem isNot_right {a t : Trail} {l : Int} (h : isNot t l = true) : isNot (a ++ t) l = true := by
  rw [isNot_app, h, Bool.or_true]
/-- of a literal that is not so by what lies behind, the level is told there -/
theorem levelOf_right {a t : Trail} (g : Good z n cs (a ++ t)) {l : Int} (h : isNot t l = true) : levelOf (a ++ t) l = levelOf t l := by
  obtain ⟨x, hx, e⟩ := isNot_iff.mp h
  have e' : l.natAbs = x.lit.natAbs := by omega
  rw [levelOf_mem g (List.mem_append_right _ hx) e', levelOf_mem g.drop hx e']

def cnt (level : Nat) (t : Trail) (xs : List Int) : Nat := (xs.filter fun l => levelOf t l == level).length
theorem cnt_right {level : Nat} {a t : Trail} {xs : List Int} (g : Good z n cs (a ++ t)) (h : ∀ l ∈ xs, isNot t l = true) : cnt level (a ++ t) xs = cnt level t xs := by
  unfold cnt
  refine congrArg List.length (List.filter_congr fun l hl => ?_)
  rw [levelOf_right g (h l hl)]
theorem apart_le {level : Nat} {xs : List Int} {u : List Clause} : ∀ {t : Trail}, cnt level t xs ≤ 1 → apart level t ⟨xs, u⟩ = ⟨xs, u⟩
  | [], _ => rfl
  | s :: t, h => by
    unfold apart
    exact if_pos h
theorem apart_skip {level : Nat} {xs : List Int} {u : List Clause} {t : Trail} (h : ∀ l ∈ xs, isNot t l = true) : ∀ {p : Trail}, Good z n cs (p ++ t) → (∀ q ∈ p, (0 - q.lit) ∉ xs) → apart level (p ++ t) ⟨xs, u⟩ = apart level t ⟨xs, u⟩
  | [], _, _ => rfl
  | q :: p, g, hp => by
    by_cases c : cnt level t xs ≤ 1
    · rw [apart_le c, apart_le (by rw [cnt_right g h]; exact c)]
    · show apart level (q :: (p ++ t)) ⟨xs, u⟩ = _
      have c2 : ¬ (xs.filter fun l => levelOf (q :: (p ++ t)) l == level).length ≤ 1 := by
        have := cnt_right (level := level) g h
        unfold cnt at this c
        rw [show ((q :: p) ++ t) = q :: (p ++ t) from rfl] at this
        rw [this]
        exact c
      have c3 : xs.contains (0 - q.lit) = false := by
        rw [Bool.eq_false_iff]
        intro e
        exact hp q List.mem_cons_self (List.contains_iff_mem.mp e)
      conv => lhs; unfold apart
      dsimp only
      rw [if_neg c2, if_pos c3]
      exact apart_skip h g.tail fun q' hq' => hp q' (List.mem_cons_of_mem _ hq')

/-- where a list of literals is met first -/
theorem first_met {xs : List Int} : ∀ {t : Trail}, (∃ l ∈ xs, isNot t l = true) → ∃ p s t', t = p ++ s :: t' ∧ (0 - s.lit) ∈ xs ∧ ∀ q ∈ p, (0 - q.lit) ∉ xs
  | [], ⟨l, _, h⟩ => by simp [isNot] at h
  | s :: t, ⟨l, hl, h⟩ => by
    by_cases c : (0 - s.lit) ∈ xs
    · exact ⟨[], s, t, rfl, c, fun q hq => absurd hq List.not_mem_nil⟩
    · have h' : isNot t l = true := by
        rw [isNot_cons, Bool.or_eq_true] at h
        rcases h with h | h
        · rw [beq_iff_eq] at h
          exfalso
          apply c
          rw [h]
          have : (0 - (0 - l)) = l := by omega
          rw [this]
          exact hl
        · exact h
      obtain ⟨p, s', t', e, a, b⟩ := first_met (t := t) ⟨l, hl, h'⟩
      refine ⟨s :: p, s', t', by rw [e]; rfl, a, fun q hq => ?_⟩
      rcases List.mem_cons.mp hq with rfl | hq
      · exact c
      · exact b q hq
theorem not_left {p t : Trail} {l : Int} (h : isNot (p ++ t) l = true) (hp : ∀ q ∈ p, 0 - q.lit ≠ l) : isNot t l = true := by
  rw [isNot_app, Bool.or_eq_true] at h
  rcases h with h | h
  · obtain ⟨x, hx, e⟩ := isNot_iff.mp h
    exact absurd (by omega) (hp x hx)
  · exact h

/-- the literals behind one that goes out -/
def swapped (xs : List Int) (s : Setting) (c : Clause) : List Int := joined (xs.filter fun l => l != 0 - s.lit) (c.lits.filter fun l => l != s.lit)
theorem mem_swapped {xs : List Int} {s : Setting} {c : Clause} {l : Int} : l ∈ swapped xs s c ↔ (l ∈ xs ∧ l ≠ 0 - s.lit) ∨ (l ∈ c.lits ∧ l ≠ s.lit) := by
  unfold swapped
  rw [mem_joined]
  simp
/-- literals that are not so, in order -/
structure Neg (t : Trail) (xs : List Int) : Prop where
  up : xs.Pairwise fun a b => a.natAbs < b.natAbs
  no : ∀ l ∈ xs, isNot t l = true
theorem one_way {t : Trail} (g : Good z n cs t) {a b : Int} (ha : isNot t a = true) (hb : isNot t b = true) (e : a.natAbs = b.natAbs) : a = b := by
  obtain ⟨x, hx, ex⟩ := isNot_iff.mp ha
  obtain ⟨y, hy, ey⟩ := isNot_iff.mp hb
  have := g.one x hx y hy (by omega)
  subst this
  omega
theorem swapped_neg {p t : Trail} {s : Setting} {c : Clause} {xs : List Int} (g : Good z n cs (p ++ s :: t)) (hw : s.why = some c) (N : Neg (p ++ s :: t) xs) : Neg (p ++ s :: t) (swapped xs s c) := by
  have gs : Good z n cs (s :: t) := g.drop
  have no : ∀ l ∈ swapped xs s c, isNot (p ++ s :: t) l = true := fun l hl => by
    rcases mem_swapped.mp hl with h | h
    · exact N.no l h.1
    · refine isNot_right ?_
      rw [isNot_cons, (gs.2.2.2.2.1 c hw).2.2 l h.1 h.2, Bool.or_true]
  refine ⟨joined_up (N.up.sublist List.filter_sublist) fun a ha b hb e => ?_, no⟩
  have key : ∀ z ∈ (xs.filter fun l => l != 0 - s.lit) ++ (c.lits.filter fun l => l != s.lit), isNot (p ++ s :: t) z = true := fun z hz => no z (mem_joined.mpr (List.mem_append.mp hz))
  exact one_way g (key a ha) (key b hb) e

/-- one that goes out at the present level -/
theorem apart_step {level : Nat} {t : Trail} {xs : List Int} (g : Good true n cs t) (hl : ∀ x ∈ t, x.level ≤ level) (N : Neg t xs) (h : 1 < cnt level t xs) :
    ∃ p s t' c, t = p ++ s :: t' ∧ s.why = some c ∧ s.level = level ∧ (0 - s.lit) ∈ xs ∧ (∀ q ∈ p, (0 - q.lit) ∉ xs) ∧ (∀ l ∈ swapped xs s c, isNot t' l = true) ∧
      ∀ u, apart level t ⟨xs, u⟩ = apart level t ⟨swapped xs s c, c :: u⟩ := by
  have hne : ∃ l, l ∈ xs.filter fun l => levelOf t l == level := by
    cases e : xs.filter fun l => levelOf t l == level with
    | nil =>
      unfold cnt at h
      rw [e] at h
      exact absurd h (by decide)
    | cons a r => exact ⟨a, List.mem_cons_self⟩
  obtain ⟨l0, hl0⟩ := hne
  rw [List.mem_filter, beq_iff_eq] at hl0
  obtain ⟨p, s, t', rfl, ms, mp⟩ := first_met ⟨l0, hl0.1, N.no l0 hl0.1⟩
  have gs : Good true n cs (s :: t') := g.drop
  have nos : ∀ l ∈ xs, isNot (s :: t') l = true := fun l hx => not_left (N.no l hx) fun q hq e => mp q hq (e ▸ hx)
  have not' : ∀ l ∈ xs, l ≠ 0 - s.lit → isNot t' l = true := fun l hx ne => by
    have := nos l hx
    rw [isNot_cons, Bool.or_eq_true, beq_iff_eq] at this
    rcases this with q | q
    · exact absurd (by omega) ne
    · exact q
  have els : s.level = level := by
    obtain ⟨y, hy, ey⟩ := isNot_iff.mp (nos l0 hl0.1)
    have e1 := levelOf_mem g (List.mem_append_right p hy) (l := l0) (by omega)
    have a := hl s (List.mem_append_right _ List.mem_cons_self)
    have b : y.level ≤ s.level := by
      rcases List.mem_cons.mp hy with rfl | hy
      · exact Nat.le_refl _
      · exact gs.2.2.1 y hy
    omega
  have c0 : 1 < cnt level (s :: t') xs := by
    rw [cnt_right g nos] at h
    exact h
  cases hw : s.why with
  | none =>
    exfalso
    have lt := (gs.2.2.2.1 hw rfl).2
    have : ∀ l ∈ xs.filter (fun l => levelOf (s :: t') l == level), l = 0 - s.lit := fun l hl => by
      rw [List.mem_filter, beq_iff_eq] at hl
      by_cases e : l = 0 - s.lit
      · exact e
      · exfalso
        obtain ⟨y, hy, ey⟩ := isNot_iff.mp (not' l hl.1 e)
        have e1 := levelOf_mem gs (List.mem_cons_of_mem _ hy) (l := l) (by omega)
        have := lt y hy
        omega
    have up := N.up.sublist (List.filter_sublist (p := fun l => levelOf (s :: t') l == level))
    unfold cnt at c0
    match e : xs.filter (fun l => levelOf (s :: t') l == level), this, up, c0 with
    | [], _, _, c0 => simp at c0
    | [_], _, _, c0 => simp at c0
    | a :: b :: r, th, up, _ =>
      have e1 := th a List.mem_cons_self
      have e2 := th b (List.mem_cons_of_mem _ List.mem_cons_self)
      rw [List.pairwise_cons] at up
      have := up.1 b List.mem_cons_self
      rw [e1, e2] at this
      omega
  | some c =>
    have nosw : ∀ l ∈ swapped xs s c, isNot t' l = true := fun l hl => by
      rcases mem_swapped.mp hl with q | q
      · exact not' l q.1 q.2
      · exact (gs.2.2.2.2.1 c hw).2.2 l q.1 q.2
    refine ⟨p, s, t', c, rfl, hw, els, ms, mp, nosw, fun u => ?_⟩
    rw [apart_skip nos g mp]
    have skp : apart level (p ++ s :: t') ⟨swapped xs s c, c :: u⟩ = apart level t' ⟨swapped xs s c, c :: u⟩ := by
      rw [show p ++ s :: t' = (p ++ [s]) ++ t' by simp] at g ⊢
      refine apart_skip nosw g fun q hq hm => ?_
      obtain ⟨y, hy, ey⟩ := isNot_iff.mp (nosw _ hm)
      have := g.one q (List.mem_append_left _ hq) y (List.mem_append_right _ hy) (by omega)
      subst this
      have nd := g.nodup
      rw [List.map_append, List.nodup_append] at nd
      exact nd.2.2 _ (List.mem_map_of_mem hq) _ (List.mem_map_of_mem hy) rfl
    rw [skp]
    have c3 : xs.contains (0 - s.lit) = true := List.contains_iff_mem.mpr ms
    conv => lhs; unfold apart
    dsimp only
    unfold cnt at c0
    rw [if_neg (by omega), c3, if_neg (by decide), hw]
    rfl

/-! level 0 -/
theorem grounded_skip {xs : List Int} {u : List Clause} {t : Trail} : ∀ {p : Trail}, (∀ q ∈ p, q.level ≠ 0 ∨ (0 - q.lit) ∉ xs) → grounded (p ++ t) ⟨xs, u⟩ = grounded t ⟨xs, u⟩
  | [], _ => rfl
  | q :: p, hp => by
    show grounded (q :: (p ++ t)) ⟨xs, u⟩ = _
    conv => lhs; unfold grounded
    dsimp only
    have : q.level ≠ 0 ∨ xs.contains (0 - q.lit) = false := by
      rcases hp q List.mem_cons_self with h | h
      · exact Or.inl h
      · refine Or.inr ?_
        rw [Bool.eq_false_iff]
        exact fun e => h (List.contains_iff_mem.mp e)
    rw [if_pos this]
    exact grounded_skip (xs := xs) (u := u) (t := t) (p := p) fun q' hq' => hp q' (List.mem_cons_of_mem _ hq')
theorem grounded_end {t : Trail} {xs : List Int} {u : List Clause} (g : Good z n cs t) (h : cnt 0 t xs = 0) : grounded t ⟨xs, u⟩ = ⟨xs, u⟩ := by
  have := grounded_skip (xs := xs) (u := u) (t := []) (p := t) fun q hq => by
    by_cases c : q.level = 0
    · refine Or.inr fun hm => ?_
      have e := levelOf_mem g hq (l := 0 - q.lit) (by omega)
      have : 0 - q.lit ∈ xs.filter fun l => levelOf t l == 0 := List.mem_filter.mpr ⟨hm, by rw [e, c]; rfl⟩
      unfold cnt at h
      rw [List.eq_nil_of_length_eq_zero h] at this
      cases this
    · exact Or.inl c
  rw [List.append_nil] at this
  rw [this]
  rfl
theorem grounded_step {t : Trail} {xs : List Int} (g : Good true n cs t) (N : Neg t xs) (h : 0 < cnt 0 t xs) :
    ∃ p s t' c, t = p ++ s :: t' ∧ s.why = some c ∧ s.level = 0 ∧ (0 - s.lit) ∈ xs ∧ (∀ q ∈ p, q.level ≠ 0 ∨ (0 - q.lit) ∉ xs) ∧ (∀ l ∈ swapped xs s c, levelOf t l = 0 → isNot t' l = true) ∧
      ∀ u, grounded t ⟨xs, u⟩ = grounded t ⟨swapped xs s c, c :: u⟩ := by
  have hne : ∃ l, l ∈ xs.filter fun l => levelOf t l == 0 := by
    cases e : xs.filter fun l => levelOf t l == 0 with
    | nil =>
      unfold cnt at h
      rw [e] at h
      exact absurd h (by decide)
    | cons a r => exact ⟨a, List.mem_cons_self⟩
  obtain ⟨l0, hl0⟩ := hne
  obtain ⟨p, s, t', rfl, ms, mp⟩ := first_met (xs := xs.filter fun l => levelOf t l == 0) ⟨l0, hl0, N.no l0 (List.mem_filter.mp hl0).1⟩
  have gs : Good true n cs (s :: t') := g.drop
  rw [List.mem_filter, beq_iff_eq] at ms
  have els : s.level = 0 := by
    have := levelOf_mem g (List.mem_append_right p (List.mem_cons_self (a := s) (l := t'))) (l := 0 - s.lit) (by omega)
    omega
  have mp' : ∀ q ∈ p, q.level ≠ 0 ∨ (0 - q.lit) ∉ xs := fun q hq => by
    by_cases c : q.level = 0
    · refine Or.inr fun hm => mp q hq (List.mem_filter.mpr ⟨hm, ?_⟩)
      rw [levelOf_mem g (List.mem_append_left _ hq) (l := 0 - q.lit) (by omega), c]
      rfl
    · exact Or.inl c
  cases hw : s.why with
  | none =>
    have := (gs.2.2.2.1 hw rfl).1
    omega
  | some c =>
    have far : ∀ q ∈ p ++ [s], ∀ y ∈ t', q.lit ≠ y.lit := fun q hq y hy e => by
      rw [show p ++ s :: t' = (p ++ [s]) ++ t' by simp] at g
      have nd := g.nodup
      rw [List.map_append, List.nodup_append] at nd
      exact nd.2.2 _ (List.mem_map_of_mem hq) _ (List.mem_map_of_mem hy) (by rw [e])
    have cno : ∀ l ∈ c.lits, l ≠ s.lit → isNot t' l = true := (gs.2.2.2.2.1 c hw).2.2
    refine ⟨p, s, t', c, rfl, hw, els, ms.1, mp', fun l hl l0 => ?_, fun u => ?_⟩
    · rcases mem_swapped.mp hl with q | q
      · have h1 := N.no l q.1
        obtain ⟨y, hy, ey⟩ := isNot_iff.mp h1
        have e1 := levelOf_mem g hy (l := l) (by omega)
        rcases List.mem_append.mp hy with hy | hy
        · exfalso
          rcases mp' y hy with z | z
          · omega
          · apply z
            have : 0 - y.lit = l := by omega
            rw [this]
            exact q.1
        · rcases List.mem_cons.mp hy with e | hy
          · subst e
            exact absurd (by omega) q.2
          · exact isNot_iff.mpr ⟨y, hy, ey⟩
      · exact cno l q.1 q.2
    · rw [grounded_skip mp']
      have skp : grounded (p ++ s :: t') ⟨swapped xs s c, c :: u⟩ = grounded t' ⟨swapped xs s c, c :: u⟩ := by
        rw [show p ++ s :: t' = (p ++ [s]) ++ t' by simp]
        refine grounded_skip fun q hq => ?_
        by_cases c0 : q.level = 0
        · refine Or.inr fun hm => ?_
          rcases mem_swapped.mp hm with z | z
          · rcases List.mem_append.mp hq with hq | hq
            · rcases mp' q hq with y | y
              · exact y c0
              · exact y z.1
            · rw [List.mem_singleton] at hq
              subst hq
              exact z.2 rfl
          · obtain ⟨y, hy, ey⟩ := isNot_iff.mp (cno _ z.1 z.2)
            exact far q hq y hy (by omega)
        · exact Or.inl c0
      rw [skp]
      have c3 : xs.contains (0 - s.lit) = true := List.contains_iff_mem.mpr ms.1
      conv => lhs; unfold grounded
      dsimp only
      rw [if_neg (by rw [c3]; simp [els]), hw]
      rfl
end
end Kc
set_option Elab.async false
set_option maxHeartbeats 1000000
namespace Kc
open Sm06
section
variable {z : Bool} {n : Nat} {cs : List Clause}

/-! ### going back -/
theorem filter_drop {b : Nat} : ∀ {t : Trail}, Good z n cs t → t.filter (fun y => decide (y.level ≤ b)) = t.dropWhile (fun y => decide (b < y.level))
  | [], _ => rfl
  | s :: t, g => by
    rw [List.filter_cons, List.dropWhile_cons]
    by_cases c : s.level ≤ b
    · rw [if_pos (by simpa using c), if_neg (by simpa using c)]
      refine congrArg _ (List.filter_eq_self.mpr fun x hx => ?_)
      have := g.2.2.1 x hx
      simp
      omega
    · rw [if_neg (by simpa using c), if_pos (by simp; omega)]
      exact filter_drop g.tail
theorem Good.dropWhile {q : Setting → Bool} : ∀ {t : Trail}, Good z n cs t → Good z n cs (t.dropWhile q)
  | [], g => g
  | s :: t, g => by
    rw [List.dropWhile_cons]
    split
    · exact Good.dropWhile g.tail
    · exact g
theorem Good.filter {b : Nat} {t : Trail} (g : Good z n cs t) : Good z n cs (t.filter fun y => decide (y.level ≤ b)) := by
  rw [filter_drop g]
  exact g.dropWhile

/-! ### how a variable was set last -/
theorem kept_cons {s : Setting} {t : Trail} {p : List Nat} : kept (s :: t) p = (if 0 < s.lit then (if (kept t p).contains s.lit.natAbs = true then kept t p else kept t p ++ [s.lit.natAbs]) else (kept t p).filter fun v => v != s.lit.natAbs) := rfl
theorem kept_has {s : Setting} {t : Trail} {p : List Nat} {v : Nat} : v ∈ kept (s :: t) p ↔ (if v = s.lit.natAbs then 0 < s.lit else v ∈ kept t p) := by
  rw [kept_cons]
  by_cases c : 0 < s.lit
  · rw [if_pos c]
    by_cases e : v = s.lit.natAbs
    · rw [if_pos e]
      subst e
      split
      · rename_i h
        exact ⟨fun _ => c, fun _ => List.contains_iff_mem.mp h⟩
      · simp [c]
    · rw [if_neg e]
      split
      · exact Iff.rfl
      · simp [e]
  · rw [if_neg c, List.mem_filter]
    by_cases e : v = s.lit.natAbs
    · rw [if_pos e]
      simp [e, c]
    · rw [if_neg e]
      simp [e]
theorem kept_out : ∀ {t : Trail} {p : List Nat} {v : Nat}, (∀ x ∈ t, x.lit.natAbs ≠ v) → (v ∈ kept t p ↔ v ∈ p)
  | [], _, _, _ => Iff.rfl
  | s :: t, p, v, h => by
    rw [kept_has, if_neg fun e => h s List.mem_cons_self e.symm]
    exact kept_out fun x hx => h x (List.mem_cons_of_mem _ hx)
theorem kept_in : ∀ {t : Trail} {p : List Nat} {x : Setting}, Good z n cs t → x ∈ t → (x.lit.natAbs ∈ kept t p ↔ 0 < x.lit)
  | [], _, _, _, hx => absurd hx List.not_mem_nil
  | s :: t, p, x, g, hx => by
    rw [kept_has]
    rcases List.mem_cons.mp hx with e | hx
    · subst e
      rw [if_pos rfl]
    · rw [if_neg (g.2.1 x hx)]
      exact kept_in g.tail hx
/-- what is undone leaves how each was set last -/
theorem kept_back {t t' : Trail} {p : List Nat} {v : Nat} (g : Good z n cs t) (g' : Good z n cs t') (h : ∀ x ∈ t', x ∈ t) : v ∈ kept t' (kept t p) ↔ v ∈ kept t p := by
  by_cases c : ∃ x ∈ t', x.lit.natAbs = v
  · obtain ⟨x, hx, rfl⟩ := c
    rw [kept_in g' hx, kept_in g (h x hx)]
  · exact kept_out fun x hx e => c ⟨x, hx, e⟩
theorem kept_pos {t : Trail} {p : List Nat} (g : Good z n cs t) (h : ∀ v ∈ p, 1 ≤ v ∧ v ≤ n) : ∀ v ∈ kept t p, 1 ≤ v ∧ v ≤ n := fun v hv => by
  by_cases c : ∃ x ∈ t, x.lit.natAbs = v
  · obtain ⟨x, hx, rfl⟩ := c
    exact g.range x hx
  · exact h v ((kept_out fun x hx e => c ⟨x, hx, e⟩).mp hv)

/-! ### the value of a literal -/
def litVal (t : Trail) (l : Int) : Int := if isSo t l = true then 1 else if isNot t l = true then -1 else 0
theorem litVal_neg {t : Trail} (g : Good z n cs t) {l : Int} : litVal t (-l) = - litVal t l := by
  unfold litVal
  have e1 : isSo t (-l) = isNot t l := by
    rw [isNot_neg, show (0 - l) = -l by omega]
  have e2 : isNot t (-l) = isSo t l := by
    rw [show (-l) = 0 - l by omega]
    exact isSo_neg
  rw [e1, e2]
  cases a : isSo t l with
  | true =>
    cases b : isNot t l with
    | true => exact (g.both a b).elim
    | false => simp
  | false =>
    cases b : isNot t l with
    | true => simp
    | false => simp
theorem litVal_one {t : Trail} {l : Int} : litVal t l = 1 ↔ isSo t l = true := by
  unfold litVal
  split
  · simp_all
  · split <;> simp_all
theorem litVal_zero {t : Trail} {l : Int} : litVal t l = 0 ↔ isOpen t l = true := by
  unfold litVal isOpen
  split
  · simp_all
  · split <;> simp_all
theorem litVal_not {t : Trail} (g : Good z n cs t) {l : Int} : litVal t l = -1 ↔ isNot t l = true := by
  unfold litVal
  split
  · rename_i a
    constructor
    · intro h
      omega
    · intro b
      exact (g.both a b).elim
  · split <;> simp_all
theorem isSo_cons {s : Setting} {t : Trail} {l : Int} : isSo (s :: t) l = ((s.lit == l) || isSo t l) := rfl
theorem litVal_cons {s : Setting} {t : Trail} (g : Good z n cs (s :: t)) {v : Nat} (hv : 1 ≤ v) : litVal (s :: t) (v : Int) = if v = s.lit.natAbs then (if 0 < s.lit then 1 else -1) else litVal t (v : Int) := by
  have r := g.1
  have hso : isSo (s :: t) (v : Int) = ((s.lit == (v : Int)) || isSo t v) := rfl
  have hno : isNot (s :: t) (v : Int) = ((s.lit == 0 - (v : Int)) || isNot t v) := rfl
  by_cases e : v = s.lit.natAbs
  · rw [if_pos e]
    by_cases c : 0 < s.lit
    · rw [if_pos c]
      have : (s.lit == (v : Int)) = true := by rw [beq_iff_eq]; omega
      rw [litVal_one, hso, this]
      rfl
    · rw [if_neg c]
      have h2 : (s.lit == 0 - (v : Int)) = true := by rw [beq_iff_eq]; omega
      rw [litVal_not g, hno, h2]
      rfl
  · rw [if_neg e]
    have h1 : (s.lit == (v : Int)) = false := by rw [beq_eq_false_iff_ne]; omega
    have h2 : (s.lit == 0 - (v : Int)) = false := by rw [beq_eq_false_iff_ne]; omega
    unfold litVal
    rw [hso, hno, h1, h2, Bool.false_or, Bool.false_or]
theorem litVal_tail {s : Setting} {t : Trail} (g : Good z n cs (s :: t)) {v : Nat} (hv : 1 ≤ v) : litVal t (v : Int) = if v = s.lit.natAbs then 0 else litVal (s :: t) (v : Int) := by
  by_cases e : v = s.lit.natAbs
  · rw [if_pos e]
    refine litVal_zero.mpr (open_iff.mpr ⟨?_, ?_⟩)
    · rw [Bool.eq_false_iff]
      intro q
      obtain ⟨x, hx, ex⟩ := isSo_iff.mp q
      exact g.2.1 x hx (by omega)
    · rw [Bool.eq_false_iff]
      intro q
      obtain ⟨x, hx, ex⟩ := isNot_iff.mp q
      exact g.2.1 x hx (by omega)
  · rw [if_neg e, litVal_cons g hv, if_neg e]

/-! ### what assumptions are behind a literal -/
/-- as the program goes: S is what is sought; level 0 is not looked at -/
def behind : Trail → (Int → Bool) → List Int
  | [], _ => []
  | s :: t, S => if (S s.lit && decide (0 < s.level)) = true then (match s.why with
      | none => s.lit :: behind t S
      | some c => behind t (fun l => S l || c.lits.contains (0 - l))) else behind t S
theorem behind_is : ∀ {t : Trail} {S : Int → Bool} {ls : List Int}, Good true n cs t → (∀ x ∈ t, 0 < x.level → S x.lit = ls.contains (0 - x.lit)) → behind t S = decidedOf t ls
  | [], _, _, _, _ => rfl
  | s :: t, S, ls, g, h => by
    have ht : ∀ x ∈ t, 0 < x.level → S x.lit = ls.contains (0 - x.lit) := fun x hx => h x (List.mem_cons_of_mem _ hx)
    unfold behind decidedOf
    by_cases c : 0 < s.level
    · have e := h s List.mem_cons_self c
      cases q : ls.contains (0 - s.lit) with
      | false =>
        rw [if_pos rfl, if_neg (by rw [e, q]; simp)]
        exact behind_is g.tail ht
      | true =>
        rw [if_pos (show (S s.lit && decide (0 < s.level)) = true by rw [e, q]; simp [c]), if_neg (show ¬ (true = false) by decide)]
        cases hw : s.why with
        | none =>
          dsimp only
          rw [if_neg (by omega)]
          exact congrArg _ (behind_is g.tail ht)
        | some cl =>
          dsimp only
          refine behind_is g.tail fun x hx lx => ?_
          rw [ht x hx lx]
          rw [Bool.eq_iff_iff, Bool.or_eq_true, List.contains_iff_mem, List.contains_iff_mem, List.contains_iff_mem, mem_joined]
          have ne : ¬ (-x.lit = s.lit) := fun z => g.2.1 x hx (by omega)
          simp [ne]
    · rw [if_neg (by simp [c])]
      cases q : ls.contains (0 - s.lit) with
      | false =>
        rw [if_pos rfl]
        exact behind_is g.tail ht
      | true =>
        rw [if_neg (by decide)]
        have low : ∀ x ∈ t, x.level ≤ 0 := fun x hx => Nat.le_trans (g.2.2.1 x hx) (by omega)
        cases hw : s.why with
        | none =>
          exact absurd (g.2.2.2.1 hw rfl).1 c
        | some cl =>
          dsimp only
          exact behind_is g.tail fun x hx lx => absurd (low x hx) (by omega)
end

/-! ### heights, levels to go back to -/
theorem height_go : ∀ (l : List Clause) (m : Nat), (∀ c ∈ l, c.height ≤ l.foldl (fun m c => max m c.height) m) ∧ m ≤ l.foldl (fun m c => max m c.height) m ∧ (l.foldl (fun m c => max m c.height) m = m ∨ ∃ c ∈ l, l.foldl (fun m c => max m c.height) m = c.height)
  | [], m => ⟨fun _ h => absurd h List.not_mem_nil, Nat.le_refl _, Or.inl rfl⟩
  | c :: l, m => by
    obtain ⟨a, b, d⟩ := height_go l (max m c.height)
    simp only [List.foldl_cons]
    refine ⟨fun x hx => ?_, by omega, ?_⟩
    · rcases List.mem_cons.mp hx with e | hx
      · subst e
        omega
      · exact a x hx
    · rcases d with d | ⟨x, hx, e⟩
      · by_cases q : m ≤ c.height
        · exact Or.inr ⟨c, List.mem_cons_self, by omega⟩
        · exact Or.inl (by omega)
      · exact Or.inr ⟨x, List.mem_cons_of_mem _ hx, e⟩
theorem height_is {l : List Clause} {m : Nat} (h1 : ∃ c ∈ l, c.height = m) (h2 : ∀ c ∈ l, c.height ≤ m) : height l = m := by
  obtain ⟨a, _, d⟩ := height_go l 0
  unfold height
  obtain ⟨c, hc, e⟩ := h1
  have := a c hc
  rcases d with d | ⟨x, hx, ex⟩
  · omega
  · have := h2 x hx
    omega
theorem backTo_go {level : Nat} {t : Trail} : ∀ (l : List Int) (m : Nat), l.foldl (fun m l => if levelOf t l = level then m else max m (levelOf t l)) m = (l.filter fun z => levelOf t z != level).foldl (fun m z => max m (levelOf t z)) m
  | [], _ => rfl
  | x :: l, m => by
    rw [List.foldl_cons, List.filter_cons]
    by_cases c : levelOf t x = level
    · rw [if_pos c, if_neg (by simp [c])]
      exact backTo_go l m
    · rw [if_neg c, if_pos (by simp [c])]
      exact backTo_go l _
theorem maxl_go {f : Int → Nat} : ∀ (l : List Int) (m : Nat), (∀ c ∈ l, f c ≤ l.foldl (fun m c => max m (f c)) m) ∧ m ≤ l.foldl (fun m c => max m (f c)) m ∧ (l.foldl (fun m c => max m (f c)) m = m ∨ ∃ c ∈ l, l.foldl (fun m c => max m (f c)) m = f c)
  | [], m => ⟨fun _ h => absurd h List.not_mem_nil, Nat.le_refl _, Or.inl rfl⟩
  | c :: l, m => by
    obtain ⟨a, b, d⟩ := maxl_go (f := f) l (max m (f c))
    simp only [List.foldl_cons]
    refine ⟨fun x hx => ?_, by omega, ?_⟩
    · rcases List.mem_cons.mp hx with e | hx
      · subst e
        omega
      · exact a x hx
    · rcases d with d | ⟨x, hx, e⟩
      · by_cases q : m ≤ f c
        · exact Or.inr ⟨c, List.mem_cons_self, by omega⟩
        · exact Or.inl (by omega)
      · exact Or.inr ⟨x, List.mem_cons_of_mem _ hx, e⟩
/-- the greatest of the other levels, or 0 -/
theorem backTo_is {level : Nat} {t : Trail} {ls : List Int} {m : Nat} (h : ∀ l ∈ ls, levelOf t l ≤ level) (h2 : ∀ l ∈ ls, levelOf t l < level → levelOf t l ≤ m) (h1 : m = 0 ∨ ∃ l ∈ ls, levelOf t l < level ∧ levelOf t l = m) : backTo level t ls = m := by
  unfold backTo
  rw [backTo_go]
  obtain ⟨a, b, d⟩ := maxl_go (f := fun z => levelOf t z) (ls.filter fun z => levelOf t z != level) 0
  have key : ∀ l ∈ ls.filter (fun z => levelOf t z != level), l ∈ ls ∧ levelOf t l < level := fun l hl => by
    rw [List.mem_filter] at hl
    have := h l hl.1
    have h3 : levelOf t l ≠ level := by simpa using hl.2
    exact ⟨hl.1, by omega⟩
  have up : (ls.filter fun z => levelOf t z != level).foldl (fun m c => max m (levelOf t c)) 0 ≤ m := by
    rcases d with d | ⟨x, hx, e⟩
    · omega
    · obtain ⟨p, q⟩ := key x hx
      have := h2 x p q
      omega
  rcases h1 with h1 | ⟨l, hl, lt, e⟩
  · omega
  · have := a l (List.mem_filter.mpr ⟨hl, by simp; omega⟩)
    omega
theorem backTo_lt {level : Nat} {t : Trail} {ls : List Int} (h0 : 0 < level) (h : ∀ l ∈ ls, levelOf t l ≤ level) : backTo level t ls < level := by
  unfold backTo
  rw [backTo_go]
  obtain ⟨_, _, d⟩ := maxl_go (f := fun z => levelOf t z) (ls.filter fun z => levelOf t z != level) 0
  rcases d with d | ⟨x, hx, e⟩
  · omega
  · rw [List.mem_filter] at hx
    have := h x hx.1
    have h3 : levelOf t x ≠ level := by simpa using hx.2
    omega
end Kc
set_option Elab.async false
set_option maxHeartbeats 1000000
namespace Kc
open Sm06
section
variable {z : Bool} {n : Nat} {cs : List Clause}
/-- literals that go out one by one, of a level, while there are more than may stay -/
structure Sw (lv may : Nat) (t : Trail) (G : Cause → Cause) : Prop where
  stop : ∀ xs u, cnt lv t xs ≤ may → G ⟨xs, u⟩ = ⟨xs, u⟩
  step : ∀ xs, Neg t xs → may < cnt lv t xs → ∃ p s t' c, t = p ++ s :: t' ∧ s.why = some c ∧ s.level = lv ∧ (0 - s.lit) ∈ xs ∧ (∀ q ∈ p, q.level ≠ lv ∨ (0 - q.lit) ∉ xs) ∧
    (∀ l ∈ swapped xs s c, levelOf t l = lv → isNot t' l = true) ∧ ∀ u, G ⟨xs, u⟩ = G ⟨swapped xs s c, c :: u⟩
theorem sw_apart {t : Trail} {level : Nat} (g : Good true n cs t) (hl : ∀ x ∈ t, x.level ≤ level) : Sw level 1 t (apart level t) where
  stop := fun _ _ h => apart_le h
  step := fun xs N h => by
    obtain ⟨p, s, t', c, e, hw, el, hm, hp, hs, hu⟩ := apart_step g hl N h
    exact ⟨p, s, t', c, e, hw, el, hm, fun q hq => Or.inr (hp q hq), fun l hl _ => hs l hl, hu⟩
theorem sw_ground {t : Trail} (g : Good true n cs t) : Sw 0 0 t (grounded t) where
  stop := fun _ _ h => grounded_end g (Nat.le_zero.mp h)
  step := fun xs N h => by
    obtain ⟨p, s, t', c, e, hw, el, hm, hp, hs, hu⟩ := grounded_step g N h
    exact ⟨p, s, t', c, e, hw, el, hm, hp, hs, hu⟩
/-- where the next one lies -/
def far (lv : Nat) (t : Trail) (xs : List Int) : Nat := (t.dropWhile fun q => !(decide (q.level = lv) && xs.contains (0 - q.lit))).length
theorem far_step {lv : Nat} {p t' : Trail} {s : Setting} {c : Clause} {xs : List Int} (g : Good z n cs (p ++ s :: t')) (el : s.level = lv) (hm : (0 - s.lit) ∈ xs) (hp : ∀ q ∈ p, q.level ≠ lv ∨ (0 - q.lit) ∉ xs)
    (hs : ∀ l ∈ swapped xs s c, levelOf (p ++ s :: t') l = lv → isNot t' l = true) : far lv (p ++ s :: t') (swapped xs s c) < far lv (p ++ s :: t') xs := by
  have a1 : far lv (p ++ s :: t') xs = t'.length + 1 := by
    unfold far
    rw [List.dropWhile_append_of_pos fun q hq => by
      rcases hp q hq with h | h
      · simp [h]
      · have : xs.contains (0 - q.lit) = false := by
          rw [Bool.eq_false_iff]
          exact fun z => h (List.contains_iff_mem.mp z)
        rw [this]
        simp]
    rw [List.dropWhile_cons, if_neg (by
      have : xs.contains (0 - s.lit) = true := List.contains_iff_mem.mpr hm
      rw [this]
      simp [el])]
    rfl
  have a2 : far lv (p ++ s :: t') (swapped xs s c) ≤ t'.length := by
    unfold far
    rw [show p ++ s :: t' = (p ++ [s]) ++ t' by simp] at g ⊢
    rw [List.dropWhile_append_of_pos fun q hq => by
      by_cases h : q.level = lv
      · have : (swapped xs s c).contains (0 - q.lit) = false := by
          rw [Bool.eq_false_iff]
          intro z
          have hz := List.contains_iff_mem.mp z
          have lq := levelOf_mem g (List.mem_append_left t' hq) (l := 0 - q.lit) (by omega)
          rw [show p ++ s :: t' = (p ++ [s]) ++ t' by simp] at hs
          obtain ⟨y, hy, ey⟩ := isNot_iff.mp (hs _ hz (by omega))
          have nd := g.nodup
          rw [List.map_append, List.nodup_append] at nd
          exact nd.2.2 _ (List.mem_map_of_mem hq) _ (List.mem_map_of_mem hy) (by show q.lit.natAbs = y.lit.natAbs; omega)
        rw [this]
        simp
      · simp [h]]
    exact (List.dropWhile_sublist _).length_le
  omega
/-- the one that is found going back -/
theorem found_step {lv : Nat} {p t' : Trail} {s : Setting} {xs hs : List Int} (g : Good z n cs (p ++ s :: t')) (el : s.level = lv) (hm : (0 - s.lit) ∈ xs) (hp : ∀ q ∈ p, q.level ≠ lv ∨ (0 - q.lit) ∉ xs) (e : ∀ l, l ∈ hs ↔ l ∈ xs ∧ levelOf (p ++ s :: t') l = lv) :
    (p ++ s :: t').find? (fun x => hs.contains (-x.lit)) = some s := by
  rw [List.find?_append]
  have h1 : p.find? (fun x => hs.contains (-x.lit)) = none := by
    rw [List.find?_eq_none]
    intro q hq z
    obtain ⟨z1, z2⟩ := (e _).mp (List.contains_iff_mem.mp z)
    have lq := levelOf_mem g (List.mem_append_left (s :: t') hq) (l := -q.lit) (by omega)
    rcases hp q hq with h | h
    · exact h (by omega)
    · exact h (by rw [show 0 - q.lit = -q.lit by omega]; exact z1)
  have h2 : hs.contains (-s.lit) = true := by
    refine List.contains_iff_mem.mpr ((e _).mpr ⟨by rw [show -s.lit = 0 - s.lit by omega]; exact hm, ?_⟩)
    rw [levelOf_mem g (List.mem_append_right p List.mem_cons_self) (l := -s.lit) (by omega)]
    exact el
  rw [h1, List.find?_cons, h2]
  rfl
theorem nodup_len : ∀ {a b : List Int}, a.Nodup → b.Nodup → (∀ x, x ∈ a ↔ x ∈ b) → a.length = b.length
  | [], [], _, _, _ => rfl
  | [], y :: s, _, _, h => absurd ((h y).mpr List.mem_cons_self) List.not_mem_nil
  | x :: r, b, ha, hb, h => by
    have hx : x ∈ b := (h x).mp List.mem_cons_self
    rw [List.nodup_cons] at ha
    have ih := nodup_len (a := r) (b := b.erase x) ha.2 (hb.erase x) fun z => by
      rw [hb.mem_erase_iff]
      constructor
      · intro hz
        exact ⟨fun e => ha.1 (e ▸ hz), (h z).mp (List.mem_cons_of_mem _ hz)⟩
      · rintro ⟨ne, hz⟩
        rcases List.mem_cons.mp ((h z).mpr hz) with e | q
        · exact absurd e ne
        · exact q
    rw [List.length_cons, ih, List.length_erase_of_mem hx]
    have : 0 < b.length := List.length_pos_of_mem hx
    omega
theorem up_nodup {l : List Int} (h : l.Pairwise fun a b => a.natAbs < b.natAbs) : l.Nodup := h.imp fun q e => by
  rw [e] at q
  omega
theorem cnt_of {lv : Nat} {t : Trail} {xs ks : List Int} (nx : xs.Nodup) (nk : ks.Nodup) (h : ∀ l, l ∈ xs ↔ l ∈ ks) : (ks.filter fun l => levelOf t l == lv).length = cnt lv t xs := by
  unfold cnt
  refine nodup_len (nk.filter _) (nx.filter _) fun l => ?_
  rw [List.mem_filter, List.mem_filter, h l]
end
end Kc
set_option Elab.async false
set_option maxHeartbeats 1000000
namespace Kc
open Sm06
/-- what is kept if the search ended now -/
def now (s : St) (t : Trail) : St := ⟨s.n, s.clauses, s.next, s.marks, s.order, kept t s.phase⟩
section
variable {as : List Int} {f most level : Nat} {s : St} {t0 t : Trail} {c : Clause} {l : Int} {v : Nat}
theorem search_low (h : follow s.clauses level (s.n + 1) t0 = (t, some c)) (h0 : level = 0) : search as (f + 1) most s level t0 = (now s t, .never []) := by
  subst h0
  unfold search
  simp only [h, if_true]
  rfl
theorem search_enough (h : follow s.clauses level (s.n + 1) t0 = (t, some c)) (h0 : level ≠ 0) (hm : most = 0) : search as (f + 1) most s level t0 = (now s t, .enough) := by
  unfold search
  simp only [h, h0, hm, if_true, if_false]
  rfl
theorem search_learn (h : follow s.clauses level (s.n + 1) t0 = (t, some c)) (h0 : level ≠ 0) (hm : most ≠ 0) : search as (f + 1) most s level t0 = search as f (most - 1) (learn (now s t) level t c).1 (learn (now s t) level t c).2 (t.filter fun y => decide (y.level ≤ (learn (now s t) level t c).2)) := by
  conv => lhs; unfold search
  simp only [h, h0, hm, if_false]
  rfl
theorem search_never (h : follow s.clauses level (s.n + 1) t0 = (t, none)) (ha : (as.find? fun l => !isSo t l) = some l) (hn : isNot t l = true) : search as (f + 1) most s level t0 = (now s t, .never (as.filter fun a => a == l || (decidedOf t [l]).contains a)) := by
  unfold search
  simp only [h, ha, hn, if_true]
  rfl
theorem search_assume (h : follow s.clauses level (s.n + 1) t0 = (t, none)) (ha : (as.find? fun l => !isSo t l) = some l) (hn : isNot t l = false) : search as (f + 1) most s level t0 = search as f most s (level + 1) (⟨l, level + 1, none⟩ :: t) := by
  conv => lhs; unfold search
  simp only [h, ha, hn, Bool.false_eq_true, if_false]
theorem search_fits (h : follow s.clauses level (s.n + 1) t0 = (t, none)) (ha : (as.find? fun l => !isSo t l) = none) (ho : (s.order.find? fun (v : Nat) => isOpen t (v : Int)) = none) : search as (f + 1) most s level t0 = (now s t, .fits ((List.range s.n).map fun i => flag (isSo t ((i + 1 : Nat) : Int)))) := by
  unfold search
  simp only [h, ha, ho]
  rfl
theorem search_decide (h : follow s.clauses level (s.n + 1) t0 = (t, none)) (ha : (as.find? fun l => !isSo t l) = none) (ho : (s.order.find? fun (v : Nat) => isOpen t (v : Int)) = some v) : search as (f + 1) most s level t0 = search as f most s (level + 1) (⟨if s.phase.contains v = true then (v : Int) else 0 - (v : Int), level + 1, none⟩ :: t) := by
  conv => lhs; unfold search
  simp only [h, ha, ho]
end
theorem follow_not {cs : List Clause} {level : Nat} {c : Clause} : ∀ {f : Nat} {t0 t : Trail}, follow cs level f t0 = (t, some c) → c ∈ cs ∧ ∀ l ∈ c.lits, isNot t l = true
  | 0, t0, t, h => by
    unfold follow at h
    cases (Prod.mk.inj h).2
  | f + 1, t0, t, h => by
    unfold follow at h
    cases e : cs.find? (presses t0) with
    | none =>
      rw [e] at h
      cases (Prod.mk.inj h).2
    | some c1 =>
      rw [e] at h
      dsimp only at h
      cases e2 : c1.lits.find? (isOpen t0) with
      | none =>
        rw [e2] at h
        obtain ⟨h1, h2⟩ := Prod.mk.inj h
        cases h2
        subst h1
        refine ⟨List.mem_of_find?_eq_some e, fun l hl => ?_⟩
        have hp : presses t0 c = true := List.find?_some e
        unfold presses at hp
        rw [Bool.and_eq_true] at hp
        have h1 : isSo t0 l = false := by
          have := hp.1
          simp only [Bool.not_eq_true', List.any_eq_false] at this
          exact Bool.eq_false_iff.mpr (this l hl)
        have h2 : isOpen t0 l = false := Bool.eq_false_iff.mpr (List.find?_eq_none.mp e2 l hl)
        unfold isOpen at h2
        rw [h1] at h2
        simpa using h2
      | some l =>
        rw [e2] at h
        exact follow_not h
theorem follow_more {cs : List Clause} {level : Nat} : ∀ {f : Nat} {t : Trail}, t.length ≤ (follow cs level f t).1.length
  | 0, t => Nat.le_refl _
  | f + 1, t => by
    unfold follow
    split
    · exact Nat.le_refl _
    · split
      · exact Nat.le_refl _
      · refine Nat.le_trans ?_ follow_more
        rw [List.length_cons]
        omega
end Kc
set_option Elab.async false
set_option maxHeartbeats 1000000
namespace Kc
open Sm06
/-! ### a clause that follows by steps -/
theorem same_so {t t' : Trail} (h : isSo t = isSo t') : isNot t = isNot t' ∧ isOpen t = isOpen t' ∧ presses t = presses t' := by
  have h1 : isNot t = isNot t' := funext fun l => congrFun h (0 - l)
  have h2 : isOpen t = isOpen t' := funext fun l => by
    unfold isOpen
    rw [h, h1]
  refine ⟨h1, h2, funext fun c => ?_⟩
  unfold presses
  rw [h, h2]
/-- what follows hangs on what is so alone -/
theorem follow_same {cs : List Clause} {level : Nat} : ∀ {f : Nat} {t t' : Trail}, isSo t = isSo t' → (follow cs level f t).2 = (follow cs level f t').2
  | 0, _, _, _ => rfl
  | f + 1, t, t', h => by
    obtain ⟨_, h2, h3⟩ := same_so h
    unfold follow
    rw [h2, h3]
    cases cs.find? (presses t') with
    | none => rfl
    | some c =>
      dsimp only
      cases c.lits.find? (isOpen t') with
      | none => rfl
      | some l =>
        dsimp only
        refine follow_same (funext fun x => ?_)
        show ((l == x) || isSo t x) = ((l == x) || isSo t' x)
        rw [h]
theorem so_given {ls : List Int} {l : Int} : isSo (ls.map fun l => (⟨0 - l, 0, none⟩ : Setting)) l = ls.contains (0 - l) := by
  rw [Bool.eq_iff_iff, isSo_iff, List.contains_iff_mem]
  constructor
  · rintro ⟨x, hx, e⟩
    obtain ⟨y, hy, rfl⟩ := List.mem_map.mp hx
    have : 0 - l = y := by
      show 0 - l = y
      have : 0 - y = l := e
      omega
    rw [this]
    exact hy
  · intro h
    exact ⟨_, List.mem_map_of_mem h, by show 0 - (0 - l) = l; omega⟩
theorem steps_same {s : St} {ls ks : List Int} {t : Trail} (h : ∀ l, l ∈ ks ↔ l ∈ ls) (e : ∀ l, isSo t l = ks.contains (0 - l)) : bySteps s ls = (follow s.clauses 0 (s.n + 1) t).2.isSome := by
  unfold bySteps
  refine congrArg Option.isSome (follow_same (funext fun l => ?_))
  rw [so_given, e l, Bool.eq_iff_iff, List.contains_iff_mem, List.contains_iff_mem]
  exact (h _).symm
/-- a literal that is given -/
theorem Good.given {n : Nat} {cs : List Clause} {t : Trail} {level : Nat} {l : Int} (g : Good false n cs t) (hl : ∀ x ∈ t, x.level ≤ level) (hr : 1 ≤ l.natAbs ∧ l.natAbs ≤ n) (ho : ∀ x ∈ t, x.lit.natAbs ≠ l.natAbs) : Good false n cs (⟨l, level, none⟩ :: t) :=
  ⟨hr, ho, hl, (fun _ z => nomatch z), (fun _ z => nomatch z), g⟩
end Kc
set_option Elab.async false
set_option maxHeartbeats 1000000
namespace Kc
open Sm06
/-- a call's numbers ahead of the rest -/
def At (l : List Int) (c : Call) (t : List Int) : Prop := match c with
  | .start x => l = 0 :: (x : Int) :: t
  | .clause ls => l = 1 :: (ls.length : Int) :: (ls ++ t) ∧ ls.length ≤ 60
  | .mark => l = 2 :: t
  | .back => l = 3 :: t
  | .decide m ls => l = 4 :: (m : Int) :: (ls.length : Int) :: (ls ++ t) ∧ ls.length ≤ 60
  | .learnt => l = 5 :: t
  | .came x => l = 6 :: (x : Int) :: t
  | .forget x => l = 7 :: (x : Int) :: t
  | .steps ls => l = 8 :: (ls.length : Int) :: (ls ++ t) ∧ ls.length ≤ 60
  | .order => l = 9 :: t
  | .shows => l = 10 :: t
theorem row_is {l x t : List Int} (h : PyFlat.row l = some (x, t)) : l = (x.length : Int) :: (x ++ t) := by
  cases l with
  | nil => cases h
  | cons n r =>
    unfold PyFlat.row at h
    dsimp only at h
    by_cases c : 0 ≤ n ∧ n.toNat ≤ r.length
    · rw [if_pos c] at h
      obtain ⟨h1, h2⟩ := Prod.mk.inj (Option.some.inj h)
      rw [← h1, ← h2, List.take_append_drop, List.length_take]
      refine congrArg (fun z => z :: r) ?_
      omega
    · rw [if_neg c] at h
      cases h
theorem within_nat {z : Int} (h : PyInside.within 0 4294967295 z = true) : Sm06Neutral.nat z = true := by
  unfold PyInside.within at h
  unfold Sm06Neutral.nat
  rw [Bool.and_eq_true, decide_eq_true_iff, decide_eq_true_iff] at h ⊢
  omega
theorem within_whole {ls : List Int} (h : ls.all (PyInside.within (-2147483648) 2147483647) = true) : Sm06Neutral.wholes ls = true := by
  unfold Sm06Neutral.wholes
  rw [List.all_eq_true] at h ⊢
  intro z hz
  have := h z hz
  unfold PyInside.within at this
  unfold Sm06Neutral.whole
  rw [Bool.and_eq_true, decide_eq_true_iff, decide_eq_true_iff] at this ⊢
  omega
theorem nat_cast {z : Int} (h : Sm06Neutral.nat z = true) : ((z.toNat : Nat) : Int) = z := by
  unfold Sm06Neutral.nat at h
  rw [Bool.and_eq_true, decide_eq_true_iff, decide_eq_true_iff] at h
  omega
theorem lists_one {lo hi : Int} {m n : Nat} {x : List Int} (h : PyInside.lists [(lo, hi, m, n)] [x] = true) : x.length ≤ n ∧ x.all (PyInside.within lo hi) = true := by
  unfold PyInside.lists at h
  simp only [Bool.and_eq_true, decide_eq_true_iff] at h
  exact ⟨h.1.1.2, h.1.2⟩
theorem step_of {s : St} {c : List Int} {x : Call} (h : Sm06Neutral.callOf c = some x) : Sm06Neutral.step s c = Sm06.step s x := by
  unfold Sm06Neutral.step
  rw [h]
theorem rows_one {l : List Int} {xs : List (List Int)} {t : List Int} (h : PyFlat.rows 1 l = some (xs, t)) : ∃ x, xs = [x] ∧ l = (x.length : Int) :: (x ++ t) := by
  unfold PyFlat.rows at h
  cases e : PyFlat.row l with
  | none =>
    rw [e] at h
    cases h
  | some p =>
    obtain ⟨x, s⟩ := p
    rw [e] at h
    simp only [PyFlat.rows] at h
    obtain ⟨h1, h2⟩ := Prod.mk.inj (Option.some.inj h)
    subst h2
    exact ⟨x, h1.symm, row_is e⟩
theorem rows_none {l : List Int} {xs : List (List Int)} {t : List Int} (h : PyFlat.rows 0 l = some (xs, t)) : xs = [] ∧ l = t := by
  unfold PyFlat.rows at h
  obtain ⟨h1, h2⟩ := Prod.mk.inj (Option.some.inj h)
  exact ⟨h1.symm, h2⟩
theorem call_is {l t : List Int} {c : List (List Int)} (h : PyFlat.call PySm06.shape l = some (c, t)) (hb : PyInside.call PySm06.bound c = true) :
    ∃ x, At l x t ∧ ∀ s, Sm06Neutral.step s ((PySm06.whole c).headD []) = Sm06.step s x := by
  cases l with
  | nil => cases h
  | cons p r =>
    unfold PyFlat.call at h
    dsimp only at h
    cases e : PySm06.shape p with
    | none =>
      rw [e] at h
      cases h
    | some nk =>
      obtain ⟨n, k⟩ := nk
      rw [e] at h
      dsimp only at h
      split at h
      · cases h
      · rename_i hn
        cases er : PyFlat.rows k (r.drop n) with
        | none =>
          rw [er] at h
          cases h
        | some xt =>
          obtain ⟨xs, t'⟩ := xt
          rw [er] at h
          dsimp only at h
          obtain ⟨h1, h2⟩ := Prod.mk.inj (Option.some.inj h)
          subst h1 h2
          have nums : ∀ (q : Int), (n, k) = (1, 0) → ∃ z, r = z :: t' ∧ xs = [] := fun q e => by
            obtain ⟨rfl, rfl⟩ := Prod.mk.inj e
            obtain ⟨e1, e2⟩ := rows_none er
            cases r with
            | nil => exact absurd (by decide) hn
            | cons z r' => exact ⟨z, by rw [← e2]; rfl, e1⟩
          unfold PySm06.shape at e
          by_cases hp : p = 0
          · rw [if_pos hp] at e
            obtain ⟨z, e1, e2⟩ := nums p (Option.some.inj e).symm
            obtain ⟨rfl, rfl⟩ := Prod.mk.inj (Option.some.inj e).symm
            subst e1 e2 hp
            have bz : PyInside.within 0 4294967295 z = true := by
              simpa [PyInside.call, PySm06.bound, PyInside.each, PyInside.lists] using hb
            have nz := within_nat bz
            refine ⟨.start z.toNat, ?_, fun s => step_of ?_⟩
            · show _ = _
              rw [nat_cast nz]
            · show Sm06Neutral.callOf [0, z] = _
              simp only [Sm06Neutral.callOf]
              rw [if_pos nz]
          rw [if_neg hp] at e
          by_cases hp : p = 1
          · rw [if_pos hp] at e
            obtain ⟨rfl, rfl⟩ := Prod.mk.inj (Option.some.inj e).symm
            obtain ⟨x, e1, e2⟩ := rows_one er
            subst e1 hp
            have b1 : x.length ≤ 60 ∧ x.all (PyInside.within (-2147483648) 2147483647) = true := by
              simpa [PyInside.call, PySm06.bound, PyInside.each, PyInside.lists] using hb
            refine ⟨.clause x, ⟨congrArg _ e2, b1.1⟩, fun s => step_of ?_⟩
            show Sm06Neutral.callOf (1 :: x) = _
            simp only [Sm06Neutral.callOf]
            rw [if_pos (within_whole b1.2)]
          rw [if_neg hp] at e
          by_cases hp : p = 2
          · rw [if_pos hp] at e
            obtain ⟨rfl, rfl⟩ := Prod.mk.inj (Option.some.inj e).symm
            obtain ⟨e1, e2⟩ := rows_none er
            subst e1 e2 hp
            exact ⟨.mark, rfl, fun s => step_of rfl⟩
          rw [if_neg hp] at e
          by_cases hp : p = 3
          · rw [if_pos hp] at e
            obtain ⟨rfl, rfl⟩ := Prod.mk.inj (Option.some.inj e).symm
            obtain ⟨e1, e2⟩ := rows_none er
            subst e1 e2 hp
            exact ⟨.back, rfl, fun s => step_of rfl⟩
          rw [if_neg hp] at e
          by_cases hp : p = 4
          · rw [if_pos hp] at e
            obtain ⟨rfl, rfl⟩ := Prod.mk.inj (Option.some.inj e).symm
            obtain ⟨x, e1, e2⟩ := rows_one er
            subst e1 hp
            cases r with
            | nil => exact absurd (by decide) hn
            | cons z r' =>
              have b1 : PyInside.within 0 4294967295 z = true ∧ x.length ≤ 60 ∧ x.all (PyInside.within (-2147483648) 2147483647) = true := by
                simpa [PyInside.call, PySm06.bound, PyInside.each, PyInside.lists] using hb
              have nz := within_nat b1.1
              refine ⟨.decide z.toNat x, ⟨?_, b1.2.1⟩, fun s => step_of ?_⟩
              · rw [nat_cast nz]
                exact congrArg (fun q => 4 :: z :: q) e2
              · show Sm06Neutral.callOf (4 :: z :: x) = _
                simp only [Sm06Neutral.callOf]
                rw [if_pos ⟨nz, within_whole b1.2.2⟩]
          rw [if_neg hp] at e
          by_cases hp : p = 5
          · rw [if_pos hp] at e
            obtain ⟨rfl, rfl⟩ := Prod.mk.inj (Option.some.inj e).symm
            obtain ⟨e1, e2⟩ := rows_none er
            subst e1 e2 hp
            exact ⟨.learnt, rfl, fun s => step_of rfl⟩
          rw [if_neg hp] at e
          by_cases hp : p = 6
          · rw [if_pos hp] at e
            obtain ⟨z, e1, e2⟩ := nums p (Option.some.inj e).symm
            obtain ⟨rfl, rfl⟩ := Prod.mk.inj (Option.some.inj e).symm
            subst e1 e2 hp
            have bz : PyInside.within 0 4294967295 z = true := by
              simpa [PyInside.call, PySm06.bound, PyInside.each, PyInside.lists] using hb
            have nz := within_nat bz
            refine ⟨.came z.toNat, ?_, fun s => step_of ?_⟩
            · show _ = _
              rw [nat_cast nz]
            · show Sm06Neutral.callOf [6, z] = _
              simp only [Sm06Neutral.callOf]
              rw [if_pos nz]
          rw [if_neg hp] at e
          by_cases hp : p = 7
          · rw [if_pos hp] at e
            obtain ⟨z, e1, e2⟩ := nums p (Option.some.inj e).symm
            obtain ⟨rfl, rfl⟩ := Prod.mk.inj (Option.some.inj e).symm
            subst e1 e2 hp
            have bz : PyInside.within 0 4294967295 z = true := by
              simpa [PyInside.call, PySm06.bound, PyInside.each, PyInside.lists] using hb
            have nz := within_nat bz
            refine ⟨.forget z.toNat, ?_, fun s => step_of ?_⟩
            · show _ = _
              rw [nat_cast nz]
            · show Sm06Neutral.callOf [7, z] = _
              simp only [Sm06Neutral.callOf]
              rw [if_pos nz]
          rw [if_neg hp] at e
          by_cases hp : p = 8
          · rw [if_pos hp] at e
            obtain ⟨rfl, rfl⟩ := Prod.mk.inj (Option.some.inj e).symm
            obtain ⟨x, e1, e2⟩ := rows_one er
            subst e1 hp
            have b1 : x.length ≤ 60 ∧ x.all (PyInside.within (-2147483648) 2147483647) = true := by
              simpa [PyInside.call, PySm06.bound, PyInside.each, PyInside.lists] using hb
            refine ⟨.steps x, ⟨congrArg _ e2, b1.1⟩, fun s => step_of ?_⟩
            show Sm06Neutral.callOf (8 :: x) = _
            simp only [Sm06Neutral.callOf]
            rw [if_pos (within_whole b1.2)]
          rw [if_neg hp] at e
          by_cases hp : p = 9
          · rw [if_pos hp] at e
            obtain ⟨rfl, rfl⟩ := Prod.mk.inj (Option.some.inj e).symm
            obtain ⟨e1, e2⟩ := rows_none er
            subst e1 e2 hp
            exact ⟨.order, rfl, fun s => step_of rfl⟩
          rw [if_neg hp] at e
          by_cases hp : p = 10
          · rw [if_pos hp] at e
            obtain ⟨rfl, rfl⟩ := Prod.mk.inj (Option.some.inj e).symm
            obtain ⟨e1, e2⟩ := rows_none er
            subst e1 e2 hp
            exact ⟨.shows, rfl, fun s => step_of rfl⟩
          rw [if_neg hp] at e
          cases e

/-- what is answered of calls, from a state -/
def outs (s : St) (raw : List (List (List Int))) : List Int := PyFlat.told (PyFlat.played (fun s c => Sm06Neutral.step s (c.headD [])) s (raw.map PySm06.whole))
theorem outs_cons {s : St} {c : List (List Int)} {cs : List (List (List Int))} {x : Call} (h : ∀ s, Sm06Neutral.step s ((PySm06.whole c).headD []) = Sm06.step s x) : outs s (c :: cs) = ((Sm06.step s x).2.length : Int) :: ((Sm06.step s x).2 ++ outs (Sm06.step s x).1 cs) := by
  unfold outs
  rw [List.map_cons]
  show PyFlat.told ((Sm06Neutral.step s ((PySm06.whole c).headD [])).2 :: PyFlat.played (fun s c => Sm06Neutral.step s (c.headD [])) (Sm06Neutral.step s ((PySm06.whole c).headD [])).1 (cs.map PySm06.whole)) = _
  rw [h s]
  rfl
theorem calls_cons {f : Nat} {p : Int} {r : List Int} {raw : List (List (List Int))} (h : PyFlat.calls PySm06.shape f (p :: r) = some raw) : ∃ f' c t cs, raw = c :: cs ∧ PyFlat.call PySm06.shape (p :: r) = some (c, t) ∧ PyFlat.calls PySm06.shape f' t = some cs := by
  cases f with
  | zero => cases h
  | succ f =>
    unfold PyFlat.calls at h
    cases e : PyFlat.call PySm06.shape (p :: r) with
    | none =>
      rw [e] at h
      cases h
    | some ct =>
      obtain ⟨c, t⟩ := ct
      rw [e] at h
      dsimp only at h
      cases e2 : PyFlat.calls PySm06.shape f t with
      | none =>
        rw [e2] at h
        cases h
      | some cs =>
        rw [e2] at h
        exact ⟨f, c, t, cs, (Option.some.inj h).symm, rfl, e2⟩
theorem calls_nil {f : Nat} {raw : List (List (List Int))} (h : PyFlat.calls PySm06.shape f [] = some raw) : raw = [] := by
  cases f <;> exact (Option.some.inj h).symm
theorem asked_raw {l : List Int} (h : PySm06.answers_asked l = true) : ∃ raw, PyFlat.calls PySm06.shape l.length l = some raw ∧ raw.length ≤ 40 ∧ (∀ c ∈ raw, PyInside.call PySm06.bound c = true) ∧ PySm06.answers l = outs Sm06.init raw ∧ (PySm06.answers l).length ≤ 10000000 := by
  unfold PySm06.answers_asked at h
  cases e : PyFlat.calls PySm06.shape l.length l with
  | none =>
    rw [e] at h
    cases h
  | some raw =>
    rw [e] at h
    dsimp only at h
    rw [Bool.and_eq_true, Bool.and_eq_true, Bool.and_eq_true, Bool.and_eq_true] at h
    refine ⟨raw, rfl, of_decide_eq_true h.1.1.1.2, List.all_eq_true.mp h.1.1.2, ?_, of_decide_eq_true h.2⟩
    unfold PySm06.answers PySm06.calls
    rw [e]
    rfl
end Kc
set_option Elab.async false
set_option maxRecDepth 100000
set_option maxHeartbeats 2000000
set_option linter.all false
namespace Kc
open PySem PySem.Spec PyProof.Rows L2
open Sm06 (Clause Setting Trail)

/-! ### the text by places -/
def top (i : Nat) : Stmt := PySem.Challenge.pw_keptclauses_s01_answers.main.body.getD i (.Pass ⟨0, 0, 0, 0⟩)

/-! ### a def that is called by its name -/
structure Cal (P : Program) (w : World) (K : PySem.W.Frag) (mg : Str → Option Value) (base : Heap) (k : Nat) (x : Str) (ps : List Str) (sp : Sp) : Prop where
  ex : ∃ f fd, FnOk P w K mg base CX0 k f fd ps sp ∧ mg x = some (.ref f) ∧ PySem.W.keepIn K (.ref f) = true ∧ Binds K fd ps []
theorem pe_cal {X : Cx} {k : Nat} {x : Str} {ps : List Str} {sp : Sp} {e : Expr} {es : List Expr} {t : TA} {p pos : Pos} (C : Cal X.prog X.w X.K X.mg X.base k x ps sp) (hr : Room k X.A) (hg : Gl X x) (ha : PA X (e :: es) t)
    (hdb : (x == ("__debug__" : Str)) = false := by decide) (he : starEach (e :: es) X.env = (false, eval e X.env) :: starEach es X.env := by rfl) (hpl : (backTo pos (starEach es X.env)).any (·.1) = false := by rfl) :
    PE X (.Call (.Name x p) (e :: es) [] pos) (tCall sp [] E0 t) := by
  obtain ⟨f, fd, F, hm, hk, hb⟩ := C.ex
  exact pe_call F hr hg hm hk hb .nil pass0 ha hdb he hpl
/-- an own class that is made by its name -/
structure Mak (P : Program) (w : World) (K : PySem.W.Frag) (mg : Str → Option Value) (base : Heap) (k : Nat) (x : Str) (C : Addr) (ps : List Str) (sp : Sp) : Prop where
  ex : ∃ f fd, Mk K C f ∧ FnOk P w K mg base CX0 k f fd ps sp ∧ mg x = some (.ref C) ∧ Binds K fd ps []
theorem pe_mak {X : Cx} {k : Nat} {x : Str} {C : Addr} {ps : List Str} {sp : Sp} {e : Expr} {es : List Expr} {t : TA} {p pos : Pos} (M : Mak X.prog X.w X.K X.mg X.base k x C ps sp) (hr : Room (k + 1) X.A) (hg : Gl X x) (ha : PA X (e :: es) t)
    (hdb : (x == ("__debug__" : Str)) = false := by decide) (he : starEach (e :: es) X.env = (false, eval e X.env) :: starEach es X.env := by rfl) (hpl : (backTo pos (starEach es X.env)).any (·.1) = false := by rfl) :
    PE X (.Call (.Name x p) (e :: es) [] pos) (tMake C sp [] E0 t) := by
  obtain ⟨f, fd, M, F, hm, hb⟩ := M.ex
  exact pe_make M F hr hg hm hb .nil pass0 ha hdb he hpl
theorem if_true_of {c : Bool} {A B : Prop} (hc : c = true) (h : A) : if c = true then A else B := by
  rw [if_pos hc]
  exact h
theorem if_false_of {c : Bool} {A B : Prop} (hc : c = false) (h : B) : if c = true then A else B := by
  rw [hc, if_neg Bool.false_ne_true]
  exact h

/-! ### fields -/
theorem lk_here {k : Str} {v : V} {r : List (Str × V)} : List.lookup k ((k, v) :: r) = some v := by
  have e : (k == k) = true := beq_self_eq_true k
  simp only [List.lookup, e]
theorem lk_past {k g : Str} {v : V} {r : List (Str × V)} (h : (k == g) = false) : List.lookup k ((g, v) :: r) = List.lookup k r := by
  simp only [List.lookup, h]
theorem put_here {f : Str} {v x : V} {r : List (Str × V)} : putF f v ((f, x) :: r) = (f, v) :: r := if_pos rfl
theorem put_past {f g : Str} {v x : V} {r : List (Str × V)} (h : ¬ g = f) : putF f v ((g, x) :: r) = (g, x) :: putF f v r := if_neg h

/-! ### the classes' places -/
structure Cs where
  se : Addr
  cl : Addr
  st : Addr
  rd : Addr
/-- Settings -/
def seF (st : Addr) (level : Int) (tr : Addr) (va : Addr) (le : Addr) (wh : Addr) (la : Addr) : List (Str × V) := [("store", .ref st), ("level", .int level), ("trail", .ref tr), ("value_of", .ref va), ("level_of", .ref le), ("clause_of", .ref wh), ("last_so", .ref la)]
section
variable {st : Addr} {level : Int} {tr : Addr} {va : Addr} {le : Addr} {wh : Addr} {la : Addr}
theorem seF_store : (seF st level tr va le wh la).lookup ("store" : Str) = some (.ref st) := lk_here
theorem seF_level : (seF st level tr va le wh la).lookup ("level" : Str) = some (.int level) := (lk_past (by decide +kernel)).trans (lk_here)
theorem seF_put_level (y : Int) : putF "level" (.int y) (seF st level tr va le wh la) = seF st y tr va le wh la := (put_past (by decide +kernel)).trans (congrArg _ (put_here))
theorem seF_trail : (seF st level tr va le wh la).lookup ("trail" : Str) = some (.ref tr) := (lk_past (by decide +kernel)).trans ((lk_past (by decide +kernel)).trans (lk_here))
theorem seF_value_of : (seF st level tr va le wh la).lookup ("value_of" : Str) = some (.ref va) := (lk_past (by decide +kernel)).trans ((lk_past (by decide +kernel)).trans ((lk_past (by decide +kernel)).trans (lk_here)))
theorem seF_level_of : (seF st level tr va le wh la).lookup ("level_of" : Str) = some (.ref le) := (lk_past (by decide +kernel)).trans ((lk_past (by decide +kernel)).trans ((lk_past (by decide +kernel)).trans ((lk_past (by decide +kernel)).trans (lk_here))))
theorem seF_clause_of : (seF st level tr va le wh la).lookup ("clause_of" : Str) = some (.ref wh) := (lk_past (by decide +kernel)).trans ((lk_past (by decide +kernel)).trans ((lk_past (by decide +kernel)).trans ((lk_past (by decide +kernel)).trans ((lk_past (by decide +kernel)).trans (lk_here)))))
theorem seF_last_so : (seF st level tr va le wh la).lookup ("last_so" : Str) = some (.ref la) := (lk_past (by decide +kernel)).trans ((lk_past (by decide +kernel)).trans ((lk_past (by decide +kernel)).trans ((lk_past (by decide +kernel)).trans ((lk_past (by decide +kernel)).trans ((lk_past (by decide +kernel)).trans (lk_here))))))
theorem seF_none {f : Str} (h : (["store", "level", "trail", "value_of", "level_of", "clause_of", "last_so"] : List Str).contains f = false) : (seF st level tr va le wh la).lookup f = none := by
  simp only [List.contains_cons, List.contains_nil, Bool.or_false, Bool.or_eq_false_iff] at h
  exact (lk_past h.1).trans ((lk_past h.2.1).trans ((lk_past h.2.2.1).trans ((lk_past h.2.2.2.1).trans ((lk_past h.2.2.2.2.1).trans ((lk_past h.2.2.2.2.2.1).trans ((lk_past h.2.2.2.2.2.2).trans (rfl)))))))
end
/-- Store -/
def stF (n : Int) (cl : Addr) (marks : Int) (next : Int) (od : Addr) (la : Addr) : List (Str × V) := [("size", .int n), ("clauses", .ref cl), ("marks", .int marks), ("next_number", .int next), ("order", .ref od), ("last_so", .ref la)]
section
variable {n : Int} {cl : Addr} {marks : Int} {next : Int} {od : Addr} {la : Addr}
theorem stF_size : (stF n cl marks next od la).lookup ("size" : Str) = some (.int n) := lk_here
theorem stF_put_size (y : Int) : putF "size" (.int y) (stF n cl marks next od la) = stF y cl marks next od la := put_here
theorem stF_clauses : (stF n cl marks next od la).lookup ("clauses" : Str) = some (.ref cl) := (lk_past (by decide +kernel)).trans (lk_here)
theorem stF_put_clauses (y : Addr) : putF "clauses" (.ref y) (stF n cl marks next od la) = stF n y marks next od la := (put_past (by decide +kernel)).trans (congrArg _ (put_here))
theorem stF_marks : (stF n cl marks next od la).lookup ("marks" : Str) = some (.int marks) := (lk_past (by decide +kernel)).trans ((lk_past (by decide +kernel)).trans (lk_here))
theorem stF_put_marks (y : Int) : putF "marks" (.int y) (stF n cl marks next od la) = stF n cl y next od la := (put_past (by decide +kernel)).trans (congrArg _ ((put_past (by decide +kernel)).trans (congrArg _ (put_here))))
theorem stF_next_number : (stF n cl marks next od la).lookup ("next_number" : Str) = some (.int next) := (lk_past (by decide +kernel)).trans ((lk_past (by decide +kernel)).trans ((lk_past (by decide +kernel)).trans (lk_here)))
theorem stF_put_next_number (y : Int) : putF "next_number" (.int y) (stF n cl marks next od la) = stF n cl marks y od la := (put_past (by decide +kernel)).trans (congrArg _ ((put_past (by decide +kernel)).trans (congrArg _ ((put_past (by decide +kernel)).trans (congrArg _ (put_here))))))
theorem stF_order : (stF n cl marks next od la).lookup ("order" : Str) = some (.ref od) := (lk_past (by decide +kernel)).trans ((lk_past (by decide +kernel)).trans ((lk_past (by decide +kernel)).trans ((lk_past (by decide +kernel)).trans (lk_here))))
theorem stF_put_order (y : Addr) : putF "order" (.ref y) (stF n cl marks next od la) = stF n cl marks next y la := (put_past (by decide +kernel)).trans (congrArg _ ((put_past (by decide +kernel)).trans (congrArg _ ((put_past (by decide +kernel)).trans (congrArg _ ((put_past (by decide +kernel)).trans (congrArg _ (put_here))))))))
theorem stF_last_so : (stF n cl marks next od la).lookup ("last_so" : Str) = some (.ref la) := (lk_past (by decide +kernel)).trans ((lk_past (by decide +kernel)).trans ((lk_past (by decide +kernel)).trans ((lk_past (by decide +kernel)).trans ((lk_past (by decide +kernel)).trans (lk_here)))))
theorem stF_put_last_so (y : Addr) : putF "last_so" (.ref y) (stF n cl marks next od la) = stF n cl marks next od y := (put_past (by decide +kernel)).trans (congrArg _ ((put_past (by decide +kernel)).trans (congrArg _ ((put_past (by decide +kernel)).trans (congrArg _ ((put_past (by decide +kernel)).trans (congrArg _ ((put_past (by decide +kernel)).trans (congrArg _ (put_here))))))))))
theorem stF_none {f : Str} (h : (["size", "clauses", "marks", "next_number", "order", "last_so"] : List Str).contains f = false) : (stF n cl marks next od la).lookup f = none := by
  simp only [List.contains_cons, List.contains_nil, Bool.or_false, Bool.or_eq_false_iff] at h
  exact (lk_past h.1).trans ((lk_past h.2.1).trans ((lk_past h.2.2.1).trans ((lk_past h.2.2.2.1).trans ((lk_past h.2.2.2.2.1).trans ((lk_past h.2.2.2.2.2).trans (rfl))))))
end
/-- Clause -/
def clF (num : Int) (hei : Int) (li : Addr) (co : Addr) : List (Str × V) := [("number", .int num), ("height", .int hei), ("literals", .ref li), ("came_of", .ref co)]
section
variable {num : Int} {hei : Int} {li : Addr} {co : Addr}
theorem clF_number : (clF num hei li co).lookup ("number" : Str) = some (.int num) := lk_here
theorem clF_height : (clF num hei li co).lookup ("height" : Str) = some (.int hei) := (lk_past (by decide +kernel)).trans (lk_here)
theorem clF_literals : (clF num hei li co).lookup ("literals" : Str) = some (.ref li) := (lk_past (by decide +kernel)).trans ((lk_past (by decide +kernel)).trans (lk_here))
theorem clF_came_of : (clF num hei li co).lookup ("came_of" : Str) = some (.ref co) := (lk_past (by decide +kernel)).trans ((lk_past (by decide +kernel)).trans ((lk_past (by decide +kernel)).trans (lk_here)))
theorem clF_none {f : Str} (h : (["number", "height", "literals", "came_of"] : List Str).contains f = false) : (clF num hei li co).lookup f = none := by
  simp only [List.contains_cons, List.contains_nil, Bool.or_false, Bool.or_eq_false_iff] at h
  exact (lk_past h.1).trans ((lk_past h.2.1).trans ((lk_past h.2.2.1).trans ((lk_past h.2.2.2).trans (rfl))))
end
/-- Reader -/
def rdF (ca : Addr) (pl : Int) : List (Str × V) := [("calls", .ref ca), ("place", .int pl)]
section
variable {ca : Addr} {pl : Int}
theorem rdF_calls : (rdF ca pl).lookup ("calls" : Str) = some (.ref ca) := lk_here
theorem rdF_place : (rdF ca pl).lookup ("place" : Str) = some (.int pl) := (lk_past (by decide +kernel)).trans (lk_here)
theorem rdF_put_place (y : Int) : putF "place" (.int y) (rdF ca pl) = rdF ca y := (put_past (by decide +kernel)).trans (congrArg _ (put_here))
theorem rdF_none {f : Str} (h : (["calls", "place"] : List Str).contains f = false) : (rdF ca pl).lookup f = none := by
  simp only [List.contains_cons, List.contains_nil, Bool.or_false, Bool.or_eq_false_iff] at h
  exact (lk_past h.1).trans ((lk_past h.2).trans (rfl))
end

/-! ### what the top has written -/
/-- a whole number of the module's own -/
def Konst (mg : Str → Option Value) (x : Str) (n : Int) : Prop := ∃ t, mg x = some (.int n t)
theorem pe_konst {X : Cx} {x : Str} {n : Int} {pos : Pos} (h : Konst X.mg x n) (hg : Gl X x) (hd : (x == ("__debug__" : Str)) = false := by decide) : PE X (.Name x pos) (tC (.int n)) := by
  obtain ⟨t, e⟩ := h
  exact pe_glob hg e ⟨t, rfl⟩ hd
structure Txt (K : PySem.W.Frag) (mg : Str → Option Value) (C : Cs) : Prop where
  seC : Cls K C.se
  stC : Cls K C.st
  clC : Cls K C.cl
  rdC : Cls K C.rd
  se : ∀ f : Str, f ∈ (["store", "level", "trail", "value_of", "level_of", "clause_of", "last_so"] : List Str) → NoAttr K C.se f
  st : ∀ f : Str, f ∈ (["size", "clauses", "marks", "next_number", "order", "last_so"] : List Str) → NoAttr K C.st f
  cl : ∀ f : Str, f ∈ (["number", "height", "literals", "came_of"] : List Str) → NoAttr K C.cl f
  rd : ∀ f : Str, f ∈ (["calls", "place"] : List Str) → NoAttr K C.rd f
  g_SIZE_AT_FIRST : Konst mg "SIZE_AT_FIRST" 3
  g_MOST_VARIABLES : Konst mg "MOST_VARIABLES" 12
  g_MOST_GIVEN : Konst mg "MOST_GIVEN" 50
  g_MOST_MARKS : Konst mg "MOST_MARKS" 8
  g_MOST_TO_LEARN : Konst mg "MOST_TO_LEARN" 60
  bi : ∀ f : Str, f ∈ (["abs", "len", "any", "sorted", "max", "list", "range", "reversed"] : List Str) → mg f = none
section
variable {K : PySem.W.Frag} {mg : Str → Option Value} {C : Cs}
theorem Txt.se_store (T : Txt K mg C) : NoAttr K C.se "store" := T.se _ (List.mem_cons_self)
theorem Txt.se_level (T : Txt K mg C) : NoAttr K C.se "level" := T.se _ (List.mem_cons_of_mem _ (List.mem_cons_self))
theorem Txt.se_trail (T : Txt K mg C) : NoAttr K C.se "trail" := T.se _ (List.mem_cons_of_mem _ (List.mem_cons_of_mem _ (List.mem_cons_self)))
theorem Txt.se_value_of (T : Txt K mg C) : NoAttr K C.se "value_of" := T.se _ (List.mem_cons_of_mem _ (List.mem_cons_of_mem _ (List.mem_cons_of_mem _ (List.mem_cons_self))))
theorem Txt.se_level_of (T : Txt K mg C) : NoAttr K C.se "level_of" := T.se _ (List.mem_cons_of_mem _ (List.mem_cons_of_mem _ (List.mem_cons_of_mem _ (List.mem_cons_of_mem _ (List.mem_cons_self)))))
theorem Txt.se_clause_of (T : Txt K mg C) : NoAttr K C.se "clause_of" := T.se _ (List.mem_cons_of_mem _ (List.mem_cons_of_mem _ (List.mem_cons_of_mem _ (List.mem_cons_of_mem _ (List.mem_cons_of_mem _ (List.mem_cons_self))))))
theorem Txt.se_last_so (T : Txt K mg C) : NoAttr K C.se "last_so" := T.se _ (List.mem_cons_of_mem _ (List.mem_cons_of_mem _ (List.mem_cons_of_mem _ (List.mem_cons_of_mem _ (List.mem_cons_of_mem _ (List.mem_cons_of_mem _ (List.mem_cons_self)))))))
theorem Txt.st_size (T : Txt K mg C) : NoAttr K C.st "size" := T.st _ (List.mem_cons_self)
theorem Txt.st_clauses (T : Txt K mg C) : NoAttr K C.st "clauses" := T.st _ (List.mem_cons_of_mem _ (List.mem_cons_self))
theorem Txt.st_marks (T : Txt K mg C) : NoAttr K C.st "marks" := T.st _ (List.mem_cons_of_mem _ (List.mem_cons_of_mem _ (List.mem_cons_self)))
theorem Txt.st_next_number (T : Txt K mg C) : NoAttr K C.st "next_number" := T.st _ (List.mem_cons_of_mem _ (List.mem_cons_of_mem _ (List.mem_cons_of_mem _ (List.mem_cons_self))))
theorem Txt.st_order (T : Txt K mg C) : NoAttr K C.st "order" := T.st _ (List.mem_cons_of_mem _ (List.mem_cons_of_mem _ (List.mem_cons_of_mem _ (List.mem_cons_of_mem _ (List.mem_cons_self)))))
theorem Txt.st_last_so (T : Txt K mg C) : NoAttr K C.st "last_so" := T.st _ (List.mem_cons_of_mem _ (List.mem_cons_of_mem _ (List.mem_cons_of_mem _ (List.mem_cons_of_mem _ (List.mem_cons_of_mem _ (List.mem_cons_self))))))
theorem Txt.cl_number (T : Txt K mg C) : NoAttr K C.cl "number" := T.cl _ (List.mem_cons_self)
theorem Txt.cl_height (T : Txt K mg C) : NoAttr K C.cl "height" := T.cl _ (List.mem_cons_of_mem _ (List.mem_cons_self))
theorem Txt.cl_literals (T : Txt K mg C) : NoAttr K C.cl "literals" := T.cl _ (List.mem_cons_of_mem _ (List.mem_cons_of_mem _ (List.mem_cons_self)))
theorem Txt.cl_came_of (T : Txt K mg C) : NoAttr K C.cl "came_of" := T.cl _ (List.mem_cons_of_mem _ (List.mem_cons_of_mem _ (List.mem_cons_of_mem _ (List.mem_cons_self))))
theorem Txt.rd_calls (T : Txt K mg C) : NoAttr K C.rd "calls" := T.rd _ (List.mem_cons_self)
theorem Txt.rd_place (T : Txt K mg C) : NoAttr K C.rd "place" := T.rd _ (List.mem_cons_of_mem _ (List.mem_cons_self))
theorem Txt.b_abs (T : Txt K mg C) : mg "abs" = none := T.bi _ (List.mem_cons_self)
theorem Txt.b_len (T : Txt K mg C) : mg "len" = none := T.bi _ (List.mem_cons_of_mem _ (List.mem_cons_self))
theorem Txt.b_any (T : Txt K mg C) : mg "any" = none := T.bi _ (List.mem_cons_of_mem _ (List.mem_cons_of_mem _ (List.mem_cons_self)))
theorem Txt.b_sorted (T : Txt K mg C) : mg "sorted" = none := T.bi _ (List.mem_cons_of_mem _ (List.mem_cons_of_mem _ (List.mem_cons_of_mem _ (List.mem_cons_self))))
theorem Txt.b_max (T : Txt K mg C) : mg "max" = none := T.bi _ (List.mem_cons_of_mem _ (List.mem_cons_of_mem _ (List.mem_cons_of_mem _ (List.mem_cons_of_mem _ (List.mem_cons_self)))))
theorem Txt.b_list (T : Txt K mg C) : mg "list" = none := T.bi _ (List.mem_cons_of_mem _ (List.mem_cons_of_mem _ (List.mem_cons_of_mem _ (List.mem_cons_of_mem _ (List.mem_cons_of_mem _ (List.mem_cons_self))))))
theorem Txt.b_range (T : Txt K mg C) : mg "range" = none := T.bi _ (List.mem_cons_of_mem _ (List.mem_cons_of_mem _ (List.mem_cons_of_mem _ (List.mem_cons_of_mem _ (List.mem_cons_of_mem _ (List.mem_cons_of_mem _ (List.mem_cons_self)))))))
theorem Txt.b_reversed (T : Txt K mg C) : mg "reversed" = none := T.bi _ (List.mem_cons_of_mem _ (List.mem_cons_of_mem _ (List.mem_cons_of_mem _ (List.mem_cons_of_mem _ (List.mem_cons_of_mem _ (List.mem_cons_of_mem _ (List.mem_cons_of_mem _ (List.mem_cons_self))))))))
end

/-! ### what lies in memory -/
/-- the settings' places: the object, trail, value_of, level_of, clause_of, last_so; z: a search; ph: how variables were set last ahead of it -/
structure SetA where
  a : Addr
  tr : Addr
  va : Addr
  le : Addr
  wh : Addr
  la : Addr
  z : Bool
  ph : List Nat
/-- the store's places: the object, clauses, order, last_so; X: what else is changed by its callers -/
structure StoA where
  a : Addr
  cl : Addr
  od : Addr
  la : Addr
  X : List Addr
abbrev SetA.M (B : SetA) : List Addr := [B.a, B.tr, B.va, B.le, B.wh, B.la]
abbrev StoA.M (A : StoA) : List Addr := [A.a, A.cl, A.od, A.la]
abbrev MM (B : SetA) (A : StoA) : List Addr := B.M ++ A.M
abbrev MX (B : SetA) (A : StoA) : List Addr := MM B A ++ A.X
abbrev AX (A : StoA) : List Addr := A.M ++ A.X
/-- the same store for its callers -/
structure Lk (A' A : StoA) : Prop where
  a : A'.a = A.a
  x : A'.X = A.X
theorem Lk.refl (A : StoA) : Lk A A := ⟨rfl, rfl⟩
theorem Lk.trans {A A' A'' : StoA} (p : Lk A'' A') (q : Lk A' A) : Lk A'' A := ⟨p.a.trans q.a, p.x.trans q.x⟩
/-- a clause and its literals lie where nothing is changed -/
def ClauseAt (C : Cs) (H : Hp) (M : List Addr) (b : Addr) (c : Clause) : Prop := ∃ dx li co, H b = some (.ins C.cl dx (clF c.num c.height li co)) ∧ H li = some (.lst (c.lits.map V.int)) ∧ b ∉ M ∧ li ∉ M ∧ H co = some (.lst (c.came.map fun x => V.int (x : Nat))) ∧ co ∉ M ∧ c.learnt = decide (0 < c.came.length) ∧ c.came.length ≤ 1000
/-- all that lies outside of M stays, and lies outside of M'; what is new was not there -/
def Keep (M M' : List Addr) (H H' : Hp) : Prop := (∀ b o, H b = some o → b ∉ M → H' b = some o ∧ b ∉ M') ∧ ∀ b, H' b = none → H b = none
theorem Keep.refl (M : List Addr) (H : Hp) : Keep M M H H := ⟨fun _ _ h n => ⟨h, n⟩, fun _ h => h⟩
theorem Keep.trans {M M' M'' : List Addr} {H H' H'' : Hp} (a : Keep M M' H H') (b : Keep M' M'' H' H'') : Keep M M'' H H'' := ⟨fun x o h n => let ⟨h1, n1⟩ := a.1 x o h n; b.1 x o h1 n1, fun x h => a.2 x (b.2 x h)⟩
theorem Keep.same {M : List Addr} {H H' : Hp} (e : Same H H') : Keep M M H H' := ⟨fun x o h n => ⟨e x o h, n⟩, fun x h => e.free h⟩
theorem Keep.put {M : List Addr} {H : Hp} {a : Addr} {o : HO} (h : a ∈ M) : Keep M M H (upd H a o) := by
  refine ⟨fun x u e n => ?_, fun x e => ?_⟩
  · have ne : x ≠ a := fun q => n (by rw [q]; exact h)
    exact ⟨by rw [upd_ne ne]; exact e, n⟩
  · by_cases q : x = a
    · rw [q, upd_same] at e
      cases e
    · rw [upd_ne q] at e
      exact e
theorem Same.new {H : Hp} {p : Addr} {o : HO} (h : H p = none) : Same H (upd H p o) := fun b u e => by rw [upd_ne (ne_of_none e h)]; exact e
theorem ClauseAt.keep {C : Cs} {H H' : Hp} {M M' : List Addr} {b : Addr} {c : Clause} (h : ClauseAt C H M b c) (k : Keep M M' H H') : ClauseAt C H' M' b c := by
  obtain ⟨dx, li, co, h1, h2, n1, n2, h3, n3, r⟩ := h
  obtain ⟨a1, b1⟩ := k.1 _ _ h1 n1
  obtain ⟨a2, b2⟩ := k.1 _ _ h2 n2
  obtain ⟨a3, b3⟩ := k.1 _ _ h3 n3
  exact ⟨dx, li, co, a1, a2, b1, b2, a3, b3, r⟩
theorem ClauseAt.keepX {C : Cs} {H H' : Hp} {M M' X : List Addr} {b : Addr} {c : Clause} (h : ClauseAt C H (M ++ X) b c) (k : Keep M M' H H') : ClauseAt C H' (M' ++ X) b c := by
  obtain ⟨dx, li, co, h1, h2, n1, n2, h3, n3, r⟩ := h
  rw [List.mem_append, not_or] at n1 n2 n3
  obtain ⟨a1, b1⟩ := k.1 _ _ h1 n1.1
  obtain ⟨a2, b2⟩ := k.1 _ _ h2 n2.1
  obtain ⟨a3, b3⟩ := k.1 _ _ h3 n3.1
  exact ⟨dx, li, co, a1, a2, by rw [List.mem_append, not_or]; exact ⟨b1, n1.2⟩, by rw [List.mem_append, not_or]; exact ⟨b2, n2.2⟩, a3, by rw [List.mem_append, not_or]; exact ⟨b3, n3.2⟩, r⟩
/-- how variables were set last, a list -/
def PhAt (H : Hp) (a : Addr) (n : Nat) (ph : List Nat) : Prop := ∃ bs : List Bool, H a = some (.lst (bs.map V.bl)) ∧ bs.length = n + 1 ∧ ∀ v, 1 ≤ v → v ≤ n → bs[v]? = some (decide (v ∈ ph))
theorem PhAt.same {H H' : Hp} {a : Addr} {n : Nat} {ph : List Nat} (h : PhAt H a n ph) (e : Same H H') : PhAt H' a n ph := let ⟨bs, h1, h2⟩ := h; ⟨bs, e _ _ h1, h2⟩
theorem PhAt.keep {H H' : Hp} {M M' : List Addr} {a : Addr} {n : Nat} {ph : List Nat} (h : PhAt H a n ph) (k : Keep M M' H H') (o : a ∉ M) : PhAt H' a n ph := let ⟨bs, h1, h2⟩ := h; ⟨bs, (k.1 _ _ h1 o).1, h2⟩
theorem PhAt.iff {H : Hp} {a : Addr} {n : Nat} {ph ph' : List Nat} (h : PhAt H a n ph) (e : ∀ v, v ∈ ph' ↔ v ∈ ph) : PhAt H a n ph' := let ⟨bs, h1, h2, h3⟩ := h; ⟨bs, h1, h2, fun v p q => (h3 v p q).trans (congrArg some (decide_eq_decide.mpr (e v).symm))⟩
theorem PhAt.put {H : Hp} {a x : Addr} {o : HO} {n : Nat} {ph : List Nat} (h : PhAt H a n ph) (ne : a ≠ x) : PhAt (upd H x o) a n ph := let ⟨bs, h1, h2⟩ := h; ⟨bs, (upd_ne ne).trans h1, h2⟩
/-- the store -/
structure StoreAt (C : Cs) (H : Hp) (M : List Addr) (A : StoA) (L : List (Addr × Clause)) (s : Sm06.St) : Prop where
  ob : ∃ dx, H A.a = some (.ins C.st dx (stF s.n A.cl s.marks s.next A.od A.la))
  cl : H A.cl = some (.lst (L.map fun p => V.ref p.1))
  cs : s.clauses = L.map (·.2)
  od : H A.od = some (.lst (s.order.map fun v => V.int (v : Nat)))
  la : PhAt H A.la s.n s.phase
  each : ∀ p ∈ L, ClauseAt C H M p.1 p.2
  nd : A.M.Nodup
  sub : ∀ x ∈ A.M, x ∈ M
  al : ∀ x ∈ M, H x ≠ none
/-- the clause that set a variable -/
def whyV (L : List (Addr × Clause)) : Option Clause → V → Prop
  | none, v => v = .non
  | some c, v => ∃ b, v = .ref b ∧ (b, c) ∈ L
/-- the settings -/
structure SettAt (C : Cs) (H : Hp) (M : List Addr) (B : SetA) (st : Addr) (L : List (Addr × Clause)) (n : Nat) (t : Trail) (level : Nat) : Prop where
  ob : ∃ dx, H B.a = some (.ins C.se dx (seF st level B.tr B.va B.le B.wh B.la))
  tr : H B.tr = some (.lst (t.reverse.map fun x => V.int x.lit))
  va : ∃ ws : List Int, H B.va = some (.lst (ws.map V.int)) ∧ ws.length = n + 1 ∧ ∀ l : Int, 1 ≤ l.natAbs → l.natAbs ≤ n → ws[l.natAbs]? = some (if 0 < l then litVal t l else - litVal t l)
  le : ∃ ls : List Int, H B.le = some (.lst (ls.map V.int)) ∧ ls.length = n + 1 ∧ ∀ x ∈ t, ls[x.lit.natAbs]? = some (x.level : Int)
  wh : ∃ vs : List V, H B.wh = some (.lst vs) ∧ vs.length = n + 1 ∧ ∀ x ∈ t, ∃ v, vs[x.lit.natAbs]? = some v ∧ whyV L x.why v
  nd : B.M.Nodup
  sub : ∀ x ∈ B.M, x ∈ M
theorem StoreAt.same {C : Cs} {H H' : Hp} {M : List Addr} {A : StoA} {L : List (Addr × Clause)} {s : Sm06.St} (h : StoreAt C H M A L s) (e : Same H H') : StoreAt C H' M A L s where
  ob := let ⟨dx, h1⟩ := h.ob; ⟨dx, e _ _ h1⟩
  cl := e _ _ h.cl
  cs := h.cs
  od := e _ _ h.od
  la := let ⟨bs, h1, h2⟩ := h.la; ⟨bs, e _ _ h1, h2⟩
  each := fun p hp => (h.each p hp).keep (Keep.same e)
  nd := h.nd
  sub := h.sub
  al := fun x hx q => h.al x hx (e.free q)
theorem SettAt.same {C : Cs} {H H' : Hp} {M : List Addr} {B : SetA} {st : Addr} {L : List (Addr × Clause)} {n : Nat} {t : Trail} {level : Nat} (h : SettAt C H M B st L n t level) (e : Same H H') : SettAt C H' M B st L n t level where
  ob := let ⟨dx, h1⟩ := h.ob; ⟨dx, e _ _ h1⟩
  tr := e _ _ h.tr
  va := let ⟨bs, h1, h2⟩ := h.va; ⟨bs, e _ _ h1, h2⟩
  le := let ⟨bs, h1, h2⟩ := h.le; ⟨bs, e _ _ h1, h2⟩
  wh := let ⟨bs, h1, h2⟩ := h.wh; ⟨bs, e _ _ h1, h2⟩
  nd := h.nd
  sub := h.sub
/-- numbers by their places -/
theorem abs_ix (l : Int) : (if l < 0 then -l else l) = ((l.natAbs : Nat) : Int) := by
  split <;> omega
theorem at_abs {α : Type} {xs : List α} {l : Int} {v : α} (h : xs[l.natAbs]? = some v) : atI xs (if l < 0 then -l else l) = some v := by
  rw [abs_ix]
  exact atI_nat h
theorem ix_abs {n : Nat} {l : Int} (h : l.natAbs < n) : ixN n (if l < 0 then -l else l) = some l.natAbs := by
  rw [abs_ix]
  unfold ixN
  rw [if_pos (by omega), if_pos (by omega), Int.toNat_natCast]
theorem get_map {α β : Type} {xs : List α} {f : α → β} {i : Nat} {v : α} (h : xs[i]? = some v) : (xs.map f)[i]? = some (f v) := by
  rw [List.getElem?_map, h]
  rfl
theorem get_of_map {α β : Type} {xs : List α} {f : α → β} {i : Nat} {y : β} (h : (xs.map f)[i]? = some y) : ∃ x, xs[i]? = some x ∧ y = f x := by
  rw [List.getElem?_map] at h
  cases e : xs[i]? with
  | none =>
    rw [e] at h
    cases h
  | some x =>
    rw [e] at h
    exact ⟨x, rfl, (Option.some.inj h).symm⟩

/-! ### a state that is kept, and one in a search -/
structure SOk (s : Sm06.St) : Prop where
  n1 : 1 ≤ s.n
  n12 : s.n ≤ 12
  lits : ∀ c ∈ s.clauses, Lits s.n c.lits
  ord : ∀ v ∈ s.order, 1 ≤ v ∧ v ≤ s.n
  ol : s.order.length = s.n
  ph : ∀ v ∈ s.phase, 1 ≤ v ∧ v ≤ s.n
/-- the state with the phases as they were ahead of the search -/
def rest (B : SetA) (s : Sm06.St) : Sm06.St := ⟨s.n, s.clauses, s.next, s.marks, s.order, B.ph⟩
structure Wd (C : Cs) (H : Hp) (B : SetA) (A : StoA) (L : List (Addr × Clause)) (s : Sm06.St) (t : Trail) (level : Nat) : Prop where
  sto : StoreAt C H (MX B A) A L (rest B s)
  set : SettAt C H (MX B A) B A.a L s.n t level
  nd : (B.M ++ A.M).Nodup
  good : Good B.z s.n s.clauses t
  lev : ∀ x ∈ t, x.level ≤ level
  ok : SOk s
  la : PhAt H B.la s.n (Sm06.kept t s.phase)
theorem Wd.same {C : Cs} {H H' : Hp} {B : SetA} {A : StoA} {L : List (Addr × Clause)} {s : Sm06.St} {t : Trail} {level : Nat} (h : Wd C H B A L s t level) (e : Same H H') : Wd C H' B A L s t level := ⟨h.sto.same e, h.set.same e, h.nd, h.good, h.lev, h.ok, h.la.same e⟩

/-! ### the promises of settings.py -/
def spVal (C : Cs) : Sp := fun vs H Q _ => ∃ M B st L n t level, ∃ l : Int, vs = [.ref (SetA.a B), .int l] ∧ SettAt C H M B st L n t level ∧ 1 ≤ l.natAbs ∧ l.natAbs ≤ n ∧ Q (.int (litVal t l)) H
def spMust (C : Cs) : Sp := fun vs H Q _ => ∃ M B st L n t level b c, vs = [.ref (SetA.a B), .ref b] ∧ SettAt C H M B st L n t level ∧ ClauseAt C H M b c ∧ Lits n c.lits ∧ Q (.bl (Sm06.presses t c)) H
def spFree (C : Cs) : Sp := fun vs H Q _ => ∃ M B st L n t level b c, vs = [.ref (SetA.a B), .ref b] ∧ SettAt C H M B st L n t level ∧ ClauseAt C H M b c ∧ Lits n c.lits ∧ n ≤ 12 ∧
  ∀ H' p, Same H H' → H p = none → H' p = some (.lst ((c.lits.filter (Sm06.isOpen t)).map V.int)) → Q (.ref p) H'
def firstV (t : Trail) (L : List (Addr × Clause)) : V := match L.find? fun p => Sm06.presses t p.2 with
  | none => .non
  | some p => .ref p.1
def spFirst (C : Cs) : Sp := fun vs H Q _ => ∃ M B A L s n t level, vs = [.ref (SetA.a B)] ∧ SettAt C H M B (StoA.a A) L n t level ∧ StoreAt C H M A L s ∧ (∀ p ∈ L, Lits n p.2.lits) ∧ Q (firstV t L) H
def spSet (C : Cs) : Sp := fun vs H Q _ => ∃ B A L s t level l y v, vs = [.ref (SetA.a B), .int l, v] ∧ Wd C H B A L s t level ∧ whyV L y v ∧ Good (SetA.z B) s.n s.clauses (⟨l, level, y⟩ :: t) ∧
  ∀ H', Wd C H' B A L s (⟨l, level, y⟩ :: t) level → Keep (MM B A) (MM B A) H H' → Q .non H'
def spLevel (C : Cs) : Sp := fun vs H Q _ => ∃ B A L s t level l, vs = [.ref (SetA.a B), .int l] ∧ Wd C H B A L s t level ∧ Good (SetA.z B) s.n s.clauses (⟨l, level + 1, none⟩ :: t) ∧
  ∀ H', Wd C H' B A L s (⟨l, level + 1, none⟩ :: t) (level + 1) → Keep (MM B A) (MM B A) H H' → Q .non H'
def spUndo (C : Cs) : Sp := fun vs H Q _ => ∃ B A L s t level, ∃ b : Nat, vs = [.ref (SetA.a B), .int b] ∧ Wd C H B A L s t level ∧
  ∀ H', Wd C H' B A L (now s t) (t.filter fun y => decide (y.level ≤ b)) b → Keep (MM B A) (MM B A) H H' → Q .non H'
/-- a clause that is handed over, or none -/
def brokenV (L : List (Addr × Clause)) : Option Clause → V → Prop
  | none, v => v = .non
  | some c, v => ∃ b, v = .ref b ∧ (b, c) ∈ L
def spFollow (C : Cs) : Sp := fun vs H Q _ => ∃ B A L s t level, vs = [.ref (SetA.a B)] ∧ Wd C H B A L s t level ∧
  ∀ H' v, Wd C H' B A L s (Sm06.follow s.clauses level (s.n + 1) t).1 level → Keep (MM B A) (MM B A) H H' → brokenV L (Sm06.follow s.clauses level (s.n + 1) t).2 v → Q v H'
end Kc
set_option Elab.async false
set_option maxRecDepth 100000
set_option maxHeartbeats 2000000
set_option linter.all false
/-! max(xs, default=d): the loop as with no default, but that an empty list gives d -/
namespace PySem
section
variable {prog : Program} {w : World} {A : Around} {R : Result → Shared → Prop} {I : Addr} {fp wr : List Addr} {n : Nat} {P : Nat → Value → Prop} {St : Nat → Heap → Prop} {kw : List (Str × Value)}
theorem kc_loop (W : Walks prog w A.in1 I fp wr n P St) (bt : Nat → Nat → Bool) (cmp : CmpOf prog w A.in1 .Gt P bt) (Z : Addr) (zf : Z ∉ fp) (nm : (toString "max" ++ toString ".loop" : String) = "max.loop") (zw : Z ∉ wr) :
    ∀ (m j : Nat) (s : Shared) (b0 : Value) (c : Nat), n - (j + 1) = m → j + 1 ≤ n → St (j + 1) s.heap → P (argBest bt j) b0 → s.heap.get? Z = some { cls := .type "list", dict := none, data := .seq #[b0, b0] c, slots := #[] } →
      (∀ v g tk, P (argBest bt (n - 1)) v → (∀ b o, b ∉ wr → b ≠ Z → s.heap.get? b = some o → g.get? b = some o) → R (.ok (.ret v)) { s with heap := g, toks := tk }) → codeAny (model prog w) A (.builtin "max.loop" ⟨[.ref I, .none, .ref Z], kw⟩) R s := by
  intro m
  induction m with
  | zero =>
    intro j s b0 c hm hj st pb hZ hR
    have hin : j + 1 = n := by omega
    refine codeAny_builtin F.entry_max_loop ?_; rw [Around.under_plainId F.plain_max_loop _]
    show wpAny _ A.in1 (seqItems? (.ref Z) >>= _) _ _ s
    refine wpAny_bind (wpAny_seqItems hZ rfl ?_); show wpAny _ A.in1 (tryCatch (pyNext (.ref I)) _ >>= _) _ _ s
    refine wpAny_bind (wpAny_tryCatch (W.done s _ _ (hin ▸ st) fun g tk kp => ?_)); have hZ' := kp Z _ zw hZ
    show wpAny _ A.in1 (updateSeq Z (fun _ => #[]) >>= _) _ _ _
    refine wpAny_bind ?_; refine wpAny_updateSeq hZ' rfl (wpAny_bind (wpAny_letGo (wpAny_pure ?_)))
    exact hR b0 _ tk (by rw [← hin]; exact pb) fun b o bw bZ e => (Heap.get?_update_other _ _ (Ne.symm bZ)).trans (kp b o bw e)
  | succ m ih =>
    intro j s b0 c hm hj st pb hZ hR
    have lt : j + 1 < n := by omega
    refine codeAny_builtin F.entry_max_loop ?_; rw [Around.under_plainId F.plain_max_loop _]
    show wpAny _ A.in1 (seqItems? (.ref Z) >>= _) _ _ s
    refine wpAny_bind (wpAny_seqItems hZ rfl ?_); show wpAny _ A.in1 (tryCatch (pyNext (.ref I)) _ >>= _) _ _ s
    refine wpAny_bind (wpAny_tryCatch (W.item (j + 1) s _ _ lt st fun v g tk pv st' kp => ?_)); have hZ' := kp Z _ zw hZ
    show wpAny _ A.in1 (tryCatch (holding [v, v] (richCompare .Gt v b0 >>= _)) _ >>= _) _ _ _
    refine wpAny_bind (wpAny_tryCatch (wpAny_holding (wpAny_bind (cmp (j + 1) (argBest bt j) v b0 _ _ _ pv pb ?_))))
    refine wpAny_bind (wpAny_holding (wpAny_truthy_bool ?_)); refine wpAny_bind (wpAny_letGo (wpAny_pure ?_))
    cases hb : bt (j + 1) (argBest bt j) with
    | true =>
      simp only [if_true]; refine wpAny_bind ?_
      refine wpAny_updateSeq hZ' rfl (wpAny_bind (wpAny_letGo ?_)); rw [nm]
      refine wpAny_pure ⟨plainId_quiet F.plain_max_loop _, ih (j + 1) _ v _ (by omega) lt (W.frame _ _ _ st' fun b bf o e => ?_) (by simp only [argBest, hb, if_true]; exact pv) (Heap.get?_update_self _ hZ' rfl) fun v' g' tk' pv' kp' => ?_⟩
      · exact (Heap.get?_update_other _ _ (fun h : Z = b => zf (by rw [h]; exact bf))).trans e
      · exact hR v' g' tk' pv' fun b o bw bZ e => kp' b o bw bZ ((Heap.get?_update_other _ _ (Ne.symm bZ)).trans (kp b o bw e))
    | false =>
      simp only [Bool.false_eq_true, if_false]; refine wpAny_bind (wpAny_letGo ?_); rw [nm]
      refine wpAny_pure ⟨plainId_quiet F.plain_max_loop _, ih (j + 1) _ b0 c (by omega) lt st' (by simp only [argBest, hb, Bool.false_eq_true, if_false]; exact pb) hZ' fun v' g' tk' pv' kp' => ?_⟩
      exact hR v' g' tk' pv' fun b o bw bZ e => kp' b o bw bZ (kp b o bw e)
theorem kc_loop0 (W : Walks prog w A.in1 I fp wr n P St) (bt : Nat → Nat → Bool) (cmp : CmpOf prog w A.in1 .Gt P bt) (Z : Addr) (zf : Z ∉ fp) (hn : 0 < n) {s : Shared} {c : Nat} (st : St 0 s.heap)
    (hZ : s.heap.get? Z = some { cls := .type "list", dict := none, data := .seq #[] c, slots := #[] }) (hR : ∀ v g tk, P (argBest bt (n - 1)) v → (∀ b o, b ∉ wr → b ≠ Z → s.heap.get? b = some o → g.get? b = some o) → R (.ok (.ret v)) { s with heap := g, toks := tk }) :
    codeAny (model prog w) A (.builtin "max.loop" ⟨[.ref I, .none, .ref Z], kw⟩) R s := by
  have zw : Z ∉ wr := fun h => zf (W.sub _ h)
  have nm : (toString "max" ++ toString ".loop" : String) = "max.loop" := by decide
  refine codeAny_builtin F.entry_max_loop ?_; rw [Around.under_plainId F.plain_max_loop _]
  show wpAny _ A.in1 (seqItems? (.ref Z) >>= _) _ _ s
  refine wpAny_bind (wpAny_seqItems hZ rfl ?_); show wpAny _ A.in1 (tryCatch (pyNext (.ref I)) _ >>= _) _ _ s
  refine wpAny_bind (wpAny_tryCatch (W.item 0 s _ _ hn st fun v g tk pv st' kp => ?_)); have hZ' := kp Z _ zw hZ
  show wpAny _ A.in1 (updateSeq Z (fun _ => #[v, v]) >>= _) _ _ _
  refine wpAny_bind ?_; refine wpAny_updateSeq hZ' rfl ?_; rw [nm]
  refine wpAny_pure ⟨plainId_quiet F.plain_max_loop _, kc_loop W bt cmp Z zf nm zw _ 0 _ v _ rfl hn (W.frame _ _ _ st' fun b bf o e => ?_) pv (Heap.get?_update_self _ hZ' rfl) fun v' g' tk' pv' kp' => ?_⟩
  · exact (Heap.get?_update_other _ _ (fun h : Z = b => zf (by rw [h]; exact bf))).trans e
  · exact hR v' g' tk' pv' fun b o bw bZ e => kp' b o bw bZ ((Heap.get?_update_other _ _ (Ne.symm bZ)).trans (kp b o bw e))
/-- none is there -/
theorem kc_loopE (W : Walks prog w A.in1 I fp wr 0 P St) (Z : Addr) (zf : Z ∉ fp) {s : Shared} {c : Nat} {k : Str} {d : Value} (st : St 0 s.heap)
    (hZ : s.heap.get? Z = some { cls := .type "list", dict := none, data := .seq #[] c, slots := #[] }) (hR : ∀ g tk, (∀ b o, b ∉ wr → b ≠ Z → s.heap.get? b = some o → g.get? b = some o) → R (.ok (.ret d)) { s with heap := g, toks := tk }) :
    codeAny (model prog w) A (.builtin "max.loop" ⟨[.ref I, .none, .ref Z], [(k, d)]⟩) R s := by
  refine codeAny_builtin F.entry_max_loop ?_; rw [Around.under_plainId F.plain_max_loop _]
  show wpAny _ A.in1 (seqItems? (.ref Z) >>= _) _ _ s
  refine wpAny_bind (wpAny_seqItems hZ rfl ?_); show wpAny _ A.in1 (tryCatch (pyNext (.ref I)) _ >>= _) _ _ s
  refine wpAny_bind (wpAny_tryCatch (W.done s _ _ st fun g tk kp => ?_))
  refine wpAny_bind (wpAny_rule (wpAny_pure ?_))
  exact hR g tk fun b o bw _ e => kp b o bw e
end
section
variable {prog : Program} {w : World} {A : Around} {E : Value → Shared → Prop} {s : Shared} {l : Addr} {xs : Array (Int × Tok)}
theorem kc_args (a d : Value) : argsOk "max" ⟨[a], [(Str.ofString "default", d)]⟩ := by unfold argsOk; kernel_rfl
theorem kc_maxD {d : Value} {Q : Value → Shared → Prop} (hh : A.handled = none) (hl : s.heap.IsList l (intItems xs))
    (h : ∀ v g tk, (0 < xs.size → (intItems xs)[argBest (fun i j => decide (numAt xs i > numAt xs j)) (xs.size - 1)]? = some v) → (xs.size = 0 → v = d) → (∀ b o, s.heap.get? b = some o → g.get? b = some o) → Q v { s with heap := g, toks := tk }) :
    wpAny (model prog w) A (call (.builtin "max") [.ref l] [(Str.ofString "default", d)]) Q E s := by
  have nm : (toString "max" ++ toString ".loop" : String) = "max.loop" := by decide
  refine PyProof.Rows.kmb_tree PySem.F.kind_max PySem.F.plain_max PySem.F.entry_max (kc_args _ _) ?_; show wpAny _ A.in1 (Builtin.Builtins.bindParams "max" ["key", "default"] 0 ⟨[], [(Str.ofString "default", d)]⟩ >>= _) _ _ s
  refine wpAny_bind (wpAny_of_eq (show Builtin.Builtins.bindParams "max" ["key", "default"] 0 ⟨[], [(Str.ofString "default", d)]⟩ = pure [none, some d] from rfl) ?_)
  refine wpAny_bind (wpAny_pure ?_)
  refine wpAny_bind (iter_intList hl fun s2 e st fpl hlI => ?_)
  subst e
  have W := Walks.list (prog := prog) (w := w) (A := A.in1) hh s.heap.objs.size l hlI (intItems xs)
  refine wpAny_bind (wpAny_newObj_type ?_); rw [nm]
  have zf : ∀ x, x ∈ [s.heap.objs.size, l] → x ≠ (s.heap.push { cls := .type "list_iterator", data := .fields #[.ref l, .int 0 0] }).objs.size := fun x hx e => Nat.lt_irrefl _ (e ▸ fpl x hx)
  have zf' := fun hm => zf _ hm rfl
  have st' := W.frame 0 _ _ st fun b _ o e => Heap.get?_push_of_some { cls := .type "list", data := .seq #[] } e
  have up : ∀ {g : Heap}, (∀ b o, b ∉ [s.heap.objs.size] → b ≠ (s.heap.push { cls := .type "list_iterator", data := .fields #[.ref l, .int 0 0] }).objs.size → ((s.heap.push { cls := .type "list_iterator", data := .fields #[.ref l, .int 0 0] }).push { cls := .type "list", data := .seq #[] }).get? b = some o → g.get? b = some o) → ∀ b o, s.heap.get? b = some o → g.get? b = some o := fun {g} kp b o e => by
    have lt := Heap.lt_size e
    refine kp b o (fun hm => ?_) ?_ (Heap.get?_push_of_some _ (Heap.get?_push_of_some _ e))
    · rw [List.mem_singleton] at hm
      exact absurd (hm ▸ lt) (Nat.lt_irrefl _)
    · rw [Heap.size_push]
      exact Nat.ne_of_lt (Nat.lt_succ_of_lt lt)
  by_cases c : 0 < xs.size
  · refine wpAny_pure ⟨plainId_quiet PySem.F.plain_max_loop _, kc_loop0 (kw := [(Str.ofString "default", d)]) W _ (CmpOf.ints_gt (numAt xs) (fun _ _ => intItems_at)) _ zf' (by simpa [intItems] using c) st' (Heap.get?_push_size _ rfl) fun v g tk hP kp => ?_⟩
    exact h v g tk (fun _ => by simpa [intItems] using hP) (fun z => absurd c (by omega)) (up kp)
  · have z : xs.size = 0 := by omega
    have e0 : (intItems xs).size = 0 := by simpa [intItems] using z
    rw [e0] at W
    refine wpAny_pure ⟨plainId_quiet PySem.F.plain_max_loop _, kc_loopE W _ zf' st' (Heap.get?_push_size _ rfl) fun g tk kp => ?_⟩
    exact h d g tk (fun q => absurd q c) (fun _ => rfl) (up kp)
end
end PySem
namespace Kc
open PySem PySem.Spec PyProof.Rows L2
/-- what max(xs, default=d) asks: the greatest, or d of none -/
def rMaxD (K : PySem.W.Frag) : List V → List V → Hp → VK → Prop := fun vs zs H Q => ∃ (a : Addr) (ns : List Int) (d : Int), vs = [V.ref a] ∧ zs = [V.int d] ∧ SqL K H a (ns.map V.int) ∧
  ∀ m, (ns = [] → m = d) → (ns ≠ [] → m ∈ ns ∧ ∀ y ∈ ns, y ≤ m) → Q (.int m) H
theorem cr_maxD {X : Cx} (hc : X.calm = true) : CallRK X (.builtin "max") [Str.ofString "default"] (rMaxD X.K) := by
  intro pins s σ H vs zs us ws Q I r rz h
  obtain ⟨a, ns, d, rfl, rfl, hs, q⟩ := h
  obtain rfl := Vals.ref1 r
  obtain ⟨w1, rfl, t1, rfl⟩ := vals1 rz
  obtain ⟨its, rv, hl, _⟩ := I.list hs
  obtain ⟨xs, e⟩ := rv.ints.allInts.items
  have hn : numsOf (intItems xs).toList = ns := by rw [← e]; exact rv.ints.numsOf
  rw [nums_intItems] at hn
  have hl' := hl.isList
  rw [e] at hl'
  have len : ns.length = xs.size := by rw [← hn, List.length_map, Array.length_toList]
  refine PySem.kc_maxD (I.ok.hd hc) hl' fun v g tk h1 h2 kp => ?_
  by_cases c : 0 < xs.size
  · obtain ⟨t, rfl⟩ := intItems_at (h1 c)
    obtain ⟨_, b2⟩ := argBest_gt (numAt xs) (xs.size - 1)
    refine ⟨.int _, H, I.kept kp, ⟨_, rfl⟩, q _ (fun z => ?_) fun _ => ⟨?_, fun y hy => ?_⟩⟩
    · rw [z] at len
      exact absurd c (by rw [← len]; decide)
    · rw [← hn, numAt_eq]
      exact PySem.getD_mem (by rw [List.length_map, Array.length_toList]; have := (argBest_gt (numAt xs) (xs.size - 1)).1; omega)
    · rw [← hn] at hy
      obtain ⟨j, hj, rfl⟩ := mem_getD hy
      rw [List.length_map, Array.length_toList] at hj
      rw [← numAt_eq]
      exact b2 j (by omega)
  · have z : xs.size = 0 := by omega
    have ev := h2 z
    subst ev
    refine ⟨.int d, H, I.kept kp, ⟨_, rfl⟩, q _ (fun _ => rfl) fun ne => absurd (List.eq_nil_of_length_eq_zero (len.trans z)) ne⟩
end Kc
set_option Elab.async false
set_option maxRecDepth 100000
set_option maxHeartbeats 2000000
set_option linter.all false
namespace Kc
open PySem PySem.Spec PyProof.Rows L2
/-! ### sorted(e, key=abs) of whole numbers -/
def byAbs (ns : List Int) : List Int := ns.mergeSort fun a b => decide ((if a < 0 then -a else a) ≤ (if b < 0 then -b else b))
def tSortAbs (K : PySem.W.Frag) (t : TA) : TE := fun σ H Q => t σ H fun xs H1 => ∃ (a : Addr) (ns : List Int), xs = [V.ref a] ∧ SqL K H1 a (ns.map V.int) ∧ ∀ p, H1 p = none → Q (.ref p) (upd H1 p (.lst ((byAbs ns).map V.int)))
theorem each_ints : ∀ {us : List Value} {ns : List Int}, Vals (ns.map V.int) us → PySem.W.EachIs (fun (v : Value) (n : Int) => ∃ t, v = Value.int n t) us ns
  | [], [], _ => .nil
  | _ :: _, [], h => nomatch h
  | [], _ :: _, h => nomatch h
  | u :: us, n :: ns, h => by
    cases h with
    | cons a b => exact .cons a (each_ints b)
theorem ints_each : ∀ {us : List Value} {ns : List Int}, PySem.W.EachIs (fun (v : Value) (n : Int) => ∃ t, v = Value.int n t) us ns → Vals (ns.map V.int) us
  | [], [], _ => .nil
  | _ :: _, [], h => nomatch h
  | [], _ :: _, h => nomatch h
  | u :: us, n :: ns, h => by
    cases h with
    | cons a b => exact .cons a (ints_each b)
section
variable {X : Cx}
theorem run_sortAbs {pins : List (Addr × Obj)} {s : Shared} {σ : L2.St} {H : Hp} {a : Addr} {ns : List Int} {Q : VK} (hu : X.A.units + 64 < cLine) (I : Inv X pins σ H s) (hs : SqL X.K H a (ns.map V.int))
    (q : ∀ p, H p = none → Q (.ref p) (upd H p (.lst ((byAbs ns).map V.int)))) : wpAny (model X.prog X.w) X.A (call (.builtin "sorted") [.ref a] [(Str.ofString "key", .builtin "abs")]) (EP X pins σ Q) X.xe s := by
  obtain ⟨its, rv, hl, hz⟩ := I.list hs
  rw [List.length_map] at hz
  refine PySem.W.sorted_key_data (β := Int) (R := fun v n => ∃ t, v = Value.int n t) (vs := its) (bs := ns) (f := .builtin "abs") (b := false) (fun x => .int (if x < 0 then -x else x)) hl.isList (each_ints rv) ?_ ?_ hz ?_ (PyProof.Rows.ksk_s1 _ _) (fun _ => PyProof.Rows.ksk_l1 _ _) (fun _ => PyProof.Rows.ksk_t4 _ _) ?_ ?_
  · intro d hd d' hd'
    obtain ⟨x, _, rfl⟩ := List.mem_map.mp hd
    obtain ⟨y, _, rfl⟩ := List.mem_map.mp hd'
    rfl
  · refine Or.inr fun d hd => ?_
    obtain ⟨x, _, rfl⟩ := List.mem_map.mp hd
    exact ⟨(fun e => nomatch e), (fun _ e => nomatch e)⟩
  · intro x _
    show X.A.units + 2 + _ < _
    have : (PyData.int (if x < 0 then -x else x)).depth ≤ 1 := by
      unfold PyData.depth
      omega
    omega
  · rintro v x ⟨t, rfl⟩ _ h tk _
    refine call_abs_int fun u tk' => ?_
    exact ⟨h, tk', rfl, fun _ _ e => e, .int _ _⟩
  · intro out c h' tk kp fr ho len eo
    rw [PySem.W.dataLe_int] at eo
    refine ⟨.ref _, upd H (s.heap.objs.size + 1) (.lst ((byAbs ns).map V.int)), I.laid (t' := tk) kp (Nat.le_succ _) ⟨?_, out, c, ints_each eo, ho⟩, rfl, q _ (I.hok.fresh (Nat.le_succ _))⟩
    rw [List.length_map, byAbs, List.length_mergeSort]
    exact hz
theorem pe_sortAbs {e : Expr} {t : TA} {p p2 kpos pos : Pos} {k : Nat} (hr : Room k X.A) (hm : X.mg "sorted" = none) (hm2 : X.mg "abs" = none) (ha : PA X [e] t) (hg : Gl X "sorted" := by rfl) (hg2 : Gl X "abs" := by rfl)
    (he : backTo pos (starEach [e] X.env) = (false, eval e X.env) :: backTo pos (starEach [] X.env) := by rfl) (hpl : (backTo pos (starEach [e] X.env)).any (·.1) = false := by rfl)
    (hall : (backToKw pos (keywordEach [⟨some "key", .Name "abs" p2, kpos⟩] X.env)).all (·.1.isSome) = true := by rfl) (hnone : (backToKw pos (keywordEach [⟨some "key", .Name "abs" p2, kpos⟩] X.env)).any (·.1.isNone) = false := by rfl)
    (hks : (backToKw pos (keywordEach [⟨some "key", .Name "abs" p2, kpos⟩] X.env)).filterMap (·.1) = [Str.ofString "key"] := by rfl) :
    PE X (.Call (.Name "sorted" p) [e] [⟨some "key", .Name "abs" p2, kpos⟩] pos) (tSortAbs X.K t) := by
  refine ⟨fun pins s σ H Q I h => ?_⟩
  refine wpAny_Call_Name_kw (ld_blt I hg hm (show bootBuiltins "sorted" = some (.builtin "sorted") by decide +kernel) ?_ (by decide) (by decide))
  refine PyProof.Rows.callWith_kw (thn (ha.run pos pins s σ H _ I h) fun us s1 ⟨vs, H1, I1, r1, a, ns, ex, hs, q⟩ => ?_) he hpl hall hnone
  rw [hks]
  · subst ex
    obtain rfl := Vals.ref1 r1
    show wpAny _ _ (evalAll ((do let v ← eval (.Name "abs" p2) X.env; standAt pos; pure v) :: [])) _ _ s1
    refine wpAny_evalAll_cons (wpAny_bind (ld_blt I1 hg2 hm2 (show bootBuiltins "abs" = some (.builtin "abs") by decide +kernel) (wpAny_bind (wpAny_standAt (wpAny_pure ?_))) (by decide) (by decide)))
    refine wpAny_evalAll_nil ?_
    exact run_sortAbs hr.units I1 hs q
end
/-! ### a method of an own class -/
structure Mtd (P : Program) (w : World) (K : PySem.W.Frag) (mg : Str → Option Value) (base : Heap) (k : Nat) (C : Addr) (m : Str) (ps : List Str) (sp : Sp) : Prop where
  cls : Cls K C
  ex : ∃ f fd, Meth K C m f ∧ FnOk P w K mg base CX0 k f fd ps sp ∧ Binds K fd ps []
theorem pe_mtd {X : Cx} {k : Nat} {C : Addr} {m : Str} {ps : List Str} {sp : Sp} {o e : Expr} {es : List Expr} {ta : TE} {t : TA} {apos pos : Pos} {pl : Sem Bool} (M : Mtd X.prog X.w X.K X.mg X.base k C m ps sp) (hr : Room k X.A) (he : PE X o ta) (ha : PA X (e :: es) t)
    (hst : starEach (e :: es) X.env = (false, eval e X.env) :: starEach es X.env := by rfl) (hpl : (backTo pos (starEach es X.env)).any (·.1) = false := by rfl)
    (ht : eval (.Call (.Attribute o m apos) (e :: es) [] pos) X.env = (do let ov ← eval o X.env; standAt apos.atName; let (f, first) ← holding [ov] (getMethod ov m pl); callWith pos f first (backTo pos (starEach (e :: es) X.env)) (backToKw pos (keywordEach [] X.env))) := by rfl) :
    PE X (.Call (.Attribute o m apos) (e :: es) [] pos) (tMeth C m sp [] E0 ta t) := by
  obtain ⟨f, fd, hm, F, hb⟩ := M.ex
  exact pe_meth he M.cls hm F hr hb .nil pass0 ha hst hpl ht
theorem pe_mtd0 {X : Cx} {k : Nat} {C : Addr} {m : Str} {ps : List Str} {sp : Sp} {o : Expr} {ta : TE} {apos pos : Pos} {pl : Sem Bool} (M : Mtd X.prog X.w X.K X.mg X.base k C m ps sp) (hr : Room k X.A) (he : PE X o ta)
    (ht : eval (.Call (.Attribute o m apos) [] [] pos) X.env = (do let ov ← eval o X.env; standAt apos.atName; let (f, first) ← holding [ov] (getMethod ov m pl); callWith pos f first (backTo pos (starEach [] X.env)) (backToKw pos (keywordEach [] X.env))) := by rfl) :
    PE X (.Call (.Attribute o m apos) [] [] pos) (tMeth C m sp [] E0 ta tNil) := by
  obtain ⟨f, fd, hm, F, hb⟩ := M.ex
  exact pe_meth0 he M.cls hm F hr hb .nil pass0 ht
/-! ### within a comprehension: the written part named -/
theorem pe_fldK {X : Cx} (K : PySem.W.Frag) {e : Expr} {f : Str} {pos : Pos} {ta : TE} (he : PE X e ta) (hb : attributeBase e f X.env (eval e X.env) = eval e X.env) (hK : X.K = K := by rfl) : PE X (.Attribute e f pos) (tFld K ta f) := by
  subst hK
  exact pe_fld he hb
theorem ix_listK {X : Cx} (K : PySem.W.Frag) (hK : X.K = K := by rfl) : IxR X (rIxL K) := by
  subst hK
  exact ix_list
theorem op_in_seqK {X : Cx} (K : PySem.W.Frag) (hK : X.K = K := by rfl) : OpR X (compareOp .In) (rIn K false) := by
  subst hK
  exact op_in_seq
theorem call_len_seqK {X : Cx} (K : PySem.W.Frag) (hK : X.K = K := by rfl) : CallR X (.builtin "len") (fun xs H Q => ∃ p ys, xs = [V.ref p] ∧ (SqL K H p ys ∨ SqT K H p ys) ∧ Q (.int (ys.length : Nat)) H) := by
  subst hK
  exact call_len_seq
end Kc
set_option Elab.async false
set_option maxRecDepth 100000
set_option maxHeartbeats 2000000
set_option linter.all false
namespace Kc
open PySem PySem.Spec PyProof.Rows L2
open Sm06 (Clause Trail)
variable {P : Program} {w : World} {K : PySem.W.Frag} {mg : Str → Option Value} {base : Heap} {C : Cs}
abbrev st_value_of_literal : Stmt := top 2
abbrev N_value_of_literal : List Str := ["settings", "literal", "value"]
theorem sc_value_of_literal : FnScope N_value_of_literal ["settings", "literal"] (defScope st_value_of_literal) := ⟨rfl, rfl, rfl, by decide +kernel, rfl, by decide +kernel, by decide +kernel⟩
theorem ok_value_of_literal {f : Addr} {fd : FuncData} (F : Fun K "value_of_literal" "value_of_literal" st_value_of_literal f fd) (T : Txt K mg C) : FnOk P w K mg base CX0 1 f fd ["settings", "literal"] (spVal C) := by
  refine F.ok sc_value_of_literal (fun vs H Q E h => ?_) (fun cdv A outer s H vs Q E hr h => ⟨_, (pss_cons (ps_set (i := 2) sc_value_of_literal.nd rfl (Or.inl rfl) (pe_ix ix_list (pe_fld (pv 0) rfl) (pe_callB call_abs (by rfl) T.b_abs (by decide +kernel) (pa_cons (pv 1) pa_nil)) (fun _ _ => rfl)))
      (pss_one (ps_ret (pe_ifExp (pt_cmpR op_gt (pv 1) pe_int (nomark _)) (pv 2) (pe_un un_neg (pv 2)))))), ?_⟩)
  · obtain ⟨M, B, st, L, n, t, level, l, rfl, _⟩ := h
    rfl
  · obtain ⟨M, B, st, L, n, t, level, l, rfl, S, h1, h2, q⟩ := h
    obtain ⟨dx, ha⟩ := S.ob
    obtain ⟨ws, hv, _, hw⟩ := S.va
    refine ⟨_, rfl, B.a, C.se, dx, _, _, rfl, ha, T.seC, T.se_value_of, seF_value_of, _, rfl, _, rfl, ?_⟩
    refine ⟨B.va, _, _, _, rfl, rfl, SqL.of hv, at_abs (get_map (hw l h1 h2)), ?_⟩
    refine ⟨_, rfl, _, _, rfl, rfl, _, rfl, ?_⟩
    by_cases c : 0 < l
    · refine if_true_of (decide_eq_true c) ⟨_, rfl, ?_⟩
      rw [if_pos c]
      exact q
    · refine if_false_of (decide_eq_false c) ⟨_, rfl, _, rfl, ?_⟩
      rw [if_neg c]
      show Q (.int (- - litVal t l)) H
      rw [Int.neg_neg]
      exact q
abbrev st_must_be_looked_at : Stmt := top 7
abbrev N_must_be_looked_at : List Str := ["settings", "clause", "free", "literal", "value"]
theorem sc_must_be_looked_at : FnScope N_must_be_looked_at ["settings", "clause"] (defScope st_must_be_looked_at) := ⟨rfl, rfl, rfl, by decide +kernel, rfl, by decide +kernel, by decide +kernel⟩
theorem ok_must_be_looked_at {f : Addr} {fd : FuncData} (F : Fun K "must_be_looked_at" "must_be_looked_at" st_must_be_looked_at f fd) (T : Txt K mg C) (c_value_of_literal : Cal P w K mg base 1 "value_of_literal" ["settings", "literal"] (spVal C)) : FnOk P w K mg base CX0 2 f fd ["settings", "clause"] (spMust C) := by
  refine F.ok sc_must_be_looked_at (fun vs H Q E h => ?_) (fun cdv A outer s H vs Q E hr h => ⟨_, (pss_cons (ps_set (i := 2) sc_must_be_looked_at.nd rfl (Or.inl rfl) pe_int)
      (pss_cons (ps_for PassesOwn.never rfl (pi_list (pe_fld (pv 1) rfl)) (pg_name (i := 3) sc_must_be_looked_at.nd rfl (Or.inl rfl)) (pss_cons (ps_set (i := 4) sc_must_be_looked_at.nd rfl (Or.inl rfl) (pe_cal c_value_of_literal (hr.mono (by decide)) (by rfl) (pa_cons (pv 0) (pa_cons (pv 3) pa_nil))))
      (pss_cons (ps_if (pt_cmpR op_eq (pv 4) pe_int (nomark _)) (pss_one (ps_ret pe_bl)) pss_nil)
      (pss_one (ps_if (pt_cmpR op_eq (pv 4) pe_int (nomark _)) (pss_one (ps_aug (i := 2) sc_must_be_looked_at.nd rfl (Or.inl rfl) pe_int ip_add)) pss_nil)))))
      (pss_one (ps_ret (pe_cmpR op_le (pv 2) pe_int (nomark _)))))), ?_⟩)
  · obtain ⟨M, B, st, L, n, t, level, b, c, rfl, _⟩ := h
    rfl
  · obtain ⟨M, B, st, L, n, t, level, b, c, rfl, S, ⟨dx, li, co, h1, h2, _⟩, hl, q⟩ := h
    refine ⟨_, rfl, b, C.cl, dx, _, _, rfl, h1, T.clC, T.cl_literals, clF_literals, li, rfl, ⟨_, SqL.of h2⟩, for_list (K := K) (a := li) (xs := c.lits.map V.int) (fun i σ H' => ∃ v w : Option V, σ = [some (.ref B.a), some (.ref b), some (.int (((c.lits.take i).filter (Sm06.isOpen t)).length : Nat)), v, w] ∧ H' = H ∧ (c.lits.take i).any (Sm06.isSo t) = false) ⟨none, none, rfl, rfl, rfl⟩ (fun i σ H' _ ⟨_, _, _, e, _⟩ => e ▸ SqL.of h2) ?_ ?_⟩
    · rintro i y σ H' hi ⟨v, w, rfl, rfl, no⟩
      obtain ⟨l, hz, rfl⟩ := get_of_map hi
      have hm : l ∈ c.lits := List.mem_of_getElem? hz
      have tk : c.lits.take (i + 1) = c.lits.take i ++ [l] := by rw [List.take_add_one, hz]; rfl
      refine ⟨_, rfl, _, rfl, M, B, st, L, n, t, level, l, rfl, S, (hl.ok l hm).1, (hl.ok l hm).2, ?_⟩
      refine ⟨_, rfl, rfl, _, rfl, ?_⟩
      by_cases c1 : litVal t l = 1
      · refine if_true_of (decide_eq_true (by rw [c1])) ?_
        have : Sm06.presses t c = false := by
          unfold Sm06.presses
          rw [show c.lits.any (Sm06.isSo t) = true from List.any_eq_true.mpr ⟨l, hm, litVal_one.mp c1⟩]
          rfl
        rw [this] at q
        exact q
      · have so : Sm06.isSo t l = false := Bool.eq_false_iff.mpr fun z => c1 (litVal_one.mpr z)
        have any' : (c.lits.take (i + 1)).any (Sm06.isSo t) = false := by
          rw [tk, List.any_append, no, List.any_cons, so]
          rfl
        refine if_false_of (decide_eq_false (by intro z; exact c1 (V.int.inj z))) ⟨_, rfl, rfl, _, rfl, ?_⟩
        by_cases c0 : litVal t l = 0
        · refine if_true_of (decide_eq_true (by rw [c0])) ⟨_, rfl, _, _, rfl, rfl, some (.int l), some (.int (litVal t l)), ?_, rfl, any'⟩
          rw [tk, List.filter_append, List.filter_cons, if_pos (litVal_zero.mp c0), List.filter_nil, List.length_append]
          rfl
        · refine if_false_of (decide_eq_false (by intro z; exact c0 (V.int.inj z))) ⟨some (.int l), some (.int (litVal t l)), ?_, rfl, any'⟩
          rw [tk, List.filter_append, List.filter_cons, if_neg (fun z => c0 (litVal_zero.mpr z)), List.filter_nil, List.append_nil]
          rfl
    · rintro σ H' ⟨v, w, rfl, rfl, no⟩
      rw [List.length_map, List.take_length] at no ⊢
      refine ⟨_, rfl, _, _, rfl, rfl, ?_⟩
      have : Sm06.presses t c = decide ((((c.lits.filter (Sm06.isOpen t)).length : Nat) : Int) ≤ 1) := by
        unfold Sm06.presses
        rw [no, Bool.not_false, Bool.true_and]
        by_cases z : (c.lits.filter (Sm06.isOpen t)).length ≤ 1
        · rw [decide_eq_true z, decide_eq_true (by omega)]
        · rw [decide_eq_false z, decide_eq_false (by omega)]
      rw [this] at q
      exact q
abbrev st_free_literals : Stmt := top 6
abbrev N_free_literals : List Str := ["settings", "clause", "literal"]
theorem sc_free_literals : FnScope N_free_literals ["settings", "clause"] (defScope st_free_literals) := ⟨rfl, rfl, rfl, by decide +kernel, rfl, by decide +kernel, by decide +kernel⟩
theorem ok_free_literals {f : Addr} {fd : FuncData} (F : Fun K "free_literals" "free_literals" st_free_literals f fd) (T : Txt K mg C) (c_value_of_literal : Cal P w K mg base 1 "value_of_literal" ["settings", "literal"] (spVal C)) : FnOk P w K mg base CX0 2 f fd ["settings", "clause"] (spFree C) := by
  refine F.ok sc_free_literals (fun vs H Q E h => ?_) (fun cdv A outer s H vs Q E hr h => ⟨_, (pss_one (ps_ret (pe_lc (own := [("literal", 2)]) (g := gName 2) rfl sc_free_literals.nd (pi_list (pe_fld (pv 1) rfl)) (blkOk_by (own := [("literal", 2)]) (N := N_free_literals) (sc := defScope st_free_literals) (by decide +kernel)) (fun _ _ _ _ _ => pg_name (i := 2) sc_free_literals.nd rfl (Or.inl rfl)) (fun _ _ _ _ _ => by exact (pts_one (pt_cmpR op_eq (pe_cal c_value_of_literal (hr.mono (by decide)) (by rfl) (pa_cons (pv 0) (pa_cons (pv 2) pa_nil))) pe_int (nomark _)))) (fun _ _ _ _ _ => by exact (pv 2))))), ?_⟩)
  · obtain ⟨M, B, st, L, n, t, level, b, c, rfl, _⟩ := h
    rfl
  · obtain ⟨M, B, st, L, n, t, level, b, c, rfl, S, ⟨dx, li, co, h1, h2, _⟩, hl, n12, q⟩ := h
    have l12 : c.lits.length ≤ 12 := Nat.le_trans hl.len n12
    refine ⟨_, rfl, b, C.cl, dx, _, _, rfl, h1, T.clC, T.cl_literals, clF_literals, li, rfl, ⟨_, SqL.of h2⟩, fun D hD => lc_list (K := K) (a := li) (xs := c.lits.map V.int) (fun i H' => H' = upd H D (.lst (((c.lits.take i).filter (Sm06.isOpen t)).map V.int))) rfl (fun i H' _ e => ?_) ?_ ?_⟩
    · rw [e]
      exact SqL.of (by rw [upd_ne (ne_of_none h2 hD)]; exact h2)
    · rintro i y H' hi rfl
      obtain ⟨l, hz, rfl⟩ := get_of_map hi
      have hm : l ∈ c.lits := List.mem_of_getElem? hz
      have tk : c.lits.take (i + 1) = c.lits.take i ++ [l] := by rw [List.take_add_one, hz]; rfl
      refine ⟨rfl, _, rfl, _, rfl, M, B, st, L, n, t, level, l, rfl, S.same (Same.new hD), (hl.ok l hm).1, (hl.ok l hm).2, ?_⟩
      refine ⟨rfl, _, rfl, ?_⟩
      by_cases c0 : litVal t l = 0
      · refine if_true_of (decide_eq_true (by rw [c0])) ⟨_, rfl, _, upd_same, ?_, ?_⟩
        · rw [List.length_map]
          exact small1000 (Nat.le_trans (List.length_filter_le _ _) (by rw [List.length_take]; omega))
        · rw [upd_upd, tk, List.filter_append, List.filter_cons, if_pos (litVal_zero.mp c0), List.filter_nil, List.map_append]
          rfl
      · refine if_false_of (decide_eq_false (by intro z; exact c0 (V.int.inj z))) ?_
        rw [tk, List.filter_append, List.filter_cons, if_neg (fun z => c0 (litVal_zero.mpr z)), List.filter_nil, List.append_nil]
    · rintro H' rfl
      rw [List.length_map, List.take_length]
      exact q _ D (Same.new hD) hD upd_same
theorem find_take {p : Addr × Clause → Bool} {L : List (Addr × Clause)} {i : Nat} {x : Addr × Clause} (h : L[i]? = some x) (no : (L.take i).find? p = none) (c : p x = true) : L.find? p = some x := by
  have e : L = L.take i ++ x :: L.drop (i + 1) := by
    have := List.take_append_drop i L
    rw [List.drop_eq_getElem_cons (List.getElem?_eq_some_iff.mp h).1] at this
    rw [(List.getElem?_eq_some_iff.mp h).2] at this
    exact this.symm
  rw [e, List.find?_append, no, List.find?_cons, c]
  rfl
abbrev st_first_to_look_at : Stmt := top 8
abbrev N_first_to_look_at : List Str := ["settings", "clause"]
theorem sc_first_to_look_at : FnScope N_first_to_look_at ["settings"] (defScope st_first_to_look_at) := ⟨rfl, rfl, rfl, by decide +kernel, rfl, by decide +kernel, by decide +kernel⟩
theorem ok_first_to_look_at {f : Addr} {fd : FuncData} (F : Fun K "first_to_look_at" "first_to_look_at" st_first_to_look_at f fd) (T : Txt K mg C) (c_must_be_looked_at : Cal P w K mg base 2 "must_be_looked_at" ["settings", "clause"] (spMust C)) : FnOk P w K mg base CX0 3 f fd ["settings"] (spFirst C) := by
  refine F.ok sc_first_to_look_at (fun vs H Q E h => ?_) (fun cdv A outer s H vs Q E hr h => ⟨_, (pss_cons (ps_for PassesOwn.never rfl (pi_list (pe_fld (pe_fld (pv 0) rfl) rfl)) (pg_name (i := 1) sc_first_to_look_at.nd rfl (Or.inl rfl)) (pss_one (ps_if (pt_val (pe_cal c_must_be_looked_at (hr.mono (by decide)) (by rfl) (pa_cons (pv 0) (pa_cons (pv 1) pa_nil)))) (pss_one (ps_ret (pv 1))) pss_nil)))
      (pss_one (ps_ret pe_non))), ?_⟩)
  · obtain ⟨M, B, A, L, s, n, t, level, rfl, _⟩ := h
    rfl
  · obtain ⟨M, B, A, L, s, n, t, level, rfl, S, R, hl, q⟩ := h
    obtain ⟨dx, ha⟩ := S.ob
    obtain ⟨dy, hb⟩ := R.ob
    refine ⟨_, rfl, B.a, C.se, dx, _, _, rfl, ha, T.seC, T.se_store, seF_store, A.a, C.st, dy, _, _, rfl, hb, T.stC, T.st_clauses, stF_clauses, A.cl, rfl, ⟨_, SqL.of R.cl⟩, for_list (K := K) (a := A.cl) (xs := L.map fun p => V.ref p.1) (fun i σ H' => ∃ v : Option V, σ = [some (.ref B.a), v] ∧ H' = H ∧ (L.take i).find? (fun p => Sm06.presses t p.2) = none) ⟨none, rfl, rfl, rfl⟩ (fun i σ H' _ ⟨_, _, e, _⟩ => e ▸ SqL.of R.cl) ?_ ?_⟩
    · rintro i y σ H' hi ⟨v, rfl, rfl, no⟩
      obtain ⟨p, hz, rfl⟩ := get_of_map hi
      have hm : p ∈ L := List.mem_of_getElem? hz
      have tk : L.take (i + 1) = L.take i ++ [p] := by rw [List.take_add_one, hz]; rfl
      refine ⟨_, rfl, _, rfl, M, B, A.a, L, n, t, level, p.1, p.2, rfl, S, R.each p hm, hl p hm, _, rfl, ?_⟩
      by_cases c : Sm06.presses t p.2 = true
      · refine if_true_of c ⟨_, rfl, ?_⟩
        unfold firstV at q
        rw [find_take hz no c] at q
        exact q
      · refine if_false_of (Bool.eq_false_iff.mpr c) ⟨some (.ref p.1), rfl, rfl, ?_⟩
        rw [tk, List.find?_append, no, List.find?_cons, Bool.eq_false_iff.mpr c]
        rfl
    · rintro σ H' ⟨v, rfl, rfl, no⟩
      rw [List.length_map, List.take_length] at no
      unfold firstV at q
      rw [no] at q
      exact q
end Kc
set_option Elab.async false
set_option maxRecDepth 100000
set_option maxHeartbeats 2000000
set_option linter.all false
namespace Kc
open PySem PySem.Spec PyProof.Rows L2
open Sm06 (Clause Trail)
variable {P : Program} {w : World} {K : PySem.W.Frag} {mg : Str → Option Value} {base : Heap} {C : Cs}
theorem ite_z {c : Prop} [Decidable c] {A B : Prop} (h1 : c → A) (h2 : ¬ c → B) : if decide c = true then A else B := by
  by_cases h : c
  · exact if_true_of (decide_eq_true h) (h1 h)
  · exact if_false_of (decide_eq_false h) (h2 h)
theorem ndne {M : List Addr} (nd : M.Nodup) (i j : Nat) {a b : Addr} (hi : M[i]? = some a := by rfl) (hj : M[j]? = some b := by rfl) (h : i ≠ j := by decide) : a ≠ b := fun e => h (nd_ix nd hi (e ▸ hj))
theorem get_set {α : Type} {xs : List α} {i j : Nat} {y : α} (h : i < xs.length) : (xs.set i y)[j]? = if j = i then some y else xs[j]? := by
  rw [List.getElem?_set]
  by_cases e : i = j
  · subst e
    rw [if_pos rfl, if_pos rfl, if_pos h]
  · rw [if_neg e, if_neg fun z => e z.symm]
theorem map_set {α β : Type} {f : α → β} : ∀ {xs : List α} {i : Nat} {y : α}, (xs.map f).set i (f y) = (xs.set i y).map f
  | [], _, _ => rfl
  | _ :: _, 0, _ => rfl
  | x :: xs, i + 1, y => congrArg _ (map_set (xs := xs) (i := i) (y := y))
theorem whyV_mono {L L' : List (Addr × Clause)} (h : ∀ p ∈ L, p ∈ L') {y : Option Clause} {v : V} (q : whyV L y v) : whyV L' y v := by
  cases y with
  | none => exact q
  | some c =>
    obtain ⟨b, e, m⟩ := q
    exact ⟨b, e, h _ m⟩
/-- value_of behind a setting -/
theorem va_set {z0 : Bool} {n : Nat} {cs : List Clause} {t : Trail} {x : Sm06.Setting} {ws : List Int} (g : Good z0 n cs (x :: t)) (len : ws.length = n + 1) (h : ∀ l : Int, 1 ≤ l.natAbs → l.natAbs ≤ n → ws[l.natAbs]? = some (if 0 < l then litVal t l else - litVal t l)) (z : Int) (hz : z = if 0 < x.lit then 1 else -1) :
    ∀ l : Int, 1 ≤ l.natAbs → l.natAbs ≤ n → (ws.set x.lit.natAbs z)[l.natAbs]? = some (if 0 < l then litVal (x :: t) l else - litVal (x :: t) l) := by
  intro l h1 h2
  have hx := g.1
  have key : (if 0 < l then litVal (x :: t) l else - litVal (x :: t) l) = litVal (x :: t) (l.natAbs : Nat) := by
    split
    · rw [show ((l.natAbs : Nat) : Int) = l by omega]
    · rw [show ((l.natAbs : Nat) : Int) = -l by omega, litVal_neg g]
  have key2 : (if 0 < l then litVal t l else - litVal t l) = litVal t (l.natAbs : Nat) := by
    split
    · rw [show ((l.natAbs : Nat) : Int) = l by omega]
    · rw [show ((l.natAbs : Nat) : Int) = -l by omega, litVal_neg g.tail]
  rw [get_set (by omega), key, litVal_cons g h1]
  split
  · rw [hz]
  · rw [h l h1 h2, key2]
/-- a store stays where the settings alone are changed -/
theorem StoreAt.keepB {H H' : Hp} {N : List Addr} {A : StoA} {L : List (Addr × Clause)} {s : Sm06.St} (h : StoreAt C H ((N ++ A.M) ++ A.X) A L s) (k : Keep N N H H') (nd : (N ++ A.M).Nodup) : StoreAt C H' ((N ++ A.M) ++ A.X) A L s := by
  have out : ∀ y ∈ A.M, y ∉ N := fun y hy z => (List.nodup_append.mp nd).2.2 y z y hy rfl
  obtain ⟨dx, h1⟩ := h.ob
  refine ⟨⟨dx, (k.1 _ _ h1 (out _ (by simp))).1⟩, (k.1 _ _ h.cl (out _ (by simp))).1, h.cs, (k.1 _ _ h.od (out _ (by simp))).1, h.la.keep k (out _ (by simp)), fun p hp => ?_, h.nd, h.sub, fun x hx z => h.al x hx (k.2 x z)⟩
  have := h.each p hp
  rw [List.append_assoc] at this ⊢
  exact this.keepX k
theorem Keep.appL {M N : List Addr} {H H' : Hp} (k : Keep N N H H') : Keep (N ++ M) (N ++ M) H H' := ⟨fun b o e n => by
  rw [List.mem_append, not_or] at n ⊢
  obtain ⟨h1, h2⟩ := k.1 b o e n.1
  exact ⟨h1, h2, n.2⟩, k.2⟩
abbrev st_set_literal : Stmt := top 3
abbrev N_set_literal : List Str := ["settings", "literal", "clause", "variable"]
theorem sc_set_literal : FnScope N_set_literal ["settings", "literal", "clause"] (defScope st_set_literal) := ⟨rfl, rfl, rfl, by decide +kernel, rfl, by decide +kernel, by decide +kernel⟩
theorem ok_set_literal {f : Addr} {fd : FuncData} (F : Fun K "set_literal" "set_literal" st_set_literal f fd) (T : Txt K mg C) : FnOk P w K mg base CX0 1 f fd ["settings", "literal", "clause"] (spSet C) := by
  refine F.ok sc_set_literal (fun vs H Q E h => ?_) (fun cdv A outer s H vs Q E hr h => ⟨_, (pss_cons (ps_set (i := 3) sc_set_literal.nd rfl (Or.inl rfl) (pe_callB call_abs (by rfl) T.b_abs (by decide +kernel) (pa_cons (pv 1) pa_nil)))
      (pss_cons (ps_asg (pe_ifExp (pt_cmpR op_gt (pv 1) pe_int (nomark _)) pe_int (pe_un un_neg pe_int)) (pg_sub (pe_fld (pv 0) rfl) (pv 3) set_list))
      (pss_cons (ps_asg (pe_fld (pv 0) rfl) (pg_sub (pe_fld (pv 0) rfl) (pv 3) set_list))
      (pss_cons (ps_asg (pv 2) (pg_sub (pe_fld (pv 0) rfl) (pv 3) set_list))
      (pss_cons (ps_expr (pe_bm PySem.F.plainAttrs_list PySem.F.slot_list_append PySem.F.type_list_append mt_append (pe_fld (pv 0) rfl) (pa_cons (pv 1) pa_nil)))
      (pss_one (ps_asg (pe_cmpR op_gt (pv 1) pe_int (nomark _)) (pg_sub (pe_fld (pv 0) rfl) (pv 3) set_list)))))))), ?_⟩)
  · obtain ⟨B, A, L, s, t, level, l, y, v, rfl, _⟩ := h
    rfl
  · obtain ⟨B, A, L, s, t, level, l, y, v, rfl, W, hy, g, q⟩ := h
    obtain ⟨dx, ha⟩ := W.set.ob
    obtain ⟨ws, hws, lws, fws⟩ := W.set.va
    obtain ⟨ls, hls, lls, fls⟩ := W.set.le
    obtain ⟨us, hus, lus, fus⟩ := W.set.wh
    obtain ⟨bs, hbs, lbs, fbs⟩ := W.la
    have hl : 1 ≤ l.natAbs ∧ l.natAbs ≤ s.n := g.1
    have tl : (t.reverse.map fun x => V.int x.lit).length < sizeLine := by
      rw [List.length_map, List.length_reverse]
      exact small1000 (by have := W.good.len; have := W.ok.n12; omega)
    have fin : ∀ z : Int, z = (if 0 < l then 1 else -1) → Q .non (upd (upd (upd (upd (upd H B.va (.lst ((ws.map V.int).set l.natAbs (.int z)))) B.le (.lst ((ls.map V.int).set l.natAbs (.int level)))) B.wh (.lst (us.set l.natAbs v))) B.tr (.lst ((t.reverse.map fun x => V.int x.lit) ++ [.int l]))) B.la (.lst ((bs.map V.bl).set l.natAbs (.bl (decide (0 < l)))))) := by
      intro z hz
      have k : Keep B.M B.M H (upd (upd (upd (upd (upd H B.va (.lst ((ws.map V.int).set l.natAbs (.int z)))) B.le (.lst ((ls.map V.int).set l.natAbs (.int level)))) B.wh (.lst (us.set l.natAbs v))) B.tr (.lst ((t.reverse.map fun x => V.int x.lit) ++ [.int l]))) B.la (.lst ((bs.map V.bl).set l.natAbs (.bl (decide (0 < l)))))) :=
        ((((Keep.put (by simp)).trans (Keep.put (by simp))).trans (Keep.put (by simp))).trans (Keep.put (by simp))).trans (Keep.put (by simp))
      refine q _ ⟨W.sto.keepB k W.nd, ⟨⟨dx, ?_⟩, ?_, ⟨ws.set l.natAbs z, ?_, ?_, va_set g lws fws z hz⟩, ⟨ls.set l.natAbs (level : Int), ?_, ?_, ?_⟩, ⟨us.set l.natAbs v, ?_, ?_, ?_⟩, W.set.nd, W.set.sub⟩, W.nd, g, ?_, W.ok, ⟨bs.set l.natAbs (decide (0 < l)), ?_, ?_, ?_⟩⟩ k.appL
      · rw [upd_ne (ndne W.nd 0 5), upd_ne (ndne W.nd 0 1), upd_ne (ndne W.nd 0 4), upd_ne (ndne W.nd 0 3), upd_ne (ndne W.nd 0 2)]
        exact ha
      · rw [upd_ne (ndne W.nd 1 5), upd_same, List.reverse_cons, List.map_append]
        rfl
      · rw [upd_ne (ndne W.nd 2 5), upd_ne (ndne W.nd 2 1), upd_ne (ndne W.nd 2 4), upd_ne (ndne W.nd 2 3), upd_same, map_set]
      · rw [List.length_set]
        exact lws
      · rw [upd_ne (ndne W.nd 3 5), upd_ne (ndne W.nd 3 1), upd_ne (ndne W.nd 3 4), upd_same, map_set]
      · rw [List.length_set]
        exact lls
      · intro x hx
        rw [get_set (by rw [lls]; omega)]
        rcases List.mem_cons.mp hx with e | hx
        · subst e
          rw [if_pos rfl]
        · rw [if_neg (g.2.1 x hx)]
          exact fls x hx
      · rw [upd_ne (ndne W.nd 4 5), upd_ne (ndne W.nd 4 1), upd_same]
      · rw [List.length_set]
        exact lus
      · intro x hx
        rw [get_set (by rw [lus]; omega)]
        rcases List.mem_cons.mp hx with e | hx
        · subst e
          exact ⟨v, if_pos rfl, hy⟩
        · obtain ⟨u, e1, e2⟩ := fus x hx
          exact ⟨u, by rw [if_neg (g.2.1 x hx)]; exact e1, e2⟩
      · intro x hx
        rcases List.mem_cons.mp hx with e | hx
        · subst e
          exact Nat.le_refl _
        · exact W.lev x hx
      · rw [upd_same, map_set]
      · rw [List.length_set]
        exact lbs
      · intro u h1 h2
        rw [get_set (by rw [lbs]; show l.natAbs < s.n + 1; omega)]
        have e := kept_has (s := ⟨l, level, y⟩) (t := t) (p := s.phase) (v := u)
        by_cases c : u = l.natAbs
        · rw [if_pos c]
          rw [if_pos (show u = (Sm06.Setting.mk l level y).lit.natAbs from c)] at e
          exact congrArg some (decide_eq_decide.mpr e.symm)
        · rw [if_neg c, fbs u h1 h2]
          rw [if_neg (show ¬ u = (Sm06.Setting.mk l level y).lit.natAbs from c)] at e
          exact congrArg some (decide_eq_decide.mpr e.symm)
    have i1 : ixN (ws.map V.int).length (if l < 0 then -l else l) = some l.natAbs := ix_abs (by rw [List.length_map, lws]; omega)
    have i2 : ixN (ls.map V.int).length (if l < 0 then -l else l) = some l.natAbs := ix_abs (by rw [List.length_map, lls]; omega)
    have i3 : ixN us.length (if l < 0 then -l else l) = some l.natAbs := ix_abs (by rw [lus]; omega)
    have i4 : ixN (bs.map V.bl).length (if l < 0 then -l else l) = some l.natAbs := ix_abs (by rw [List.length_map, lbs]; show l.natAbs < s.n + 1; omega)
    refine ⟨_, rfl, _, rfl, _, rfl, _, _, rfl, rfl, _, rfl, ?_⟩
    refine ite_z (fun c => ⟨_, rfl, B.a, C.se, dx, _, _, rfl, ha, T.seC, T.se_value_of, seF_value_of, _, rfl, B.va, ws.map V.int, _, l.natAbs, rfl, rfl, hws, i1, ?_⟩) (fun c => ⟨_, rfl, _, rfl, B.a, C.se, dx, _, _, rfl, ha, T.seC, T.se_value_of, seF_value_of, _, rfl, B.va, ws.map V.int, _, l.natAbs, rfl, rfl, hws, i1, ?_⟩)
    all_goals
      refine ⟨_, rfl, B.a, C.se, dx, _, _, rfl, ((upd_ne (ndne W.nd 0 2)).trans ha), T.seC, T.se_level, seF_level, _, rfl, B.a, C.se, dx, _, _, rfl, ((upd_ne (ndne W.nd 0 2)).trans ha), T.seC, T.se_level_of, seF_level_of, _, rfl, B.le, ls.map V.int, _, l.natAbs, rfl, rfl, ((upd_ne (ndne W.nd 3 2)).trans hls), i2, ?_⟩
      refine ⟨_, rfl, _, rfl, B.a, C.se, dx, _, _, rfl, ((upd_ne (ndne W.nd 0 3)).trans ((upd_ne (ndne W.nd 0 2)).trans ha)), T.seC, T.se_clause_of, seF_clause_of, _, rfl, B.wh, us, _, l.natAbs, rfl, rfl, ((upd_ne (ndne W.nd 4 3)).trans ((upd_ne (ndne W.nd 4 2)).trans hus)), i3, ?_⟩
      refine ⟨_, rfl, B.a, C.se, dx, _, _, rfl, ((upd_ne (ndne W.nd 0 4)).trans ((upd_ne (ndne W.nd 0 3)).trans ((upd_ne (ndne W.nd 0 2)).trans ha))), T.seC, T.se_trail, seF_trail, Or.inl ⟨rfl, t.reverse.map fun x => V.int x.lit, SqL.of ((upd_ne (ndne W.nd 1 4)).trans ((upd_ne (ndne W.nd 1 3)).trans ((upd_ne (ndne W.nd 1 2)).trans W.set.tr)))⟩, _, rfl, B.tr, t.reverse.map fun x => V.int x.lit, _, rfl, rfl, ((upd_ne (ndne W.nd 1 4)).trans ((upd_ne (ndne W.nd 1 3)).trans ((upd_ne (ndne W.nd 1 2)).trans W.set.tr))), tl, ?_⟩
      refine ⟨_, rfl, _, _, rfl, rfl, _, rfl, B.a, C.se, dx, _, _, rfl, ((upd_ne (ndne W.nd 0 1)).trans ((upd_ne (ndne W.nd 0 4)).trans ((upd_ne (ndne W.nd 0 3)).trans ((upd_ne (ndne W.nd 0 2)).trans ha)))), T.seC, T.se_last_so, seF_last_so, _, rfl, B.la, bs.map V.bl, _, l.natAbs, rfl, rfl, ((upd_ne (ndne W.nd 5 1)).trans ((upd_ne (ndne W.nd 5 4)).trans ((upd_ne (ndne W.nd 5 3)).trans ((upd_ne (ndne W.nd 5 2)).trans hbs)))), i4, ?_⟩
      first
        | exact fin 1 (by rw [if_pos c])
        | exact fin (-1) (by rw [if_neg c])
end Kc
set_option Elab.async false
set_option maxRecDepth 100000
set_option maxHeartbeats 2000000
set_option linter.all false
namespace Kc
open PySem PySem.Spec PyProof.Rows L2
open Sm06 (Clause Trail)
variable {P : Program} {w : World} {K : PySem.W.Frag} {mg : Str → Option Value} {base : Heap} {C : Cs}
/-- the store stays the same state as long as the phases do -/
theorem StoreAt.phase {H : Hp} {M : List Addr} {A : StoA} {L : List (Addr × Clause)} {s s' : Sm06.St} (h : StoreAt C H M A L s) (e1 : s'.n = s.n) (e2 : s'.clauses = s.clauses) (e3 : s'.next = s.next) (e4 : s'.marks = s.marks) (e5 : s'.order = s.order) (e6 : ∀ v, v ∈ s'.phase ↔ v ∈ s.phase) : StoreAt C H M A L s' where
  ob := by rw [e1, e3, e4]; exact h.ob
  cl := h.cl
  cs := e2.trans h.cs
  od := by rw [e5]; exact h.od
  la := by
    rw [e1]
    exact h.la.iff e6
  each := h.each
  nd := h.nd
  sub := h.sub
  al := h.al
theorem Wd.again {H : Hp} {B : SetA} {A : StoA} {L : List (Addr × Clause)} {s : Sm06.St} {t : Trail} {level : Nat} (h : Wd C H B A L s t level) : Wd C H B A L (now s t) t level :=
  ⟨h.sto, h.set, h.nd, h.good, h.lev, ⟨h.ok.n1, h.ok.n12, h.ok.lits, h.ok.ord, h.ok.ol, kept_pos h.good h.ok.ph⟩, h.la.iff fun v => kept_back h.good h.good fun _ q => q⟩
/-- another level -/
theorem Wd.level {H : Hp} {B : SetA} {A : StoA} {L : List (Addr × Clause)} {s : Sm06.St} {t : Trail} {level b : Nat} {dx : Addr} (W : Wd C H B A L s t level) (hb : ∀ x ∈ t, x.level ≤ b) :
    Wd C (upd H B.a (.ins C.se dx (seF A.a b B.tr B.va B.le B.wh B.la))) B A L s t b ∧ Keep (MM B A) (MM B A) H (upd H B.a (.ins C.se dx (seF A.a b B.tr B.va B.le B.wh B.la))) := by
  have k : Keep B.M B.M H (upd H B.a (.ins C.se dx (seF A.a b B.tr B.va B.le B.wh B.la))) := Keep.put (by simp)
  obtain ⟨ws, hws, fws⟩ := W.set.va
  obtain ⟨ls, hls, fls⟩ := W.set.le
  obtain ⟨us, hus, fus⟩ := W.set.wh
  refine ⟨⟨W.sto.keepB k W.nd, ⟨⟨dx, upd_same⟩, ?_, ⟨ws, ?_, fws⟩, ⟨ls, ?_, fls⟩, ⟨us, ?_, fus⟩, W.set.nd, W.set.sub⟩, W.nd, W.good, hb, W.ok, W.la.put (ndne W.nd 5 0)⟩, k.appL⟩
  · rw [upd_ne (ndne W.nd 1 0)]
    exact W.set.tr
  · rw [upd_ne (ndne W.nd 2 0)]
    exact hws
  · rw [upd_ne (ndne W.nd 3 0)]
    exact hls
  · rw [upd_ne (ndne W.nd 4 0)]
    exact hus
abbrev st_begin_level : Stmt := top 4
abbrev N_begin_level : List Str := ["settings", "literal"]
theorem sc_begin_level : FnScope N_begin_level ["settings", "literal"] (defScope st_begin_level) := ⟨rfl, rfl, rfl, by decide +kernel, rfl, by decide +kernel, by decide +kernel⟩
theorem ok_begin_level {f : Addr} {fd : FuncData} (F : Fun K "begin_level" "begin_level" st_begin_level f fd) (T : Txt K mg C) (c_set_literal : Cal P w K mg base 1 "set_literal" ["settings", "literal", "clause"] (spSet C)) : FnOk P w K mg base CX0 2 f fd ["settings", "literal"] (spLevel C) := by
  refine F.ok sc_begin_level (fun vs H Q E h => ?_) (fun cdv A outer s H vs Q E hr h => ⟨_, (pss_cons (ps_fldaug (pv 0) pe_int in_add)
      (pss_one (ps_expr (pe_cal c_set_literal (hr.mono (by decide)) (by rfl) (pa_cons (pv 0) (pa_cons (pv 1) (pa_cons pe_non pa_nil))))))), ?_⟩)
  · obtain ⟨B, A, L, s, t, level, l, rfl, _⟩ := h
    rfl
  · obtain ⟨B, A, L, s, t, level, l, rfl, W, g, q⟩ := h
    obtain ⟨dx, ha⟩ := W.set.ob
    obtain ⟨W1, k1⟩ := W.level (b := level + 1) (dx := dx) fun x hx => Nat.le_succ_of_le (W.lev x hx)
    have e : putF "level" (.int ((level : Int) + 1)) (seF A.a level B.tr B.va B.le B.wh B.la) = seF A.a ((level + 1 : Nat) : Int) B.tr B.va B.le B.wh B.la := by
      rw [seF_put_level]
      rfl
    refine ⟨_, rfl, B.a, C.se, dx, _, _, rfl, ha, T.seC, T.se_level, seF_level, _, _, rfl, rfl, dx, _, ha, (by show 7 < 1000; decide), ?_⟩
    rw [← e] at W1 k1
    exact ⟨_, rfl, _, rfl, B, A, L, s, t, level + 1, l, none, .non, rfl, W1, rfl, g, fun H' W2 k2 => q H' W2 (k1.trans k2)⟩
theorem last_rev {α β : Type} {f : α → β} {x : α} {t : List α} : ((x :: t).reverse.map f)[((x :: t).reverse.map f).length - 1]? = some (f x) := by
  simp
theorem drop_rev {α β : Type} {f : α → β} {x : α} {t : List α} : ((x :: t).reverse.map f).dropLast = t.reverse.map f := by
  simp
theorem at_last {α : Type} {xs : List α} {v : α} (h : xs[xs.length - 1]? = some v) : atI xs (-1) = some v := by
  have : xs.length - 1 < xs.length := (List.getElem?_eq_some_iff.mp h).1
  unfold atI ixN
  rw [if_neg (by omega), if_pos (by omega)]
  show xs[(-1 + (xs.length : Int)).toNat]? = some v
  rw [show (-1 + (xs.length : Int)).toNat = xs.length - 1 by omega]
  exact h
/-- value_of behind a setting that is undone -/
theorem va_undo {z0 : Bool} {n : Nat} {cs : List Clause} {t : Trail} {x : Sm06.Setting} {ws : List Int} (g : Good z0 n cs (x :: t)) (len : ws.length = n + 1) (h : ∀ l : Int, 1 ≤ l.natAbs → l.natAbs ≤ n → ws[l.natAbs]? = some (if 0 < l then litVal (x :: t) l else - litVal (x :: t) l)) :
    ∀ l : Int, 1 ≤ l.natAbs → l.natAbs ≤ n → (ws.set x.lit.natAbs 0)[l.natAbs]? = some (if 0 < l then litVal t l else - litVal t l) := by
  intro l h1 h2
  have hx := g.1
  have key : (if 0 < l then litVal (x :: t) l else - litVal (x :: t) l) = litVal (x :: t) (l.natAbs : Nat) := by
    split
    · rw [show ((l.natAbs : Nat) : Int) = l by omega]
    · rw [show ((l.natAbs : Nat) : Int) = -l by omega, litVal_neg g]
  have key2 : (if 0 < l then litVal t l else - litVal t l) = litVal t (l.natAbs : Nat) := by
    split
    · rw [show ((l.natAbs : Nat) : Int) = l by omega]
    · rw [show ((l.natAbs : Nat) : Int) = -l by omega, litVal_neg g.tail]
  rw [get_set (by omega), key2, litVal_tail g h1]
  split
  · rfl
  · rw [h l h1 h2, key]
/-- the last setting undone -/
theorem Wd.undo {H : Hp} {B : SetA} {A : StoA} {L : List (Addr × Clause)} {s : Sm06.St} {x : Sm06.Setting} {t0 t : Trail} {level : Nat} {ws : List Int} (W : Wd C H B A L (now s t0) (x :: t) level) (g0 : Good B.z s.n s.clauses t0) (sub : ∀ y ∈ x :: t, y ∈ t0)
    (lws : ws.length = s.n + 1) (fws : ∀ l : Int, 1 ≤ l.natAbs → l.natAbs ≤ s.n → ws[l.natAbs]? = some (if 0 < l then litVal (x :: t) l else - litVal (x :: t) l)) :
    Wd C (upd (upd H B.tr (.lst (t.reverse.map fun x => V.int x.lit))) B.va (.lst ((ws.set x.lit.natAbs 0).map V.int))) B A L (now s t0) t level ∧ Keep (MM B A) (MM B A) H (upd (upd H B.tr (.lst (t.reverse.map fun x => V.int x.lit))) B.va (.lst ((ws.set x.lit.natAbs 0).map V.int))) := by
  have k : Keep B.M B.M H (upd (upd H B.tr (.lst (t.reverse.map fun x => V.int x.lit))) B.va (.lst ((ws.set x.lit.natAbs 0).map V.int))) := (Keep.put (by simp)).trans (Keep.put (by simp))
  have g : Good B.z s.n s.clauses (x :: t) := W.good
  obtain ⟨dx, ha⟩ := W.set.ob
  obtain ⟨ls, hls, lls, fls⟩ := W.set.le
  obtain ⟨us, hus, lus, fus⟩ := W.set.wh
  have la : PhAt H B.la (now s t0).n (Sm06.kept t (now s t0).phase) := W.la.iff fun v => (kept_back g0 g.tail fun y hy => sub y (List.mem_cons_of_mem _ hy)).trans (kept_back g0 g sub).symm
  refine ⟨⟨W.sto.keepB k W.nd, ⟨⟨dx, ?_⟩, ?_, ⟨ws.set x.lit.natAbs 0, upd_same, by rw [List.length_set]; exact lws, va_undo g lws fws⟩, ⟨ls, ?_, lls, fun y hy => fls y (List.mem_cons_of_mem _ hy)⟩, ⟨us, ?_, lus, fun y hy => fus y (List.mem_cons_of_mem _ hy)⟩, W.set.nd, W.set.sub⟩, W.nd, g.tail, fun y hy => W.lev y (List.mem_cons_of_mem _ hy), W.ok, (la.put (ndne W.nd 5 1)).put (ndne W.nd 5 2)⟩, k.appL⟩
  · rw [upd_ne (ndne W.nd 0 2), upd_ne (ndne W.nd 0 1)]
    exact ha
  · rw [upd_ne (ndne W.nd 1 2), upd_same]
  · rw [upd_ne (ndne W.nd 3 2), upd_ne (ndne W.nd 3 1)]
    exact hls
  · rw [upd_ne (ndne W.nd 4 2), upd_ne (ndne W.nd 4 1)]
    exact hus
end Kc
set_option Elab.async false
set_option maxRecDepth 100000
set_option maxHeartbeats 2000000
set_option linter.all false
namespace Kc
open PySem PySem.Spec PyProof.Rows L2
open Sm06 (Clause Trail)
variable {P : Program} {w : World} {K : PySem.W.Frag} {mg : Str → Option Value} {base : Heap} {C : Cs}
abbrev st_undo_above : Stmt := top 5
abbrev N_undo_above : List Str := ["settings", "level", "literal"]
theorem sc_undo_above : FnScope N_undo_above ["settings", "level"] (defScope st_undo_above) := ⟨rfl, rfl, rfl, by decide +kernel, rfl, by decide +kernel, by decide +kernel⟩
theorem ok_undo_above {f : Addr} {fd : FuncData} (F : Fun K "undo_above" "undo_above" st_undo_above f fd) (T : Txt K mg C) : FnOk P w K mg base CX0 1 f fd ["settings", "level"] (spUndo C) := by
  refine F.ok sc_undo_above (fun vs H Q E h => ?_) (fun cdv A outer s H vs Q E hr h => ⟨_, (pss_cons (ps_while PassesOwn.never (PW.pt (pw_and (pt_cmpR op_gt (pe_callB call_len_seq (by rfl) T.b_len PySem.boot_len (pa_cons (pe_fld (pv 0) rfl) pa_nil)) pe_int (nomark _)) (pw_and1 (pt_cmpR op_gt (pe_ix ix_list (pe_fld (pv 0) rfl) (pe_callB call_abs (by rfl) T.b_abs (by decide +kernel) (pa_cons (pe_ix ix_list (pe_fld (pv 0) rfl) (pe_un un_neg pe_int) (fun _ _ => rfl)) pa_nil)) (fun _ _ => rfl)) (pv 1) (nomark _))))) (pss_cons (ps_set (i := 2) sc_undo_above.nd rfl (Or.inl rfl) (pe_bm0 PySem.F.plainAttrs_list PySem.F.slot_list_pop PySem.F.type_list_pop mt_pop (pe_fld (pv 0) rfl)))
      (pss_one (ps_asg pe_int (pg_sub (pe_fld (pv 0) rfl) (pe_callB call_abs (by rfl) T.b_abs (by decide +kernel) (pa_cons (pv 2) pa_nil)) set_list)))))
      (pss_one (ps_fld (pv 0) (pv 1) rfl))), ?_⟩)
  · obtain ⟨B, A, L, s, t, level, b, rfl, _⟩ := h
    rfl
  · obtain ⟨B, A, L, s, t, level, b, rfl, W0, q⟩ := h
    have fin : ∀ (t1 : Trail) (H' : Hp) (dx : Addr), Wd C H' B A L (now s t) t1 level → Keep (MM B A) (MM B A) H H' → t1.filter (fun y => decide (y.level ≤ b)) = t.filter (fun y => decide (y.level ≤ b)) → (∀ y ∈ t1, y.level ≤ b) → Q .non (upd H' B.a (.ins C.se dx (putF "level" (.int b) (seF A.a level B.tr B.va B.le B.wh B.la)))) := by
      intro t1 H' dx W k ef hb
      rw [seF_put_level]
      have e1 : t1 = t.filter (fun y => decide (y.level ≤ b)) := by
        rw [← ef]
        exact (List.filter_eq_self.mpr fun y hy => decide_eq_true (hb y hy)).symm
      obtain ⟨W1, k1⟩ := W.level (b := b) (dx := dx) hb
      rw [e1] at W1
      exact q _ W1 (k.trans k1)
    refine ⟨fun m σ H' => ∃ (t1 : Trail) (v : Option V), m = t1.length ∧ σ = [some (.ref B.a), some (.int b), v] ∧ Wd C H' B A L (now s t) t1 level ∧ Keep (MM B A) (MM B A) H H' ∧ (∀ y ∈ t1, y ∈ t) ∧ t1.filter (fun y => decide (y.level ≤ b)) = t.filter (fun y => decide (y.level ≤ b)), ⟨t.length, t, none, rfl, rfl, W0.again, Keep.refl _ _, fun _ h => h, rfl⟩, ?_⟩
    rintro m σ H' ⟨t1, v, rfl, rfl, W, k, sub, ef⟩
    obtain ⟨dx, ha⟩ := W.set.ob
    obtain ⟨ws, hws, lws, fws⟩ := W.set.va
    obtain ⟨ls, hls, lls, fls⟩ := W.set.le
    refine ⟨_, rfl, B.a, C.se, dx, _, _, rfl, ha, T.seC, T.se_trail, seF_trail, B.tr, _, rfl, Or.inl (SqL.of W.set.tr), _, _, rfl, rfl, _, rfl, ?_⟩
    cases t1 with
    | nil =>
      refine if_false_of rfl (if_false_of rfl ?_)
      exact ⟨_, rfl, _, rfl, B.a, C.se, dx, _, rfl, ha, T.seC, T.se_level, (by show 7 < 1000; decide), fin [] H' dx W k ef fun y hy => absurd hy List.not_mem_nil⟩
    | cons x t2 =>
      have g : Good B.z s.n s.clauses (x :: t2) := W.good
      refine if_true_of (decide_eq_true (by rw [List.length_map, List.length_reverse, List.length_cons]; omega)) ?_
      refine ⟨_, rfl, B.a, C.se, dx, _, _, rfl, ha, T.seC, T.se_level_of, seF_level_of, _, rfl, B.a, C.se, dx, _, _, rfl, ha, T.seC, T.se_trail, seF_trail, _, rfl, B.tr, _, _, _, rfl, rfl, SqL.of W.set.tr, at_last last_rev, _, rfl, B.le, _, _, _, rfl, rfl, SqL.of hls, at_abs (get_map (fls x List.mem_cons_self)), _, rfl, _, _, rfl, rfl, _, rfl, ?_⟩
      by_cases c : b < x.level
      · refine if_true_of (decide_eq_true (by omega)) ⟨fun σ' H'' => ∃ m', m' < (x :: t2).length ∧ _, fun _ _ h => h, ?_⟩
        have i1 : ixN (ws.map V.int).length (if x.lit < 0 then -x.lit else x.lit) = some x.lit.natAbs := ix_abs (by rw [List.length_map, lws]; have := g.1.2; show x.lit.natAbs < s.n + 1; omega)
        refine ⟨_, rfl, B.a, C.se, dx, _, _, rfl, ha, T.seC, T.se_trail, seF_trail, Or.inl ⟨rfl, _, SqL.of W.set.tr⟩, B.tr, _, _, rfl, rfl, W.set.tr, last_rev, ?_⟩
        refine ⟨_, rfl, B.a, C.se, dx, _, _, rfl, (upd_ne (ndne W.nd 0 1)).trans ha, T.seC, T.se_value_of, seF_value_of, _, rfl, _, rfl, B.va, ws.map V.int, _, x.lit.natAbs, rfl, rfl, (upd_ne (ndne W.nd 2 1)).trans hws, i1, ?_⟩
        obtain ⟨W1, k1⟩ := W.undo W0.good sub lws fws
        rw [drop_rev, show (V.int 0) = V.int 0 from rfl, map_set]
        refine ⟨t2.length, Nat.lt_succ_self _, t2, some (.int x.lit), rfl, rfl, W1, k.trans k1, fun y hy => sub y (List.mem_cons_of_mem _ hy), ?_⟩
        rw [← ef, List.filter_cons, if_neg (by simp; omega)]
      · refine if_false_of (decide_eq_false (by omega)) ?_
        refine ⟨_, rfl, _, rfl, B.a, C.se, dx, _, rfl, ha, T.seC, T.se_level, (by show 7 < 1000; decide), fin (x :: t2) H' dx W k ef fun y hy => ?_⟩
        rcases List.mem_cons.mp hy with e | hy
        · subst e
          omega
        · have := g.2.2.1 y hy
          omega
end Kc
set_option Elab.async false
set_option maxRecDepth 100000
set_option maxHeartbeats 2000000
set_option linter.all false
namespace Kc
open PySem PySem.Spec PyProof.Rows L2
open Sm06 (Clause Trail)
variable {P : Program} {w : World} {K : PySem.W.Frag} {mg : Str → Option Value} {base : Heap} {C : Cs}
theorem Wd.lits {H : Hp} {B : SetA} {A : StoA} {L : List (Addr × Clause)} {s : Sm06.St} {t : Trail} {level : Nat} (W : Wd C H B A L s t level) : ∀ p ∈ L, Lits s.n p.2.lits := fun p hp => W.ok.lits p.2 (by
  have e : s.clauses = L.map (·.2) := W.sto.cs
  rw [e]
  exact List.mem_map_of_mem hp)
theorem follow_none {cs : List Clause} {level f : Nat} {t : Trail} (hf : 0 < f) (h : cs.find? (Sm06.presses t) = none) : Sm06.follow cs level f t = (t, none) := by
  cases f with
  | zero => omega
  | succ f =>
    unfold Sm06.follow
    rw [h]
theorem follow_broken {cs : List Clause} {level f : Nat} {t : Trail} {c : Clause} (hf : 0 < f) (h : cs.find? (Sm06.presses t) = some c) (h2 : c.lits.find? (Sm06.isOpen t) = none) : Sm06.follow cs level f t = (t, some c) := by
  cases f with
  | zero => omega
  | succ f =>
    unfold Sm06.follow
    rw [h]
    dsimp only
    rw [h2]
theorem follow_step {cs : List Clause} {level f : Nat} {t : Trail} {c : Clause} {l : Int} (h : cs.find? (Sm06.presses t) = some c) (h2 : c.lits.find? (Sm06.isOpen t) = some l) : Sm06.follow cs level (f + 1) t = Sm06.follow cs level f (⟨l, level, some c⟩ :: t) := by
  conv => lhs; unfold Sm06.follow
  rw [h]
  dsimp only
  rw [h2]
theorem find_filter {p : Int → Bool} : ∀ {l : List Int}, l.find? p = (l.filter p).head?
  | [] => rfl
  | x :: l => by
    rw [List.find?_cons, List.filter_cons]
    cases c : p x with
    | true => rfl
    | false => exact find_filter (l := l)
abbrev st_set_what_follows : Stmt := top 9
abbrev N_set_what_follows : List Str := ["settings", "clause", "free"]
theorem sc_set_what_follows : FnScope N_set_what_follows ["settings"] (defScope st_set_what_follows) := ⟨rfl, rfl, rfl, by decide +kernel, rfl, by decide +kernel, by decide +kernel⟩
theorem ok_set_what_follows {f : Addr} {fd : FuncData} (F : Fun K "set_what_follows" "set_what_follows" st_set_what_follows f fd) (T : Txt K mg C) (c_first_to_look_at : Cal P w K mg base 3 "first_to_look_at" ["settings"] (spFirst C)) (c_free_literals : Cal P w K mg base 2 "free_literals" ["settings", "clause"] (spFree C)) (c_set_literal : Cal P w K mg base 1 "set_literal" ["settings", "literal", "clause"] (spSet C)) : FnOk P w K mg base CX0 4 f fd ["settings"] (spFollow C) := by
  refine F.ok sc_set_what_follows (fun vs H Q E h => ?_) (fun cdv A outer s H vs Q E hr h => ⟨_, (pss_cons (ps_set (i := 1) sc_set_what_follows.nd rfl (Or.inl rfl) (pe_cal c_first_to_look_at (hr.mono (by decide)) (by rfl) (pa_cons (pv 0) pa_nil)))
      (pss_cons (ps_while PassesOwn.never (pt_cmpR op_notN (pv 1) pe_non (nomark _)) (pss_cons (ps_set (i := 2) sc_set_what_follows.nd rfl (Or.inl rfl) (pe_cal c_free_literals (hr.mono (by decide)) (by rfl) (pa_cons (pv 0) (pa_cons (pv 1) pa_nil))))
      (pss_cons (ps_if (pt_cmpR op_eq (pe_callB call_len_seq (by rfl) T.b_len PySem.boot_len (pa_cons (pv 2) pa_nil)) pe_int (nomark _)) (pss_one (ps_ret (pv 1))) pss_nil)
      (pss_cons (ps_expr (pe_cal c_set_literal (hr.mono (by decide)) (by rfl) (pa_cons (pv 0) (pa_cons (pe_ix ix_list (pv 2) pe_int (fun _ _ => rfl)) (pa_cons (pv 1) pa_nil)))))
      (pss_one (ps_set (i := 1) sc_set_what_follows.nd rfl (Or.inl rfl) (pe_cal c_first_to_look_at (hr.mono (by decide)) (by rfl) (pa_cons (pv 0) pa_nil))))))))
      (pss_one (ps_ret pe_non)))), ?_⟩)
  · obtain ⟨B, A, L, s, t, level, rfl, _⟩ := h
    rfl
  · obtain ⟨B, A, L, s, t, level, rfl, W0, q⟩ := h
    refine ⟨_, rfl, MX B A, B, A, L, rest B s, s.n, t, level, rfl, W0.set, W0.sto, W0.lits, ?_⟩
    refine ⟨fun m σ H' => ∃ (t1 : Trail) (f : Nat) (v : Option V), m = s.n + 1 - t1.length ∧ σ = [some (.ref B.a), some (firstV t1 L), v] ∧ Wd C H' B A L s t1 level ∧ Keep (MM B A) (MM B A) H H' ∧ s.n + 1 ≤ t1.length + f ∧ Sm06.follow s.clauses level f t1 = Sm06.follow s.clauses level (s.n + 1) t, ⟨_, t, s.n + 1, none, rfl, rfl, W0, Keep.refl _ _, Nat.le_add_left _ _, rfl⟩, ?_⟩
    rintro m σ H' ⟨t1, f, v, rfl, rfl, W, k, hf, ef⟩
    have tl := W.good.len
    have f0 : 0 < f := by omega
    have ecs : s.clauses = L.map (·.2) := W.sto.cs
    have fnd : s.clauses.find? (Sm06.presses t1) = (L.find? fun p => Sm06.presses t1 p.2).map (·.2) := by
      rw [ecs, List.find?_map]
      rfl
    refine ⟨_, rfl, rfl, _, rfl, ?_⟩
    cases e : L.find? fun p => Sm06.presses t1 p.2 with
    | none =>
      have ev : firstV t1 L = .non := by
        unfold firstV
        rw [e]
      rw [e] at fnd
      have r := follow_none (level := level) f0 fnd
      rw [ef] at r
      refine if_false_of (by rw [ev]; rfl) ?_
      refine q H' .non ?_ k ?_
      · rw [r]
        exact W
      · rw [r]
        rfl
    | some p =>
      have ev : firstV t1 L = .ref p.1 := by
        unfold firstV
        rw [e]
      have hp : p ∈ L := List.mem_of_find?_eq_some e
      have hpr : Sm06.presses t1 p.2 = true := List.find?_some (p := fun q : Addr × Clause => Sm06.presses t1 q.2) e
      rw [e] at fnd
      refine if_true_of (by rw [ev]; rfl) ⟨fun σ' H'' => ∃ m', m' < s.n + 1 - t1.length ∧ _, fun _ _ h => h, ?_⟩
      rw [ev]
      refine ⟨_, rfl, _, rfl, MX B A, B, A.a, L, s.n, t1, level, p.1, p.2, rfl, W.set, W.sto.each p hp, W.lits p hp, W.ok.n12, fun H2 fr sm hn hfr => ?_⟩
      have W2 := W.same sm
      have k2 : Keep (MM B A) (MM B A) H H2 := k.trans (Keep.same sm)
      refine ⟨_, rfl, fr, _, rfl, Or.inl (SqL.of hfr), rfl, _, rfl, ?_⟩
      cases el : p.2.lits.filter (Sm06.isOpen t1) with
      | nil =>
        have r := follow_broken (level := level) f0 fnd (by rw [find_filter, el]; rfl)
        rw [ef] at r
        refine if_true_of rfl ⟨_, rfl, ?_⟩
        refine q H2 (.ref p.1) ?_ k2 ?_
        · rw [r]
          exact W2
        · rw [r]
          exact ⟨p.1, rfl, hp⟩
      | cons l r =>
        have hfl : p.2.lits.find? (Sm06.isOpen t1) = some l := by rw [find_filter, el]; rfl
        have hpc : p.2 ∈ s.clauses := by rw [ecs]; exact List.mem_map_of_mem hp
        have g := W.good.follow W.lev hpc (W.lits p hp) hpr hfl
        rw [el] at hfr
        refine if_false_of (decide_eq_false (fun z => absurd (V.int.inj z) (by rw [List.length_map, List.length_cons]; omega))) ?_
        refine ⟨_, rfl, _, rfl, fr, _, _, .int l, rfl, rfl, SqL.of hfr, atI_nat (j := 0) rfl, _, rfl, B, A, L, s, t1, level, l, some p.2, .ref p.1, rfl, W2, ⟨p.1, rfl, hp⟩, g, fun H3 W3 k3 => ?_⟩
        refine ⟨_, rfl, MX B A, B, A, L, rest B s, s.n, ⟨l, level, some p.2⟩ :: t1, level, rfl, W3.set, W3.sto, W3.lits, ?_⟩
        obtain ⟨f', rfl⟩ : ∃ f', f = f' + 1 := ⟨f - 1, by omega⟩
        refine ⟨s.n + 1 - (t1.length + 1), by omega, ⟨l, level, some p.2⟩ :: t1, f', some (.ref fr), rfl, rfl, W3, k2.trans k3, by rw [List.length_cons]; omega, ?_⟩
        rw [← ef]
        exact (follow_step fnd hfl).symm
end Kc
set_option Elab.async false
set_option maxRecDepth 100000
set_option maxHeartbeats 2000000
set_option linter.all false
namespace Kc
open PySem PySem.Spec PyProof.Rows L2
open Sm06 (Clause Trail)
variable {P : Program} {w : World} {K : PySem.W.Frag} {mg : Str → Option Value} {base : Heap} {C : Cs}
/-! ### a set of whole numbers as a dict -/
def sk (ks : List Int) : List (Key × V) := ks.map fun k => (Sum.inl k, V.bl true)
def addK (ks : List Int) (k : Int) : List Int := if k ∈ ks then ks else ks ++ [k]
theorem sk_any {ks : List Int} {k : Int} : ((sk ks).any fun kv => decide (kv.1 = (Sum.inl k : Key))) = decide (k ∈ ks) := by
  rw [Bool.eq_iff_iff, List.any_eq_true, decide_eq_true_iff]
  constructor
  · rintro ⟨p, hp, e⟩
    obtain ⟨z, hz, rfl⟩ := List.mem_map.mp hp
    have := of_decide_eq_true e
    rw [← Sum.inl.inj this]
    exact hz
  · intro h
    exact ⟨_, List.mem_map_of_mem h, decide_eq_true rfl⟩
theorem sk_put {ks : List Int} {k : Int} : putK (sk ks) (Sum.inl k : Key) (.bl true) = sk (addK ks k) := by
  unfold putK addK
  rw [sk_any]
  by_cases c : k ∈ ks
  · rw [if_pos (decide_eq_true c), if_pos c]
    refine (List.map_congr_left fun kv hkv => ?_).trans (List.map_id _)
    obtain ⟨z, _, rfl⟩ := List.mem_map.mp hkv
    split <;> rfl
  · rw [if_neg (by rw [decide_eq_false c]; decide), if_neg c]
    unfold sk
    rw [List.map_append]
    rfl
theorem sk_val {ks : List Int} {k : Int} : (valV (sk ks) (Sum.inl k : Key)).isSome = decide (k ∈ ks) := by
  rw [← sk_any, valV_any]
theorem sk_get {ks : List Int} {k : Int} (h : k ∈ ks) : ∃ v, valV (sk ks) (Sum.inl k : Key) = some v := by
  have := sk_val (ks := ks) (k := k)
  rw [decide_eq_true h] at this
  exact Option.isSome_iff_exists.mp this
theorem sk_drop {ks : List Int} {k : Int} : dropK (sk ks) (Sum.inl k : Key) = sk (ks.filter fun l => l != k) := by
  unfold dropK sk
  rw [List.filter_map]
  refine congrArg _ (List.filter_congr fun l _ => ?_)
  show decide ((Sum.inl l : Key) ≠ Sum.inl k) = (l != k)
  by_cases c : l = k
  · subst c
    simp
  · simp [c]
theorem sk_len {ks : List Int} : (sk ks).length = ks.length := List.length_map ..
theorem sk_at {ks : List Int} {i : Nat} {k : Key} {v : V} (h : (sk ks)[i]? = some (k, v)) : ∃ z, ks[i]? = some z ∧ k = Sum.inl z := by
  obtain ⟨z, hz, e⟩ := get_of_map h
  exact ⟨z, hz, congrArg Prod.fst e⟩
theorem mem_addK {ks : List Int} {k l : Int} : l ∈ addK ks k ↔ l ∈ ks ∨ l = k := by
  unfold addK
  split
  · rename_i h
    constructor
    · exact Or.inl
    · rintro (q | q)
      · exact q
      · rw [q]
        exact h
  · simp
theorem nodup_addK {ks : List Int} {k : Int} (h : ks.Nodup) : (addK ks k).Nodup := by
  unfold addK
  split
  · exact h
  · rename_i c
    rw [List.nodup_append]
    refine ⟨h, by simp, fun a ha b hb e => ?_⟩
    rw [List.mem_singleton] at hb
    rw [e, hb] at ha
    exact c ha
theorem len_addK {ks : List Int} {k : Int} : (addK ks k).length ≤ ks.length + 1 := by
  unfold addK
  split
  · omega
  · simp
theorem inV_int {k : Int} {hs : List Int} : inV (.int k) (hs.map V.int) = hs.contains k := by
  unfold inV
  rw [List.any_map, Bool.eq_iff_iff, List.any_eq_true, List.contains_iff_mem]
  constructor
  · rintro ⟨x, hx, e⟩
    have : x = k := by simpa [eqV] using e
    rw [← this]
    exact hx
  · intro h
    exact ⟨k, h, by simp [eqV]⟩
theorem flat_ints {hs : List Int} : (hs.map V.int).all flatV = true := by
  rw [List.all_map, List.all_eq_true]
  intro x _
  rfl
def spAt (C : Cs) : Sp := fun vs H Q _ => ∃ M B st L n cs t level d ks, ∃ lv : Nat, vs = [.ref (SetA.a B), .ref d, .int lv] ∧ SettAt C H M B st L n t level ∧ Good true n cs t ∧ H d = some (.dK (sk ks)) ∧ (∀ l ∈ ks, Sm06.isNot t l = true) ∧ ks.length ≤ 1000 ∧
  ∀ H' p, Same H H' → H p = none → H' p = some (.lst ((ks.filter fun l => Sm06.levelOf t l == lv).map V.int)) → Q (.ref p) H'
abbrev st_literals_at : Stmt := top 21
abbrev N_literals_at : List Str := ["settings", "literals", "level", "literal"]
theorem sc_literals_at : FnScope N_literals_at ["settings", "literals", "level"] (defScope st_literals_at) := ⟨rfl, rfl, rfl, by decide +kernel, rfl, by decide +kernel, by decide +kernel⟩
theorem ok_literals_at {f : Addr} {fd : FuncData} (F : Fun K "literals_at" "literals_at" st_literals_at f fd) (T : Txt K mg C) : FnOk P w K mg base CX0 1 f fd ["settings", "literals", "level"] (spAt C) := by
  refine F.ok sc_literals_at (fun vs H Q E h => ?_) (fun cdv A outer s H vs Q E hr h => ⟨_, (pss_one (ps_ret (pe_lock (pe_lc (own := [("literal", 3)]) (g := gName 3) rfl sc_literals_at.nd (pi_keys (pv 1)) (blkOk_by (own := [("literal", 3)]) (N := N_literals_at) (sc := defScope st_literals_at) (by decide +kernel)) (fun _ _ _ _ _ => pg_name (i := 3) sc_literals_at.nd rfl (Or.inl rfl)) (fun _ _ _ _ _ => by exact (pts_one (pt_cmpR op_eq (pe_ix (ix_listK K) (pe_fldK K (pv 0) rfl) (pe_callB call_abs (by rfl) T.b_abs (by decide +kernel) (pa_cons (pv 3) pa_nil)) (fun _ _ => rfl)) (pv 2) (nomark _)))) (fun _ _ _ _ _ => by exact (pv 3)))))), ?_⟩)
  · obtain ⟨M, B, st, L, n, cs, t, level, d, ks, lv, rfl, _⟩ := h
    rfl
  · obtain ⟨M, B, st, L, n, cs, t, level, d, ks, lv, rfl, S, g, hd, hn, hk, q⟩ := h
    obtain ⟨dx, ha⟩ := S.ob
    obtain ⟨ls, hls, lls, fls⟩ := S.le
    have da : B.a ≠ d := ne_of ha hd (by intro z; cases z)
    have dl : B.le ≠ d := ne_of hls hd (by intro z; cases z)
    refine ⟨d, _, hd, trivial, fun od => ⟨_, rfl, d, od, rfl, Or.inl ⟨sk ks, upd_same, fun D hD => ?_⟩⟩⟩
    have Dd : D ≠ d := fun e => by rw [e, upd_same] at hD; cases hD
    have HD : H D = none := by rw [upd_ne Dd] at hD; exact hD
    refine lc_it walk_keys (fun i H' => H' = upd (upd H d (.frz od (.dK (sk ks)))) D (.lst (((ks.take i).filter fun l => Sm06.levelOf t l == lv).map V.int))) rfl (fun i H' _ e => ?_) ?_ ?_
    · rw [e, upd_ne (Ne.symm Dd), upd_same]
    · rintro i y H' H2 hi rfl ⟨rfl, k, v, hkv, rfl⟩
      obtain ⟨l, hz, rfl⟩ := sk_at hkv
      have hm : l ∈ ks := List.mem_of_getElem? hz
      have tk : ks.take (i + 1) = ks.take i ++ [l] := by rw [List.take_add_one, hz]; rfl
      obtain ⟨x, hx, ex⟩ := isNot_iff.mp (hn l hm)
      have el : l.natAbs = x.lit.natAbs := by omega
      have lev := levelOf_mem g hx el
      have hH : ∀ {b : Addr} {o : HO}, H b = some o → b ≠ d → upd (upd H d (.frz od (.dK (sk ks)))) D (.lst (((ks.take i).filter fun l => Sm06.levelOf t l == lv).map V.int)) b = some o := fun {b o} e ne => by
        rw [upd_ne (ne_of_none e HD), upd_ne ne]
        exact e
      have gl : ls[l.natAbs]? = some (x.level : Int) := by rw [el]; exact fls x hx
      refine ⟨rfl, _, rfl, B.a, C.se, dx, _, _, rfl, hH ha da, T.seC, T.se_level_of, seF_level_of, _, rfl, _, rfl, B.le, _, _, _, rfl, rfl, SqL.of (hH hls dl), at_abs (get_map gl), _, rfl, rfl, _, rfl, ?_⟩
      by_cases c : x.level = lv
      · refine if_true_of (decide_eq_true (by rw [c])) ⟨_, rfl, _, upd_same, ?_, ?_⟩
        · rw [List.length_map]
          exact small1000 (Nat.le_trans (List.length_filter_le _ _) (by rw [List.length_take]; omega))
        · rw [upd_upd, tk, List.filter_append, List.filter_cons, if_pos (by rw [lev, c]; simp), List.filter_nil, List.map_append]
          rfl
      · refine if_false_of (decide_eq_false (by intro z; exact c (Int.ofNat.inj (V.int.inj z)))) ?_
        rw [tk, List.filter_append, List.filter_cons, if_neg (by rw [lev]; simpa using c), List.filter_nil, List.append_nil]
    · rintro H' rfl
      rw [sk_len, List.take_length]
      refine ⟨by rw [upd_ne (Ne.symm Dd), upd_same], q _ D (fun b o e => ?_) HD (by rw [upd_ne Dd, upd_same])⟩
      by_cases bd : b = d
      · subst bd
        rw [upd_same, ← e, hd]
      · rw [upd_ne bd, upd_ne (ne_of_none e HD), upd_ne bd]
        exact e
def lastV (t : Trail) (hs : List Int) : V := match t.find? fun x => hs.contains (-x.lit) with
  | none => .non
  | some x => .int (-x.lit)
def spLast (C : Cs) (K : PySem.W.Frag) : Sp := fun vs H Q _ => ∃ M B st L n t level p hs, vs = [.ref (SetA.a B), .ref p] ∧ SettAt C H M B st L n t level ∧ SqL K H p (hs.map V.int) ∧ Q (lastV t hs) H
theorem rev_at {α β : Type} {f : α → β} {t : List α} {i : Nat} {y : β} (hi : i < (t.reverse.map f).length) (h : (t.reverse.map f)[(t.reverse.map f).length - 1 - i]? = some y) : ∃ x, t[i]? = some x ∧ y = f x := by
  obtain ⟨x, hx, e⟩ := get_of_map h
  rw [List.length_map, List.length_reverse] at hi hx
  rw [List.getElem?_reverse (by omega)] at hx
  rw [show t.length - 1 - (t.length - 1 - i) = i by omega] at hx
  exact ⟨x, hx, e⟩
theorem find_take' {α : Type} {p : α → Bool} {L : List α} {i : Nat} {x : α} (h : L[i]? = some x) (no : (L.take i).find? p = none) (c : p x = true) : L.find? p = some x := by
  have e : L = L.take i ++ x :: L.drop (i + 1) := by
    have := List.take_append_drop i L
    rw [List.drop_eq_getElem_cons (List.getElem?_eq_some_iff.mp h).1] at this
    rw [(List.getElem?_eq_some_iff.mp h).2] at this
    exact this.symm
  rw [e, List.find?_append, no, List.find?_cons, c]
  rfl
abbrev st_last_set : Stmt := top 22
abbrev N_last_set : List Str := ["settings", "literals", "literal"]
theorem sc_last_set : FnScope N_last_set ["settings", "literals"] (defScope st_last_set) := ⟨rfl, rfl, rfl, by decide +kernel, rfl, by decide +kernel, by decide +kernel⟩
theorem ok_last_set {f : Addr} {fd : FuncData} (F : Fun K "last_set" "last_set" st_last_set f fd) (T : Txt K mg C) : FnOk P w K mg base CX0 1 f fd ["settings", "literals"] (spLast C K) := by
  refine F.ok sc_last_set (fun vs H Q E h => ?_) (fun cdv A outer s H vs Q E hr h => ⟨_, (pss_cons (ps_for PassesOwn.never rfl (pi_reversed (by rfl) T.b_reversed (pa_cons (pe_fld (pv 0) rfl) pa_nil)) (pg_name (i := 2) sc_last_set.nd rfl (Or.inl rfl)) (pss_one (ps_if (pt_cmpR op_in_seq (pe_un un_neg (pv 2)) (pv 1) (by rfl)) (pss_one (ps_ret (pe_un un_neg (pv 2)))) pss_nil)))
      (pss_one (ps_ret pe_non))), ?_⟩)
  · obtain ⟨M, B, st, L, n, t, level, p, hs, rfl, _⟩ := h
    rfl
  · obtain ⟨M, B, st, L, n, t, level, p, hs, rfl, S, hp, q⟩ := h
    obtain ⟨dx, ha⟩ := S.ob
    refine ⟨_, rfl, B.a, C.se, dx, _, _, rfl, ha, T.seC, T.se_trail, seF_trail, B.tr, _, rfl, SqL.of S.tr, for_it walk_rev (fun i σ H' => ∃ v : Option V, σ = [some (.ref B.a), some (.ref p), v] ∧ H' = H ∧ (t.take i).find? (fun x => hs.contains (-x.lit)) = none) ⟨none, rfl, rfl, rfl⟩ (fun i σ H' _ ⟨_, _, e, _⟩ => by rw [e]; exact SqL.of S.tr) ?_ ?_⟩
    · rintro i y σ H' H2 hi ⟨v, rfl, rfl, no⟩ ⟨rfl, hy⟩
      obtain ⟨x, hx, rfl⟩ := rev_at hi hy
      have tk : t.take (i + 1) = t.take i ++ [x] := by rw [List.take_add_one, hx]; rfl
      refine ⟨_, rfl, _, rfl, _, rfl, p, _, rfl, Or.inl hp, rfl, flat_ints, _, rfl, ?_⟩
      rw [inV_int]
      by_cases c : hs.contains (-x.lit) = true
      · refine if_true_of c ⟨_, rfl, _, rfl, ?_⟩
        unfold lastV at q
        rw [find_take' hx no c] at q
        exact q
      · refine if_false_of (Bool.eq_false_iff.mpr c) ⟨some (.int x.lit), rfl, rfl, ?_⟩
        rw [tk, List.find?_append, no, List.find?_cons, Bool.eq_false_iff.mpr c]
        rfl
    · rintro σ H' ⟨v, rfl, rfl, no⟩
      rw [List.length_map, List.length_reverse, List.take_length] at no
      unfold lastV at q
      rw [no] at q
      exact q
end Kc
set_option Elab.async false
set_option maxRecDepth 100000
set_option maxHeartbeats 2000000
set_option linter.all false
namespace Kc
open PySem PySem.Spec PyProof.Rows L2
open Sm06 (Clause Trail)
variable {P : Program} {w : World} {K : PySem.W.Frag} {mg : Str → Option Value} {base : Heap} {C : Cs}
def swapK (ks : List Int) (l : Int) (os : List Int) : List Int := os.foldl (fun ks o => if o ≠ -l then addK ks o else ks) (ks.filter fun z => z != l)
theorem swapK_mem {l z : Int} : ∀ {os ks : List Int}, z ∈ os.foldl (fun ks o => if o ≠ -l then addK ks o else ks) ks ↔ z ∈ ks ∨ (z ∈ os ∧ z ≠ -l)
  | [], ks => by simp
  | o :: os, ks => by
    rw [List.foldl_cons, swapK_mem (os := os)]
    by_cases c : o ≠ -l
    · rw [if_pos c, mem_addK, List.mem_cons]
      constructor
      · rintro ((h | h) | h)
        · exact Or.inl h
        · exact Or.inr ⟨Or.inl h, by rw [h]; exact c⟩
        · exact Or.inr ⟨Or.inr h.1, h.2⟩
      · rintro (h | ⟨h | h, q⟩)
        · exact Or.inl (Or.inl h)
        · exact Or.inl (Or.inr h)
        · exact Or.inr ⟨h, q⟩
    · rw [if_neg c, List.mem_cons]
      have c' : o = -l := Decidable.not_not.mp c
      constructor
      · rintro (h | h)
        · exact Or.inl h
        · exact Or.inr ⟨Or.inr h.1, h.2⟩
      · rintro (h | ⟨h | h, q⟩)
        · exact Or.inl h
        · exact absurd (h.trans c') q
        · exact Or.inr ⟨h, q⟩
theorem swapK_nodup {l : Int} : ∀ {os ks : List Int}, ks.Nodup → (os.foldl (fun ks o => if o ≠ -l then addK ks o else ks) ks).Nodup
  | [], _, h => h
  | o :: os, ks, h => by
    rw [List.foldl_cons]
    refine swapK_nodup (os := os) ?_
    split
    · exact nodup_addK h
    · exact h
theorem swapK_len {l : Int} : ∀ {os ks : List Int}, (os.foldl (fun ks o => if o ≠ -l then addK ks o else ks) ks).length ≤ ks.length + os.length
  | [], ks => Nat.le_refl _
  | o :: os, ks => by
    rw [List.foldl_cons]
    refine Nat.le_trans (swapK_len (os := os)) ?_
    rw [List.length_cons]
    split
    · have := len_addK (ks := ks) (k := o)
      omega
    · omega
def spSwapOut (C : Cs) : Sp := fun vs H Q _ => ∃ M B st L n t level d ks c x, ∃ l : Int, vs = [.ref (SetA.a B), .ref d, .int l] ∧ SettAt C H M B st L n t level ∧ (∀ p ∈ L, ClauseAt C H M p.1 p.2) ∧ H d = some (.dK (sk ks)) ∧ x ∈ t ∧ x.lit = 0 - l ∧ x.why = some c ∧ l ∈ ks ∧ ks.length ≤ 500 ∧ c.lits.length ≤ 12 ∧
  ∀ b, (b, c) ∈ L → Q (.ref b) (upd H d (.dK (sk (swapK ks l c.lits))))
abbrev st_swap_out : Stmt := top 23
abbrev N_swap_out : List Str := ["settings", "kept", "literal", "clause", "other"]
theorem sc_swap_out : FnScope N_swap_out ["settings", "kept", "literal"] (defScope st_swap_out) := ⟨rfl, rfl, rfl, by decide +kernel, rfl, by decide +kernel, by decide +kernel⟩
theorem ok_swap_out {f : Addr} {fd : FuncData} (F : Fun K "swap_out" "swap_out" st_swap_out f fd) (T : Txt K mg C) : FnOk P w K mg base CX0 1 f fd ["settings", "kept", "literal"] (spSwapOut C) := by
  refine F.ok sc_swap_out (fun vs H Q E h => ?_) (fun cdv A outer s H vs Q E hr h => ⟨_, (pss_cons (ps_set (i := 3) sc_swap_out.nd rfl (Or.inl rfl) (pe_ix ix_list (pe_fld (pv 0) rfl) (pe_callB call_abs (by rfl) T.b_abs (by decide +kernel) (pa_cons (pv 2) pa_nil)) (fun _ _ => rfl)))
      (pss_cons (ps_expr (pe_dpop1 (pv 1) (pv 2) ⟨rfl, rfl, rfl, rfl⟩))
      (pss_cons (ps_for PassesOwn.never rfl (pi_list (pe_fld (pv 3) rfl)) (pg_name (i := 4) sc_swap_out.nd rfl (Or.inl rfl)) (pss_one (ps_if (pt_cmpR op_ne (pv 4) (pe_un un_neg (pv 2)) (nomark _)) (pss_one (ps_dput (hu_of hr) (pv 1) (pv 4) pe_bl rfl)) pss_nil)))
      (pss_one (ps_ret (pv 3)))))), ?_⟩)
  · obtain ⟨M, B, st, L, n, t, level, d, ks, c, x, l, rfl, _⟩ := h
    rfl
  · obtain ⟨M, B, st, L, n, t, level, d, ks, c, x, l, rfl, S, hL, hd, hx, ex, hw, hk, k5, c12, q⟩ := h
    obtain ⟨dx, ha⟩ := S.ob
    obtain ⟨us, hus, lus, fus⟩ := S.wh
    obtain ⟨v, hv, wv⟩ := fus x hx
    rw [hw] at wv
    obtain ⟨b, rfl, hb⟩ := wv
    obtain ⟨dy, li, co, h1, h2, _⟩ := hL _ hb
    have el : x.lit.natAbs = l.natAbs := by omega
    rw [el] at hv
    have bd : b ≠ d := ne_of h1 hd (by intro z; cases z)
    have ld : li ≠ d := ne_of h2 hd (by intro z; cases z)
    obtain ⟨vv, hvv⟩ := sk_get hk
    refine ⟨_, rfl, B.a, C.se, dx, _, _, rfl, ha, T.seC, T.se_clause_of, seF_clause_of, _, rfl, _, rfl, B.wh, _, _, _, rfl, rfl, SqL.of hus, at_abs hv, ?_⟩
    refine ⟨_, rfl, d, rfl, ?_, _, rfl, sk ks, Sum.inl l, vv, hd, rfl, hvv, ?_⟩
    · exact Or.inl ⟨_, Rd.of hd⟩
    rw [sk_drop]
    refine ⟨_, rfl, b, C.cl, dy, _, _, rfl, (upd_ne bd).trans h1, T.clC, T.cl_literals, clF_literals, li, rfl, ⟨_, SqL.of ((upd_ne ld).trans h2)⟩, for_list (K := K) (a := li) (xs := c.lits.map V.int) (fun i σ H' => ∃ v : Option V, σ = [some (.ref B.a), some (.ref d), some (.int l), some (.ref b), v] ∧ H' = upd H d (.dK (sk (swapK ks l (c.lits.take i))))) ⟨none, rfl, rfl⟩ (fun i σ H' _ ⟨_, _, e⟩ => by rw [e]; exact SqL.of ((upd_ne ld).trans h2)) ?_ ?_⟩
    · rintro i y σ H' hi ⟨v, rfl, rfl⟩
      obtain ⟨o, hz, rfl⟩ := get_of_map hi
      have tk : c.lits.take (i + 1) = c.lits.take i ++ [o] := by rw [List.take_add_one, hz]; rfl
      have sw : swapK ks l (c.lits.take (i + 1)) = if o ≠ -l then addK (swapK ks l (c.lits.take i)) o else swapK ks l (c.lits.take i) := by
        unfold swapK
        rw [tk, List.foldl_append]
        rfl
      refine ⟨_, rfl, _, rfl, _, rfl, rfl, _, rfl, ?_⟩
      by_cases cc : o = -l
      · refine if_false_of (by rw [cc]; simp) ⟨some (.int o), rfl, ?_⟩
        rw [sw, if_neg (fun z => z cc)]
      · refine if_true_of (by simpa using cc) ⟨_, rfl, _, rfl, d, _, rfl, DPut.k (k := Sum.inl o) upd_same ?_, ?_⟩
        · rw [sk_len]
          refine small1000 (Nat.le_trans swapK_len ?_)
          have := List.length_filter_le (fun z => z != l) ks
          rw [List.length_take]
          omega
        · rw [upd_upd, sk_put]
          refine ⟨some (.int o), rfl, ?_⟩
          rw [sw, if_pos cc]
    · rintro σ H' ⟨v, rfl, rfl⟩
      rw [List.length_map, List.take_length]
      exact ⟨_, rfl, q b hb⟩
/-- all but what lies at d -/
def But (d : Addr) (H H' : Hp) : Prop := ∀ b o, H b = some o → b ≠ d → H' b = some o
theorem But.trans {d : Addr} {H H1 H2 : Hp} (a : But d H H1) (b : But d H1 H2) : But d H H2 := fun x o e ne => b x o (a x o e ne) ne
theorem But.same {d : Addr} {H H1 : Hp} (a : Same H H1) : But d H H1 := fun x o e _ => a x o e
theorem But.put {d : Addr} {H : Hp} {o : HO} : But d H (upd H d o) := fun x u e ne => by rw [upd_ne ne]; exact e
theorem But.new {d p : Addr} {H H1 : Hp} {o : HO} (hp : H p = none) (a : But d H H1) : But d H (upd H1 p o) := fun x u e ne => by rw [upd_ne (ne_of_none e hp)]; exact a x u e ne
theorem SettAt.but {H H' : Hp} {M : List Addr} {B : SetA} {st : Addr} {L : List (Addr × Clause)} {n : Nat} {t : Trail} {level : Nat} {d : Addr} {kvs : List (Key × V)} (h : SettAt C H M B st L n t level) (hd : H d = some (.dK kvs)) (e : But d H H') : SettAt C H' M B st L n t level where
  ob := let ⟨dx, h1⟩ := h.ob; ⟨dx, e _ _ h1 (ne_of h1 hd (by intro z; cases z))⟩
  tr := e _ _ h.tr (ne_of h.tr hd (by intro z; cases z))
  va := let ⟨bs, h1, h2⟩ := h.va; ⟨bs, e _ _ h1 (ne_of h1 hd (by intro z; cases z)), h2⟩
  le := let ⟨bs, h1, h2⟩ := h.le; ⟨bs, e _ _ h1 (ne_of h1 hd (by intro z; cases z)), h2⟩
  wh := let ⟨bs, h1, h2⟩ := h.wh; ⟨bs, e _ _ h1 (ne_of h1 hd (by intro z; cases z)), h2⟩
  nd := h.nd
  sub := h.sub
theorem ClauseAt.but {H H' : Hp} {M : List Addr} {b d : Addr} {c : Clause} {kvs : List (Key × V)} (h : ClauseAt C H M b c) (hd : H d = some (.dK kvs)) (e : But d H H') : ClauseAt C H' M b c := by
  obtain ⟨dx, li, co, h1, h2, n1, n2, h3, r⟩ := h
  exact ⟨dx, li, co, e _ _ h1 (ne_of h1 hd (by intro z; cases z)), e _ _ h2 (ne_of h2 hd (by intro z; cases z)), n1, n2, e _ _ h3 (ne_of h3 hd (by intro z; cases z)), r⟩
theorem neg_len {z : Bool} {n : Nat} {cs : List Clause} {t : Trail} {ks : List Int} (g : Good z n cs t) (nd : ks.Nodup) (no : ∀ l ∈ ks, Sm06.isNot t l = true) : ks.length ≤ n := by
  have nd2 : (ks.map Int.natAbs).Nodup := by
    rw [List.Nodup, List.pairwise_map]
    refine List.Pairwise.imp_of_mem (fun ha hb h e => h ?_) nd
    exact one_way g (no _ ha) (no _ hb) e
  have rg : ∀ l ∈ ks, 1 ≤ l.natAbs ∧ l.natAbs ≤ n := fun l hl => by
    obtain ⟨x, hx, e⟩ := isNot_iff.mp (no l hl)
    have := g.range x hx
    omega
  have hb := nodup_bound (n + 1) ((0 : Nat) :: ks.map Int.natAbs) (by
    rw [List.nodup_cons]
    refine ⟨fun q => ?_, nd2⟩
    obtain ⟨x, hx, e⟩ := List.mem_map.mp q
    have := (rg x hx).1
    omega) (fun x hx => by
    rcases List.mem_cons.mp hx with rfl | hx
    · omega
    · obtain ⟨y, hy, rfl⟩ := List.mem_map.mp hx
      have := (rg y hy).2
      omega)
  simp only [List.length_cons, List.length_map] at hb
  omega
def spSwapAt (C : Cs) : Sp := fun vs H Q _ => ∃ M B st L n cs t level d ks xs G, ∃ lv may : Nat, vs = [.ref (SetA.a B), .ref d, .int lv, .int may] ∧ SettAt C H M B st L n t level ∧ (∀ p ∈ L, ClauseAt C H M p.1 p.2 ∧ Lits n p.2.lits) ∧ n ≤ 12 ∧ Good true n cs t ∧ Sw lv may t G ∧
  H d = some (.dK (sk ks)) ∧ ks.Nodup ∧ Neg t xs ∧ (∀ l, l ∈ xs ↔ l ∈ ks) ∧
  ∀ H' p U ks' xs', H p = none → H' p = some (.lst ((U : List (Addr × Clause)).map fun q => V.ref q.1)) → (∀ q ∈ U, q ∈ L) → U.length ≤ t.length → H' d = some (.dK (sk ks')) → ks'.Nodup → Neg t xs' → (∀ l, l ∈ xs' ↔ l ∈ ks') → (∀ u, G ⟨xs, u⟩ = ⟨xs', (U.map (·.2)).reverse ++ u⟩) → But d H H' → Q (.ref p) H'
end Kc
set_option Elab.async false
set_option maxRecDepth 100000
set_option maxHeartbeats 2000000
set_option linter.all false
namespace Kc
open PySem PySem.Spec PyProof.Rows L2
open Sm06 (Clause Trail)
variable {P : Program} {w : World} {K : PySem.W.Frag} {mg : Str → Option Value} {base : Heap} {C : Cs}
theorem far_congr {lv : Nat} {t : Trail} {a b : List Int} (h : ∀ l, l ∈ a ↔ l ∈ b) : far lv t a = far lv t b := by
  unfold far
  have : ∀ z : Int, a.contains z = b.contains z := fun z => by
    rw [Bool.eq_iff_iff, List.contains_iff_mem, List.contains_iff_mem]
    exact h z
  simp only [this]
theorem far_le {lv : Nat} {t : Trail} {a : List Int} : far lv t a ≤ t.length := (List.dropWhile_sublist _).length_le
theorem why_in {L : List (Addr × Clause)} {n : Nat} {H : Hp} {M : List Addr} {B : SetA} {st : Addr} {t : Trail} {level : Nat} {x : Sm06.Setting} {c : Clause} (S : SettAt C H M B st L n t level) (hx : x ∈ t) (hw : x.why = some c) : ∃ b, (b, c) ∈ L := by
  obtain ⟨us, _, _, fus⟩ := S.wh
  obtain ⟨v, _, wv⟩ := fus x hx
  rw [hw] at wv
  obtain ⟨b, _, hb⟩ := wv
  exact ⟨b, hb⟩
abbrev st_swap_out_at : Stmt := top 24
abbrev N_swap_out_at : List Str := ["settings", "kept", "level", "may_stay", "came", "here"]
theorem sc_swap_out_at : FnScope N_swap_out_at ["settings", "kept", "level", "may_stay"] (defScope st_swap_out_at) := ⟨rfl, rfl, rfl, by decide +kernel, rfl, by decide +kernel, by decide +kernel⟩
theorem ok_swap_out_at {f : Addr} {fd : FuncData} (F : Fun K "swap_out_at" "swap_out_at" st_swap_out_at f fd) (T : Txt K mg C) (c_literals_at : Cal P w K mg base 1 "literals_at" ["settings", "literals", "level"] (spAt C)) (c_last_set : Cal P w K mg base 1 "last_set" ["settings", "literals"] (spLast C K)) (c_swap_out : Cal P w K mg base 1 "swap_out" ["settings", "kept", "literal"] (spSwapOut C)) : FnOk P w K mg base CX0 2 f fd ["settings", "kept", "level", "may_stay"] (spSwapAt C) := by
  refine F.ok sc_swap_out_at (fun vs H Q E h => ?_) (fun cdv A outer s H vs Q E hr h => ⟨_, (pss_cons (ps_set (i := 4) sc_swap_out_at.nd rfl (Or.inl rfl) (pe_lst pa_nil))
      (pss_cons (ps_set (i := 5) sc_swap_out_at.nd rfl (Or.inl rfl) (pe_cal c_literals_at (hr.mono (by decide)) (by rfl) (pa_cons (pv 0) (pa_cons (pv 1) (pa_cons (pv 2) pa_nil)))))
      (pss_cons (ps_while PassesOwn.never (pt_cmpR op_gt (pe_callB call_len_seq (by rfl) T.b_len PySem.boot_len (pa_cons (pv 5) pa_nil)) (pv 3) (nomark _)) (pss_cons (ps_expr (pe_bm PySem.F.plainAttrs_list PySem.F.slot_list_append PySem.F.type_list_append mt_append (pv 4) (pa_cons (pe_cal c_swap_out (hr.mono (by decide)) (by rfl) (pa_cons (pv 0) (pa_cons (pv 1) (pa_cons (pe_cal c_last_set (hr.mono (by decide)) (by rfl) (pa_cons (pv 0) (pa_cons (pv 5) pa_nil))) pa_nil)))) pa_nil)))
      (pss_one (ps_set (i := 5) sc_swap_out_at.nd rfl (Or.inl rfl) (pe_cal c_literals_at (hr.mono (by decide)) (by rfl) (pa_cons (pv 0) (pa_cons (pv 1) (pa_cons (pv 2) pa_nil))))))))
      (pss_one (ps_ret (pv 4)))))), ?_⟩)
  · obtain ⟨M, B, st, L, n, cs, t, level, d, ks, xs, G, lv, may, rfl, _⟩ := h
    rfl
  · obtain ⟨M, B, st, L, n, cs, t, level, d, ks, xs, G, lv, may, rfl, S, hL, n12, g, sw, hd, nk, N, hxk, q⟩ := h
    refine ⟨Nat.zero_le _, fun pc hpc => ?_⟩
    have pcd : pc ≠ d := fun e => by rw [e, hd] at hpc; cases hpc
    have S1 := S.same (Same.new (o := .lst []) hpc)
    have hd1 : upd H pc (.lst []) d = some (.dK (sk ks)) := by rw [upd_ne (Ne.symm pcd)]; exact hd
    have kno : ∀ l ∈ ks, Sm06.isNot t l = true := fun l hl => N.no l ((hxk l).mpr hl)
    refine ⟨_, rfl, _, rfl, _, rfl, M, B, st, L, n, cs, t, level, d, ks, lv, rfl, S1, g, hd1, kno, by have := neg_len g nk kno; omega, fun H1 ph sm hph hf => ?_⟩
    refine ⟨fun m σ H' => ∃ (U : List (Addr × Clause)) (ks1 xs1 : List Int) (ph : Addr), m = far lv t xs1 ∧ σ = [some (.ref B.a), some (.ref d), some (.int lv), some (.int may), some (.ref pc), some (.ref ph)] ∧ H' pc = some (.lst (U.map fun q => V.ref q.1)) ∧ H' ph = some (.lst ((ks1.filter fun l => Sm06.levelOf t l == lv).map V.int)) ∧ (∀ q ∈ U, q ∈ L) ∧ U.length + far lv t xs1 ≤ t.length ∧ H' d = some (.dK (sk ks1)) ∧ ks1.Nodup ∧ Neg t xs1 ∧ (∀ l, l ∈ xs1 ↔ l ∈ ks1) ∧ (∀ u, G ⟨xs, u⟩ = G ⟨xs1, (U.map (·.2)).reverse ++ u⟩) ∧ But d H H',
      ⟨_, [], ks, xs, ph, rfl, rfl, sm _ _ upd_same, hf, fun _ h => absurd h List.not_mem_nil, by have := far_le (lv := lv) (t := t) (a := xs); simpa using this, sm _ _ hd1, nk, N, hxk, fun u => rfl, (But.new hpc (But.same (Same.refl H))).trans (But.same sm)⟩, ?_⟩
    rintro m σ H' ⟨U, ks1, xs1, ph, rfl, rfl, hU, hph1, UL, Ul, hd2, nk1, N1, hxk1, eG, bt⟩
    have S2 := S.but hd bt
    have len : (ks1.filter fun l => Sm06.levelOf t l == lv).length = cnt lv t xs1 := cnt_of (up_nodup N1.up) nk1 hxk1
    refine ⟨_, rfl, ph, _, rfl, Or.inl (SqL.of hph1), _, rfl, _, _, rfl, rfl, _, rfl, ?_⟩
    by_cases c : may < cnt lv t xs1
    · obtain ⟨p, x, t', cl, et, hw, el, hm, hp, hs, hu⟩ := sw.step xs1 N1 c
      subst et
      have kno1 : ∀ l ∈ ks1, Sm06.isNot (p ++ x :: t') l = true := fun l hl => N1.no l ((hxk1 l).mpr hl)
      have ev : lastV (p ++ x :: t') (ks1.filter fun l => Sm06.levelOf (p ++ x :: t') l == lv) = .int (-x.lit) := by
        unfold lastV
        rw [found_step g el hm hp fun l => by rw [List.mem_filter, beq_iff_eq, hxk1 l]]
      have hx : x ∈ p ++ x :: t' := List.mem_append_right _ List.mem_cons_self
      obtain ⟨b0, hb0⟩ := why_in S2 hx hw
      have cl12 : cl.lits.length ≤ 12 := Nat.le_trans (hL _ hb0).2.len n12
      have lm : -x.lit ∈ ks1 := (hxk1 _).mp (by rw [show -x.lit = 0 - x.lit by omega]; exact hm)
      refine if_true_of (decide_eq_true (by rw [List.length_map, len]; omega)) ⟨fun σ' H'' => ∃ m', m' < far lv (p ++ x :: t') xs1 ∧ _, fun _ _ h => h, ?_⟩
      refine ⟨_, rfl, Or.inl ⟨rfl, _, SqL.of hU⟩, _, rfl, _, rfl, _, rfl, _, rfl, M, B, st, L, n, p ++ x :: t', level, ph, _, rfl, S2, SqL.of hph1, ?_⟩
      rw [ev]
      refine ⟨M, B, st, L, n, p ++ x :: t', level, d, ks1, cl, x, -x.lit, rfl, S2, fun q hq => (hL q hq).1.but hd bt, hd2, hx, by omega, hw, lm, by have := neg_len g nk1 kno1; omega, cl12, fun b hb => ?_⟩
      have hU2 : upd H' d (.dK (sk (swapK ks1 (-x.lit) cl.lits))) pc = some (.lst (U.map fun q => V.ref q.1)) := by rw [upd_ne pcd]; exact hU
      refine ⟨pc, _, _, rfl, rfl, hU2, ?_, ?_⟩
      · rw [List.length_map]
        exact small1000 (by have := g.len; omega)
      have mem2 : ∀ l, l ∈ swapped xs1 x cl ↔ l ∈ swapK ks1 (-x.lit) cl.lits := fun l => by
        unfold swapK
        rw [mem_swapped, swapK_mem, List.mem_filter, hxk1 l, show (0 - x.lit) = -x.lit by omega, show (- -x.lit) = x.lit by omega]
        simp
      have N2 : Neg (p ++ x :: t') (swapped xs1 x cl) := swapped_neg g hw N1
      have nk2 : (swapK ks1 (-x.lit) cl.lits).Nodup := swapK_nodup (nk1.filter _)
      have kno2 : ∀ l ∈ swapK ks1 (-x.lit) cl.lits, Sm06.isNot (p ++ x :: t') l = true := fun l hl => N2.no l ((mem2 l).mpr hl)
      have bt2 : But d H (upd (upd H' d (.dK (sk (swapK ks1 (-x.lit) cl.lits)))) pc (.lst ((U.map fun q => V.ref q.1) ++ [V.ref b]))) := But.new hpc (bt.trans But.put)
      have S3 := S.but hd bt2
      have hd3 : upd (upd H' d (.dK (sk (swapK ks1 (-x.lit) cl.lits)))) pc (.lst ((U.map fun q => V.ref q.1) ++ [V.ref b])) d = some (.dK (sk (swapK ks1 (-x.lit) cl.lits))) := by rw [upd_ne (Ne.symm pcd), upd_same]
      refine ⟨_, rfl, _, rfl, _, rfl, M, B, st, L, n, cs, p ++ x :: t', level, d, swapK ks1 (-x.lit) cl.lits, lv, rfl, S3, g, hd3, kno2, by have := neg_len g nk2 kno2; omega, fun H3 ph3 sm3 hph3 hf3 => ?_⟩
      have fs := far_step (c := cl) g el hm hp hs
      refine ⟨_, fs, U ++ [(b, cl)], swapK ks1 (-x.lit) cl.lits, swapped xs1 x cl, ph3, rfl, rfl, ?_, hf3, ?_, ?_, sm3 _ _ hd3, nk2, N2, mem2, fun u => ?_, bt2.trans (But.same sm3)⟩
      · rw [List.map_append]
        exact sm3 _ _ upd_same
      · intro z hz
        rcases List.mem_append.mp hz with hz | hz
        · exact UL z hz
        · rw [List.mem_singleton] at hz
          rw [hz]
          exact hb
      · rw [List.length_append, List.length_singleton]
        omega
      · rw [eG u, hu]
        simp
    · refine if_false_of (decide_eq_false (by rw [List.length_map, len]; omega)) ?_
      refine ⟨_, rfl, q H' pc U ks1 xs1 hpc hU UL (by omega) hd2 nk1 N1 hxk1 (fun u => ?_) bt⟩
      rw [eG u, sw.stop xs1 _ (by omega)]
end Kc
set_option Elab.async false
set_option maxRecDepth 100000
set_option maxHeartbeats 2000000
set_option linter.all false
namespace Kc
open PySem PySem.Spec PyProof.Rows L2
open Sm06 (Clause Trail)
variable {P : Program} {w : World} {K : PySem.W.Frag} {mg : Str → Option Value} {base : Heap} {C : Cs}
def spBack (C : Cs) (K : PySem.W.Frag) : Sp := fun vs H Q _ => ∃ M B st L n cs t level p ls, vs = [.ref (SetA.a B), .ref p] ∧ SettAt C H M B st L n t level ∧ Good true n cs t ∧ (∀ x ∈ t, x.level ≤ level) ∧ SqL K H p ((ls : List Int).map V.int) ∧ (∀ l ∈ ls, Sm06.isNot t l = true) ∧ ls.length ≤ 1000 ∧
  ∀ H', Same H H' → Q (.int ((Sm06.backTo level t ls : Nat) : Int)) H'
abbrev st_level_to_go_back_to : Stmt := top 25
abbrev N_level_to_go_back_to : List Str := ["settings", "literals", "levels", "literal", "level"]
theorem sc_level_to_go_back_to : FnScope N_level_to_go_back_to ["settings", "literals"] (defScope st_level_to_go_back_to) := ⟨rfl, rfl, rfl, by decide +kernel, rfl, by decide +kernel, by decide +kernel⟩
theorem ok_level_to_go_back_to {f : Addr} {fd : FuncData} (F : Fun K "level_to_go_back_to" "level_to_go_back_to" st_level_to_go_back_to f fd) (T : Txt K mg C) : FnOk P w K mg base CX0 1 f fd ["settings", "literals"] (spBack C K) := by
  refine F.ok sc_level_to_go_back_to (fun vs H Q E h => ?_) (fun cdv A outer s H vs Q E hr h => ⟨_, (pss_cons (ps_setLc (i := 2) (own := [("literal", 3)]) (g := gName 3) rfl sc_level_to_go_back_to.nd rfl rfl (sw_true rfl rfl rfl (by decide +kernel)) (pi_list (pv 1)) (blkOk_by (own := [("literal", 3)]) (N := N_level_to_go_back_to) (sc := defScope st_level_to_go_back_to) (by decide +kernel)) (fun _ _ _ _ _ => pg_name (i := 3) sc_level_to_go_back_to.nd rfl (Or.inl rfl)) (fun _ _ _ _ _ => by exact pts_nil) (fun _ _ _ _ _ => by exact (pe_ix (ix_listK K) (pe_fldK K (pv 0) rfl) (pe_callB call_abs (by rfl) T.b_abs (by decide +kernel) (pa_cons (pv 3) pa_nil)) (fun _ _ => rfl))))
      (pss_one (ps_ret (pe_callBK (cr_maxD rfl) (by rfl) T.b_max (by decide +kernel) (pa_cons (pe_lc (own := [("level", 4)]) (g := gName 4) rfl sc_level_to_go_back_to.nd (pi_list (pv 2)) (blkOk_by (own := [("level", 4)]) (N := N_level_to_go_back_to) (sc := defScope st_level_to_go_back_to) (by decide +kernel)) (fun _ _ _ _ _ => pg_name (i := 4) sc_level_to_go_back_to.nd rfl (Or.inl rfl)) (fun _ _ _ _ _ => by exact (pts_one (pt_cmpR op_lt (pv 4) (pe_fldK K (pv 0) rfl) (nomark _)))) (fun _ _ _ _ _ => by exact (pv 4))) pa_nil) (pk_cons pe_int pk_nil))))), ?_⟩)
  · obtain ⟨M, B, st, L, n, cs, t, level, p, ls, rfl, _⟩ := h
    rfl
  · obtain ⟨M, B, st, L, n, cs, t, level, p, ls, rfl, S, g, hlev, hp, no, len, q⟩ := h
    obtain ⟨dx, ha⟩ := S.ob
    obtain ⟨vs, hvs, lvs, fvs⟩ := S.le
    have lvl : ∀ l ∈ ls, vs[l.natAbs]? = some ((Sm06.levelOf t l : Nat) : Int) := fun l hl => by
      obtain ⟨x, hx, ex⟩ := isNot_iff.mp (no l hl)
      have e : l.natAbs = x.lit.natAbs := by omega
      rw [levelOf_mem g hx e, e]
      exact fvs x hx
    refine ⟨_, rfl, p, rfl, ⟨_, hp⟩, fun D hD => lc_list (K := K) (a := p) (xs := ls.map V.int) (fun i H' => H' = upd H D (.lst (((ls.take i).map fun l => ((Sm06.levelOf t l : Nat) : Int)).map V.int))) rfl (fun i H' _ e => ?_) ?_ ?_⟩
    · rw [e]
      exact (Same.new hD).seq hp
    · rintro i y H' hi rfl
      obtain ⟨l, hz, rfl⟩ := get_of_map hi
      have hm : l ∈ ls := List.mem_of_getElem? hz
      have tk : ls.take (i + 1) = ls.take i ++ [l] := by rw [List.take_add_one, hz]; rfl
      refine ⟨rfl, _, rfl, B.a, C.se, dx, _, _, rfl, Same.new hD _ _ ha, T.seC, T.se_level_of, seF_level_of, _, rfl, _, rfl, B.le, _, _, _, rfl, rfl, SqL.of (Same.new hD _ _ hvs), at_abs (get_map (lvl l hm)), _, upd_same, ?_, ?_⟩
      · rw [List.length_map, List.length_map, List.length_take]
        exact small1000 (by omega)
      · rw [upd_upd, tk, List.map_append, List.map_append]
        rfl
    · rintro H1 rfl
      rw [List.length_map, List.take_length]
      have ha1 := Same.new (o := .lst ((ls.map fun l => ((Sm06.levelOf t l : Nat) : Int)).map V.int)) hD _ _ ha
      have hD1 : upd H D (.lst ((ls.map fun l => ((Sm06.levelOf t l : Nat) : Int)).map V.int)) D = some (.lst ((ls.map fun l => ((Sm06.levelOf t l : Nat) : Int)).map V.int)) := upd_same
      refine ⟨_, rfl, D, rfl, ⟨_, SqL.of hD1⟩, fun D2 hD2 => lc_list (K := K) (a := D) (xs := (ls.map fun l => ((Sm06.levelOf t l : Nat) : Int)).map V.int) (fun i H' => H' = upd (upd H D (.lst ((ls.map fun l => ((Sm06.levelOf t l : Nat) : Int)).map V.int))) D2 (.lst ((((ls.map fun l => ((Sm06.levelOf t l : Nat) : Int)).take i).filter fun z => decide (z < (level : Int))).map V.int))) rfl (fun i H' _ e => ?_) ?_ ?_⟩
      · rw [e]
        exact SqL.of (Same.new hD2 _ _ hD1)
      · rintro i y H' hi rfl
        obtain ⟨z, hz, rfl⟩ := get_of_map hi
        have tk : (ls.map fun l => ((Sm06.levelOf t l : Nat) : Int)).take (i + 1) = (ls.map fun l => ((Sm06.levelOf t l : Nat) : Int)).take i ++ [z] := by rw [List.take_add_one, hz]; rfl
        refine ⟨rfl, _, rfl, _, rfl, B.a, C.se, dx, _, _, rfl, Same.new hD2 _ _ ha1, T.seC, T.se_level, seF_level, _, _, rfl, rfl, _, rfl, ite_z (fun c => ⟨_, rfl, _, upd_same, ?_, ?_⟩) fun c => ?_⟩
        · rw [List.length_map]
          refine small1000 (Nat.le_trans (List.length_filter_le _ _) ?_)
          rw [List.length_take, List.length_map]
          omega
        · rw [upd_upd, tk, List.filter_append, List.filter_cons, if_pos (decide_eq_true c), List.filter_nil, List.map_append]
          rfl
        · rw [tk, List.filter_append, List.filter_cons, if_neg (by simpa using c), List.filter_nil, List.append_nil]
      · rintro H2 rfl
        rw [List.length_map, List.take_length]
        refine ⟨D2, _, 0, rfl, rfl, SqL.of upd_same, fun m m0 m1 => ?_⟩
        have e : m = ((Sm06.backTo level t ls : Nat) : Int) := by
          have hle : ∀ l ∈ ls, Sm06.levelOf t l ≤ level := fun l hl => by
            obtain ⟨x, hx, ex⟩ := isNot_iff.mp (no l hl)
            rw [levelOf_mem g hx (by omega)]
            exact hlev x hx
          have memz : ∀ l ∈ ls, Sm06.levelOf t l < level → ((Sm06.levelOf t l : Nat) : Int) ∈ (ls.map fun l => ((Sm06.levelOf t l : Nat) : Int)).filter fun z => decide (z < (level : Int)) := fun l hl lt => List.mem_filter.mpr ⟨List.mem_map_of_mem hl, decide_eq_true (by omega)⟩
          by_cases c : ((ls.map fun l => ((Sm06.levelOf t l : Nat) : Int)).filter fun z => decide (z < (level : Int))) = []
          · rw [m0 c, backTo_is (m := 0) hle (fun l hl lt => by have := memz l hl lt; rw [c] at this; cases this) (Or.inl rfl)]
            rfl
          · obtain ⟨h1, h2⟩ := m1 c
            rw [List.mem_filter] at h1
            obtain ⟨l, hl, el⟩ := List.mem_map.mp h1.1
            have lt := of_decide_eq_true h1.2
            rw [← el, backTo_is (m := Sm06.levelOf t l) hle (fun l' hl' lt' => by have := h2 _ (memz l' hl' lt'); omega) (Or.inr ⟨l, hl, by omega, rfl⟩)]
        rw [e]
        exact q _ ((Same.new hD).trans (Same.new hD2))
end Kc
set_option Elab.async false
set_option maxRecDepth 100000
set_option maxHeartbeats 2000000
set_option linter.all false
namespace Kc
open PySem PySem.Spec PyProof.Rows L2
open Sm06 (Clause Trail)
variable {P : Program} {w : World} {K : PySem.W.Frag} {mg : Str → Option Value} {base : Heap} {C : Cs}
def spIsL (C : Cs) : Sp := fun vs H Q _ => ∃ M b c, vs = [.ref b] ∧ ClauseAt C H M b c ∧ Q (.bl c.learnt) H
abbrev st_Clause_is_learnt : Stmt := inClass (top 12) 1
abbrev N_Clause_is_learnt : List Str := ["self"]
theorem sc_Clause_is_learnt : FnScope N_Clause_is_learnt ["self"] (defScope st_Clause_is_learnt) := ⟨rfl, rfl, rfl, by decide +kernel, rfl, by decide +kernel, by decide +kernel⟩
theorem ok_is_learnt {f : Addr} {fd : FuncData} (F : Fun K "is_learnt" "Clause.is_learnt" st_Clause_is_learnt f fd) (T : Txt K mg C) : FnOk P w K mg base CX0 1 f fd ["self"] (spIsL C) := by
  refine F.ok sc_Clause_is_learnt (fun vs H Q E h => ?_) (fun cdv A outer s H vs Q E hr h => ⟨_, (pss_one (ps_ret (pe_cmpR op_gt (pe_callB call_len_seq (by rfl) T.b_len PySem.boot_len (pa_cons (pe_fld (pv 0) rfl) pa_nil)) pe_int (nomark _)))), ?_⟩)
  · obtain ⟨M, b, c, rfl, _⟩ := h
    rfl
  · obtain ⟨M, b, c, rfl, ⟨dx, li, co, h1, h2, n1, n2, h3, n3, el, cl⟩, q⟩ := h
    refine ⟨_, rfl, b, C.cl, dx, _, _, rfl, h1, T.clC, T.cl_came_of, clF_came_of, co, _, rfl, Or.inl (SqL.of h3), _, _, rfl, rfl, ?_⟩
    have e : decide ((0 : Int) < ((c.came.map fun x => V.int (x : Nat)).length : Nat)) = c.learnt := by
      rw [List.length_map, el]
      exact decide_eq_decide.mpr (by omega)
    show Q (.bl (decide ((0 : Int) < ((c.came.map fun x => V.int (x : Nat)).length : Nat)))) H
    rw [e]
    exact q
/-- a list of clauses that are picked -/
def spPick (C : Cs) (pick : Clause → Bool) : Sp := fun vs H Q _ => ∃ M A L s, vs = [.ref (StoA.a A)] ∧ StoreAt C H M A L s ∧ L.length ≤ 100000 ∧
  ∀ H' p, Same H H' → H p = none → H' p = some (.lst ((L.filter fun q => pick q.2).map fun q => V.ref q.1)) → Q (.ref p) H'
theorem small5 {n : Nat} (h : n ≤ 100000) : n < sizeLine := Nat.lt_of_le_of_lt h (by decide)
abbrev st_given_clauses : Stmt := top 15
abbrev N_given_clauses : List Str := ["store", "clause"]
theorem sc_given_clauses : FnScope N_given_clauses ["store"] (defScope st_given_clauses) := ⟨rfl, rfl, rfl, by decide +kernel, rfl, by decide +kernel, by decide +kernel⟩
theorem ok_given_clauses {f : Addr} {fd : FuncData} (F : Fun K "given_clauses" "given_clauses" st_given_clauses f fd) (T : Txt K mg C) (mt_is_learnt : Mtd P w K mg base 1 C.cl "is_learnt" ["self"] (spIsL C)) : FnOk P w K mg base CX0 2 f fd ["store"] (spPick C fun c => !c.learnt) := by
  refine F.ok sc_given_clauses (fun vs H Q E h => ?_) (fun cdv A outer s H vs Q E hr h => ⟨_, (pss_one (ps_ret (pe_lc (own := [("clause", 1)]) (g := gName 1) rfl sc_given_clauses.nd (pi_list (pe_fld (pv 0) rfl)) (blkOk_by (own := [("clause", 1)]) (N := N_given_clauses) (sc := defScope st_given_clauses) (by decide +kernel)) (fun _ _ _ _ _ => pg_name (i := 1) sc_given_clauses.nd rfl (Or.inl rfl)) (fun _ _ _ _ _ => by exact (pts_one (pt_not (pt_val (pe_mtd0 mt_is_learnt (hr.mono (by decide)) (pv 1)))))) (fun _ _ _ _ _ => by exact (pv 1))))), ?_⟩)
  · obtain ⟨M, A, L, s, rfl, _⟩ := h
    rfl
  · obtain ⟨M, A, L, s, rfl, R, ll, q⟩ := h
    obtain ⟨dy, hb⟩ := R.ob
    refine ⟨_, rfl, A.a, C.st, dy, _, _, rfl, hb, T.stC, T.st_clauses, stF_clauses, A.cl, rfl, ⟨_, SqL.of R.cl⟩, fun D hD => lc_list (K := K) (a := A.cl) (xs := L.map fun p => V.ref p.1) (fun i H' => H' = upd H D (.lst (((L.take i).filter fun q => !q.2.learnt).map fun q => V.ref q.1))) rfl (fun i H' _ e => ?_) ?_ ?_⟩
    · rw [e]
      exact SqL.of (Same.new hD _ _ R.cl)
    · rintro i y H' hi rfl
      obtain ⟨p, hz, rfl⟩ := get_of_map hi
      have hm : p ∈ L := List.mem_of_getElem? hz
      have tk : L.take (i + 1) = L.take i ++ [p] := by rw [List.take_add_one, hz]; rfl
      obtain ⟨dx, li, co, h1, _⟩ := R.each p hm
      refine ⟨rfl, _, rfl, p.1, dx, _, rfl, Same.new hD _ _ h1, clF_none (by decide +kernel), M, p.1, p.2, rfl, (R.each p hm).keep (Keep.same (Same.new hD)), _, rfl, ?_⟩
      by_cases c : p.2.learnt = true
      · refine if_false_of (by rw [c]; rfl) ?_
        rw [tk, List.filter_append, List.filter_cons, if_neg (by rw [c]; decide), List.filter_nil, List.append_nil]
      · have c' : p.2.learnt = false := Bool.eq_false_iff.mpr c
        refine if_true_of (by rw [c']; rfl) ⟨_, rfl, _, upd_same, ?_, ?_⟩
        · rw [List.length_map]
          exact small5 (Nat.le_trans (List.length_filter_le _ _) (by rw [List.length_take]; omega))
        · rw [upd_upd, tk, List.filter_append, List.filter_cons, if_pos (by rw [c']; decide), List.filter_nil, List.map_append]
          rfl
    · rintro H' rfl
      rw [List.length_map, List.take_length]
      exact q _ D (Same.new hD) hD upd_same
abbrev st_learnt_clauses : Stmt := top 16
abbrev N_learnt_clauses : List Str := ["store", "clause"]
theorem sc_learnt_clauses : FnScope N_learnt_clauses ["store"] (defScope st_learnt_clauses) := ⟨rfl, rfl, rfl, by decide +kernel, rfl, by decide +kernel, by decide +kernel⟩
theorem ok_learnt_clauses {f : Addr} {fd : FuncData} (F : Fun K "learnt_clauses" "learnt_clauses" st_learnt_clauses f fd) (T : Txt K mg C) (mt_is_learnt : Mtd P w K mg base 1 C.cl "is_learnt" ["self"] (spIsL C)) : FnOk P w K mg base CX0 2 f fd ["store"] (spPick C fun c => c.learnt) := by
  refine F.ok sc_learnt_clauses (fun vs H Q E h => ?_) (fun cdv A outer s H vs Q E hr h => ⟨_, (pss_one (ps_ret (pe_lc (own := [("clause", 1)]) (g := gName 1) rfl sc_learnt_clauses.nd (pi_list (pe_fld (pv 0) rfl)) (blkOk_by (own := [("clause", 1)]) (N := N_learnt_clauses) (sc := defScope st_learnt_clauses) (by decide +kernel)) (fun _ _ _ _ _ => pg_name (i := 1) sc_learnt_clauses.nd rfl (Or.inl rfl)) (fun _ _ _ _ _ => by exact (pts_one (pt_val (pe_mtd0 mt_is_learnt (hr.mono (by decide)) (pv 1))))) (fun _ _ _ _ _ => by exact (pv 1))))), ?_⟩)
  · obtain ⟨M, A, L, s, rfl, _⟩ := h
    rfl
  · obtain ⟨M, A, L, s, rfl, R, ll, q⟩ := h
    obtain ⟨dy, hb⟩ := R.ob
    refine ⟨_, rfl, A.a, C.st, dy, _, _, rfl, hb, T.stC, T.st_clauses, stF_clauses, A.cl, rfl, ⟨_, SqL.of R.cl⟩, fun D hD => lc_list (K := K) (a := A.cl) (xs := L.map fun p => V.ref p.1) (fun i H' => H' = upd H D (.lst (((L.take i).filter fun q => q.2.learnt).map fun q => V.ref q.1))) rfl (fun i H' _ e => ?_) ?_ ?_⟩
    · rw [e]
      exact SqL.of (Same.new hD _ _ R.cl)
    · rintro i y H' hi rfl
      obtain ⟨p, hz, rfl⟩ := get_of_map hi
      have hm : p ∈ L := List.mem_of_getElem? hz
      have tk : L.take (i + 1) = L.take i ++ [p] := by rw [List.take_add_one, hz]; rfl
      obtain ⟨dx, li, co, h1, _⟩ := R.each p hm
      refine ⟨rfl, _, rfl, p.1, dx, _, rfl, Same.new hD _ _ h1, clF_none (by decide +kernel), M, p.1, p.2, rfl, (R.each p hm).keep (Keep.same (Same.new hD)), _, rfl, ?_⟩
      by_cases c : p.2.learnt = true
      · refine if_true_of c ⟨_, rfl, _, upd_same, ?_, ?_⟩
        · rw [List.length_map]
          exact small5 (Nat.le_trans (List.length_filter_le _ _) (by rw [List.length_take]; omega))
        · rw [upd_upd, tk, List.filter_append, List.filter_cons, if_pos c, List.filter_nil, List.map_append]
          rfl
      · refine if_false_of (Bool.eq_false_iff.mpr c) ?_
        rw [tk, List.filter_append, List.filter_cons, if_neg c, List.filter_nil, List.append_nil]
    · rintro H' rfl
      rw [List.length_map, List.take_length]
      exact q _ D (Same.new hD) hD upd_same
def spDrop (C : Cs) : Sp := fun vs H Q _ => ∃ M A L s, ∃ h : Nat, vs = [.ref (StoA.a A), .int h] ∧ StoreAt C H M A L s ∧ L.length ≤ 100000 ∧
  ∀ H' p dx, H p = none → H' p = some (.lst ((L.filter fun q => decide (q.2.height ≤ h)).map fun q => V.ref q.1)) → H' A.a = some (.ins C.st dx (stF s.n p s.marks s.next A.od A.la)) → But A.a H H' → Q .non H'
abbrev st_drop_above : Stmt := top 17
abbrev N_drop_above : List Str := ["store", "height", "clause"]
theorem sc_drop_above : FnScope N_drop_above ["store", "height"] (defScope st_drop_above) := ⟨rfl, rfl, rfl, by decide +kernel, rfl, by decide +kernel, by decide +kernel⟩
theorem ok_drop_above {f : Addr} {fd : FuncData} (F : Fun K "drop_above" "drop_above" st_drop_above f fd) (T : Txt K mg C) : FnOk P w K mg base CX0 1 f fd ["store", "height"] (spDrop C) := by
  refine F.ok sc_drop_above (fun vs H Q E h => ?_) (fun cdv A outer s H vs Q E hr h => ⟨_, (pss_one (ps_fld (pv 0) (pe_lc (own := [("clause", 2)]) (g := gName 2) rfl sc_drop_above.nd (pi_list (pe_fld (pv 0) rfl)) (blkOk_by (own := [("clause", 2)]) (N := N_drop_above) (sc := defScope st_drop_above) (by decide +kernel)) (fun _ _ _ _ _ => pg_name (i := 2) sc_drop_above.nd rfl (Or.inl rfl)) (fun _ _ _ _ _ => by exact (pts_one (pt_cmpR op_le (pe_fldK K (pv 2) rfl) (pv 1) (nomark _)))) (fun _ _ _ _ _ => by exact (pv 2))) rfl)), ?_⟩)
  · obtain ⟨M, A, L, s, h, rfl, _⟩ := h
    rfl
  · obtain ⟨M, A, L, s, h, rfl, R, ll, q⟩ := h
    obtain ⟨dy, hb⟩ := R.ob
    refine ⟨_, rfl, A.a, C.st, dy, _, _, rfl, hb, T.stC, T.st_clauses, stF_clauses, A.cl, rfl, ⟨_, SqL.of R.cl⟩, fun D hD => lc_list (K := K) (a := A.cl) (xs := L.map fun p => V.ref p.1) (fun i H' => H' = upd H D (.lst (((L.take i).filter fun q => decide (q.2.height ≤ h)).map fun q => V.ref q.1))) rfl (fun i H' _ e => ?_) ?_ ?_⟩
    · rw [e]
      exact SqL.of (Same.new hD _ _ R.cl)
    · rintro i y H' hi rfl
      obtain ⟨p, hz, rfl⟩ := get_of_map hi
      have hm : p ∈ L := List.mem_of_getElem? hz
      have tk : L.take (i + 1) = L.take i ++ [p] := by rw [List.take_add_one, hz]; rfl
      obtain ⟨dx, li, co, h1, _⟩ := R.each p hm
      refine ⟨rfl, _, rfl, p.1, C.cl, dx, _, _, rfl, Same.new hD _ _ h1, T.clC, T.cl_height, clF_height, _, rfl, _, _, rfl, rfl, _, rfl, ite_z (fun c => ⟨_, rfl, _, upd_same, ?_, ?_⟩) fun c => ?_⟩
      · rw [List.length_map]
        exact small5 (Nat.le_trans (List.length_filter_le _ _) (by rw [List.length_take]; omega))
      · rw [upd_upd, tk, List.filter_append, List.filter_cons, if_pos (decide_eq_true (by omega)), List.filter_nil, List.map_append]
        rfl
      · rw [tk, List.filter_append, List.filter_cons, if_neg (by simp; omega), List.filter_nil, List.append_nil]
    · rintro H' rfl
      rw [List.length_map, List.take_length]
      refine ⟨_, rfl, A.a, C.st, dy, _, rfl, Same.new hD _ _ hb, T.stC, T.st_clauses, (by show 6 < 1000; decide), ?_⟩
      have ne : D ≠ A.a := fun e => by rw [e, hb] at hD; cases hD
      refine q _ D dy hD (by rw [upd_ne ne, upd_same]) (by rw [upd_same, stF_put_clauses]) fun b o e nb => ?_
      rw [upd_ne nb]
      exact Same.new hD _ _ e
def spDropL (C : Cs) : Sp := fun vs H Q _ => ∃ M A L s, ∃ h : Nat, vs = [.ref (StoA.a A), .int h] ∧ StoreAt C H M A L s ∧ L.length ≤ 100000 ∧
  ∀ H' p dx, H p = none → H' p = some (.lst ((L.filter fun q => !q.2.learnt || decide (q.2.lits.length ≤ h)).map fun q => V.ref q.1)) → H' A.a = some (.ins C.st dx (stF s.n p s.marks s.next A.od A.la)) → But A.a H H' → Q .non H'
abbrev st_drop_learnt_longer_than : Stmt := top 18
abbrev N_drop_learnt_longer_than : List Str := ["store", "length", "clause"]
theorem sc_drop_learnt_longer_than : FnScope N_drop_learnt_longer_than ["store", "length"] (defScope st_drop_learnt_longer_than) := ⟨rfl, rfl, rfl, by decide +kernel, rfl, by decide +kernel, by decide +kernel⟩
theorem ok_drop_learnt_longer_than {f : Addr} {fd : FuncData} (F : Fun K "drop_learnt_longer_than" "drop_learnt_longer_than" st_drop_learnt_longer_than f fd) (T : Txt K mg C) (mt_is_learnt : Mtd P w K mg base 1 C.cl "is_learnt" ["self"] (spIsL C)) : FnOk P w K mg base CX0 2 f fd ["store", "length"] (spDropL C) := by
  refine F.ok sc_drop_learnt_longer_than (fun vs H Q E h => ?_) (fun cdv A outer s H vs Q E hr h => ⟨_, (pss_one (ps_fld (pv 0) (pe_lc (own := [("clause", 2)]) (g := gName 2) rfl sc_drop_learnt_longer_than.nd (pi_list (pe_fld (pv 0) rfl)) (blkOk_by (own := [("clause", 2)]) (N := N_drop_learnt_longer_than) (sc := defScope st_drop_learnt_longer_than) (by decide +kernel)) (fun _ _ _ _ _ => pg_name (i := 2) sc_drop_learnt_longer_than.nd rfl (Or.inl rfl)) (fun _ _ _ _ _ => by exact (pts_one (PW.pt (pw_or (pt_not (pt_val (pe_mtd0 mt_is_learnt (hr.mono (by decide)) (pv 2)))) (pw_or1 (pt_cmpR op_le (pe_callB (call_len_seqK K) (by rfl) T.b_len PySem.boot_len (pa_cons (pe_fldK K (pv 2) rfl) pa_nil)) (pv 1) (nomark _))))))) (fun _ _ _ _ _ => by exact (pv 2))) rfl)), ?_⟩)
  · obtain ⟨M, A, L, s, h, rfl, _⟩ := h
    rfl
  · obtain ⟨M, A, L, s, h, rfl, R, ll, q⟩ := h
    obtain ⟨dy, hb⟩ := R.ob
    refine ⟨_, rfl, A.a, C.st, dy, _, _, rfl, hb, T.stC, T.st_clauses, stF_clauses, A.cl, rfl, ⟨_, SqL.of R.cl⟩, fun D hD => lc_list (K := K) (a := A.cl) (xs := L.map fun p => V.ref p.1) (fun i H' => H' = upd H D (.lst (((L.take i).filter fun q => !q.2.learnt || decide (q.2.lits.length ≤ h)).map fun q => V.ref q.1))) rfl (fun i H' _ e => ?_) ?_ ?_⟩
    · rw [e]
      exact SqL.of (Same.new hD _ _ R.cl)
    · rintro i y H' hi rfl
      obtain ⟨p, hz, rfl⟩ := get_of_map hi
      have hm : p ∈ L := List.mem_of_getElem? hz
      have tk : L.take (i + 1) = L.take i ++ [p] := by rw [List.take_add_one, hz]; rfl
      obtain ⟨dx, li, co, h1, h2, _⟩ := R.each p hm
      have len : (((L.take i).filter fun q => !q.2.learnt || decide (q.2.lits.length ≤ h)).map fun q => V.ref q.1).length < sizeLine := by
        rw [List.length_map]
        exact small5 (Nat.le_trans (List.length_filter_le _ _) (by rw [List.length_take]; omega))
      have yes : (!p.2.learnt || decide (p.2.lits.length ≤ h)) = true → upd (upd H D (.lst (((L.take i).filter fun q => !q.2.learnt || decide (q.2.lits.length ≤ h)).map fun q => V.ref q.1))) D (.lst ((((L.take i).filter fun q => !q.2.learnt || decide (q.2.lits.length ≤ h)).map fun q => V.ref q.1) ++ [.ref p.1])) = upd H D (.lst (((L.take (i + 1)).filter fun q => !q.2.learnt || decide (q.2.lits.length ≤ h)).map fun q => V.ref q.1)) := fun c => by
        rw [upd_upd, tk, List.filter_append, List.filter_cons, if_pos c, List.filter_nil, List.map_append]
        rfl
      refine ⟨rfl, _, rfl, p.1, dx, _, rfl, Same.new hD _ _ h1, clF_none (by decide +kernel), M, p.1, p.2, rfl, (R.each p hm).keep (Keep.same (Same.new hD)), _, rfl, ?_⟩
      cases c : p.2.learnt with
      | false => exact if_true_of rfl (if_true_of rfl ⟨_, rfl, _, upd_same, len, yes (by rw [c]; rfl)⟩)
      | true =>
        refine if_false_of rfl ⟨_, rfl, p.1, C.cl, dx, _, _, rfl, Same.new hD _ _ h1, T.clC, T.cl_literals, clF_literals, li, _, rfl, Or.inl (SqL.of (Same.new hD _ _ h2)), _, rfl, _, _, rfl, rfl, _, rfl, ite_z (fun c2 => ?_) fun c2 => ?_⟩
        · rw [List.length_map] at c2
          exact ⟨_, rfl, _, upd_same, len, yes (by rw [decide_eq_true (show p.2.lits.length ≤ h by omega), Bool.or_true])⟩
        · rw [List.length_map] at c2
          rw [tk, List.filter_append, List.filter_cons, if_neg (by rw [c, decide_eq_false (show ¬ p.2.lits.length ≤ h by omega)]; decide), List.filter_nil, List.append_nil]
    · rintro H' rfl
      rw [List.length_map, List.take_length]
      refine ⟨_, rfl, A.a, C.st, dy, _, rfl, Same.new hD _ _ hb, T.stC, T.st_clauses, (by show 6 < 1000; decide), ?_⟩
      have ne : D ≠ A.a := fun e => by rw [e, hb] at hD; cases hD
      refine q _ D dy hD (by rw [upd_ne ne, upd_same]) (by rw [upd_same, stF_put_clauses]) fun b o e nb => ?_
      rw [upd_ne nb]
      exact Same.new hD _ _ e
end Kc
set_option Elab.async false
set_option maxRecDepth 100000
set_option maxHeartbeats 2000000
set_option linter.all false
namespace Kc
open PySem PySem.Spec PyProof.Rows L2
open Sm06 (Clause Trail)
variable {P : Program} {w : World} {K : PySem.W.Frag} {mg : Str → Option Value} {base : Heap} {C : Cs}
def metL (ks : List Int) (ls : List Int) : List Int := ls.foldl (fun ks l => addK ks (l.natAbs : Nat)) ks
def metU (U : List (Addr × Clause)) : List Int := U.foldl (fun ks q => metL ks q.2.lits) []
theorem metL_mem {z : Int} : ∀ {ls ks : List Int}, z ∈ metL ks ls ↔ z ∈ ks ∨ ∃ l ∈ ls, z = (l.natAbs : Nat)
  | [], ks => by simp [metL]
  | x :: ls, ks => by
    show z ∈ metL (addK ks (x.natAbs : Nat)) ls ↔ _
    rw [metL_mem (ls := ls), mem_addK]
    simp only [List.mem_cons, exists_eq_or_imp]
    constructor
    · rintro ((h | h) | h)
      · exact Or.inl h
      · exact Or.inr (Or.inl h)
      · exact Or.inr (Or.inr h)
    · rintro (h | h | h)
      · exact Or.inl (Or.inl h)
      · exact Or.inl (Or.inr h)
      · exact Or.inr h
theorem metL_len : ∀ {ls ks : List Int}, (metL ks ls).length ≤ ks.length + ls.length
  | [], ks => Nat.le_refl _
  | x :: ls, ks => by
    show (metL (addK ks (x.natAbs : Nat)) ls).length ≤ _
    refine Nat.le_trans metL_len ?_
    have := len_addK (ks := ks) (k := (x.natAbs : Nat))
    rw [List.length_cons]
    omega
theorem metU_mem {z : Int} : ∀ {U : List (Addr × Clause)} {ks : List Int}, z ∈ U.foldl (fun ks q => metL ks q.2.lits) ks ↔ z ∈ ks ∨ ∃ q ∈ U, ∃ l ∈ q.2.lits, z = (l.natAbs : Nat)
  | [], ks => by simp
  | q :: U, ks => by
    rw [List.foldl_cons, metU_mem (U := U), metL_mem]
    simp only [List.mem_cons, exists_eq_or_imp]
    constructor
    · rintro ((h | h) | h)
      · exact Or.inl h
      · exact Or.inr (Or.inl h)
      · exact Or.inr (Or.inr h)
    · rintro (h | h | h)
      · exact Or.inl (Or.inl h)
      · exact Or.inl (Or.inr h)
      · exact Or.inr h
theorem metU_len {n : Nat} : ∀ {U : List (Addr × Clause)} {ks : List Int}, (∀ q ∈ U, q.2.lits.length ≤ n) → (U.foldl (fun ks q => metL ks q.2.lits) ks).length ≤ ks.length + n * U.length
  | [], ks, _ => Nat.le_add_right _ _
  | q :: U, ks, h => by
    rw [List.foldl_cons]
    refine Nat.le_trans (metU_len (U := U) fun r hr => h r (List.mem_cons_of_mem _ hr)) ?_
    have h1 := metL_len (ls := q.2.lits) (ks := ks)
    have h2 := h q List.mem_cons_self
    rw [List.length_cons, Nat.mul_add]
    omega
/-- the variables of the clauses that were used -/
def metN (cs : List Clause) : List Nat := cs.flatMap fun c => c.lits.map Int.natAbs
theorem met_iff {U : List (Addr × Clause)} {v : Nat} : decide (((v : Nat) : Int) ∈ metU U) = (metN (U.map (·.2))).contains v := by
  rw [Bool.eq_iff_iff, decide_eq_true_iff, List.contains_iff_mem]
  unfold metU metN
  rw [metU_mem, List.mem_flatMap]
  simp only [List.not_mem_nil, false_or, List.mem_map]
  constructor
  · rintro ⟨q, hq, l, hl, e⟩
    exact ⟨q.2, ⟨q, hq, rfl⟩, l, hl, by omega⟩
  · rintro ⟨c, ⟨q, hq, rfl⟩, l, hl, e⟩
    exact ⟨q, hq, l, hl, by omega⟩
def spFront (C : Cs) (K : PySem.W.Frag) : Sp := fun vs H Q _ => ∃ M A L s p U, vs = [.ref (StoA.a A), .ref p] ∧ StoreAt C H M A L s ∧ s.order.length ≤ 12 ∧ SqL K H p ((U : List (Addr × Clause)).map fun q => V.ref q.1) ∧ (∀ q ∈ U, ClauseAt C H M q.1 q.2 ∧ q.2.lits.length ≤ 12) ∧ U.length ≤ 1000 ∧
  ∀ H' od dx, H od = none → H' od = some (.lst ((s.order.filter (metN (U.map (·.2))).contains ++ s.order.filter fun v => !(metN (U.map (·.2))).contains v).map fun v => V.int (v : Nat))) → H' A.a = some (.ins C.st dx (stF s.n A.cl s.marks s.next od A.la)) → But A.a H H' → Q .non H'
abbrev st_bring_to_front : Stmt := top 19
abbrev N_bring_to_front : List Str := ["store", "clauses", "told", "clause", "front", "literal", "variable"]
theorem sc_bring_to_front : FnScope N_bring_to_front ["store", "clauses"] (defScope st_bring_to_front) := ⟨rfl, rfl, rfl, by decide +kernel, rfl, by decide +kernel, by decide +kernel⟩
theorem ok_bring_to_front {f : Addr} {fd : FuncData} (F : Fun K "bring_to_front" "bring_to_front" st_bring_to_front f fd) (T : Txt K mg C) : FnOk P w K mg base CX0 1 f fd ["store", "clauses"] (spFront C K) := by
  refine F.ok sc_bring_to_front (fun vs H Q E h => ?_) (fun cdv A outer s H vs Q E hr h => ⟨_, (pss_cons (ps_set (i := 2) sc_bring_to_front.nd rfl (Or.inr rfl) pe_dnewK)
      (pss_cons (ps_for PassesOwn.never rfl (pi_list (pv 1)) (pg_name (i := 3) sc_bring_to_front.nd rfl (Or.inl rfl)) (pss_one (ps_for PassesOwn.never rfl (pi_list (pe_fld (pv 3) rfl)) (pg_name (i := 5) sc_bring_to_front.nd rfl (Or.inl rfl)) (pss_one (ps_dput (hu_of hr) (pv 2) (pe_callB call_abs (by rfl) T.b_abs (by decide +kernel) (pa_cons (pv 5) pa_nil)) pe_bl rfl)))))
      (pss_cons (ps_setLc (i := 4) (own := [("variable", 6)]) (g := gName 6) rfl sc_bring_to_front.nd rfl rfl (sw_true rfl rfl rfl (by decide +kernel)) (pi_list (pe_fld (pv 0) rfl)) (blkOk_by (own := [("variable", 6)]) (N := N_bring_to_front) (sc := defScope st_bring_to_front) (by decide +kernel)) (fun _ _ _ _ _ => pg_name (i := 6) sc_bring_to_front.nd rfl (Or.inl rfl)) (fun _ _ _ _ _ => by exact (pts_one (pt_cmp (pc_din (hu_of hr) (pv 6) (pv 2))))) (fun _ _ _ _ _ => by exact (pv 6)))
      (pss_one (ps_fld (pv 0) (pe_op op_cat (pv 4) (pe_lc (own := [("variable", 6)]) (g := gName 6) rfl sc_bring_to_front.nd (pi_list (pe_fld (pv 0) rfl)) (blkOk_by (own := [("variable", 6)]) (N := N_bring_to_front) (sc := defScope st_bring_to_front) (by decide +kernel)) (fun _ _ _ _ _ => pg_name (i := 6) sc_bring_to_front.nd rfl (Or.inl rfl)) (fun _ _ _ _ _ => by exact (pts_one (pt_cmp (pc_dnotin (hu_of hr) (pv 6) (pv 2))))) (fun _ _ _ _ _ => by exact (pv 6)))) rfl))))), ?_⟩)
  · obtain ⟨M, A, L, s, p, U, rfl, _⟩ := h
    rfl
  · obtain ⟨M, A, L, s, p, U, rfl, R, ok, hp, hU, ul, q⟩ := h
    obtain ⟨dy, hb⟩ := R.ob
    intro d hd
    have sm : ∀ o, Same H (upd H d o) := fun o => Same.new hd
    refine ⟨_, rfl, p, rfl, ⟨_, (sm _).seq hp⟩, for_list (K := K) (a := p) (xs := U.map fun q => V.ref q.1) (fun i σ H' => ∃ v3 v5 : Option V, σ = [some (.ref A.a), some (.ref p), some (.ref d), v3, none, v5, none] ∧ H' = upd H d (.dK (sk (metU (U.take i))))) ⟨none, none, rfl, rfl⟩ (fun i σ H' _ ⟨_, _, _, e⟩ => by rw [e]; exact (sm _).seq hp) ?_ ?_⟩
    · rintro i y σ H' hi ⟨v3, v5, rfl, rfl⟩
      obtain ⟨u, hz, rfl⟩ := get_of_map hi
      have hm : u ∈ U := List.mem_of_getElem? hz
      have tk : metU (U.take (i + 1)) = metL (metU (U.take i)) u.2.lits := by
        unfold metU
        rw [List.take_add_one, hz, List.foldl_append]
        rfl
      obtain ⟨⟨dx, li, co, h1, h2, _⟩, l12⟩ := hU u hm
      refine ⟨_, rfl, u.1, C.cl, dx, _, _, rfl, sm _ _ _ h1, T.clC, T.cl_literals, clF_literals, li, rfl, ⟨_, SqL.of (sm _ _ _ h2)⟩, for_list (K := K) (a := li) (xs := u.2.lits.map V.int) (fun j σ H' => ∃ v5 : Option V, σ = [some (.ref A.a), some (.ref p), some (.ref d), some (.ref u.1), none, v5, none] ∧ H' = upd H d (.dK (sk (metL (metU (U.take i)) (u.2.lits.take j))))) ⟨v5, rfl, rfl⟩ (fun i σ H' _ ⟨_, _, e⟩ => by rw [e]; exact SqL.of (sm _ _ _ h2)) ?_ ?_⟩
      · rintro j z σ H' hj ⟨v5, rfl, rfl⟩
        obtain ⟨l, hl, rfl⟩ := get_of_map hj
        have tl : metL (metU (U.take i)) (u.2.lits.take (j + 1)) = addK (metL (metU (U.take i)) (u.2.lits.take j)) (l.natAbs : Nat) := by
          unfold metL
          rw [List.take_add_one, hl, List.foldl_append]
          rfl
        refine ⟨_, rfl, _, rfl, _, rfl, d, upd (upd H d (.dK (sk (metL (metU (U.take i)) (u.2.lits.take j))))) d (.dK (sk (addK (metL (metU (U.take i)) (u.2.lits.take j)) (l.natAbs : Nat)))), rfl, ?_, ?_⟩
        · rw [abs_ix, ← sk_put]
          refine DPut.k (k := Sum.inl ((l.natAbs : Nat) : Int)) upd_same ?_
          rw [sk_len]
          refine small5 (Nat.le_trans metL_len ?_)
          have a1 := metU_len (n := 12) (U := U.take i) (ks := []) fun r hr => (hU r (List.mem_of_mem_take hr)).2
          have a2 : (U.take i).length ≤ 1000 := by rw [List.length_take]; omega
          have a3 : (u.2.lits.take j).length ≤ 12 := by rw [List.length_take]; omega
          unfold metU
          simp only [List.length_nil] at a1
          omega
        · refine ⟨some (.int l), rfl, ?_⟩
          rw [upd_upd, tl]
      · rintro σ H' ⟨v5, rfl, rfl⟩
        rw [List.length_map, List.take_length]
        exact ⟨some (.ref u.1), v5, rfl, by rw [tk]⟩
    · rintro σ H' ⟨v3, v5, rfl, rfl⟩
      rw [List.length_map, List.take_length]
      have hdd : upd H d (.dK (sk (metU U))) d = some (.dK (sk (metU U))) := upd_same
      have ol : s.order.length ≤ 12 := ok
      have dG : ∀ {H1 : Hp} (v : Nat), H1 d = some (.dK (sk (metU U))) → DGet H1 d (.int (v : Nat)) (valV (sk (metU U)) (Sum.inl ((v : Nat) : Int))) := fun v e => DGet.k (k := Sum.inl ((v : Nat) : Int)) e
      refine ⟨_, rfl, A.a, C.st, dy, _, _, rfl, sm _ _ _ hb, T.stC, T.st_order, stF_order, A.od, rfl, ⟨_, SqL.of (sm _ _ _ R.od)⟩, fun D hD => lc_list (K := K) (a := A.od) (xs := s.order.map fun v => V.int (v : Nat)) (fun i H' => H' = upd (upd H d (.dK (sk (metU U)))) D (.lst (((s.order.take i).filter (metN (U.map (·.2))).contains).map fun v => V.int (v : Nat)))) rfl (fun i H' _ e => ?_) ?_ ?_⟩
      · rw [e]
        exact SqL.of (Same.new hD _ _ (sm _ _ _ R.od))
      · rintro i y H' hi rfl
        obtain ⟨v, hz, rfl⟩ := get_of_map hi
        have tk : s.order.take (i + 1) = s.order.take i ++ [v] := by rw [List.take_add_one, hz]; rfl
        refine ⟨rfl, _, rfl, _, rfl, d, _, rfl, dG v (Same.new hD _ _ hdd), _, rfl, ?_⟩
        rw [sk_val, met_iff]
        by_cases c : (metN (U.map (·.2))).contains v = true
        · refine if_true_of c ⟨_, rfl, _, upd_same, ?_, ?_⟩
          · rw [List.length_map]
            exact small5 (Nat.le_trans (List.length_filter_le _ _) (by rw [List.length_take]; omega))
          · rw [upd_upd, tk, List.filter_append, List.filter_cons, if_pos c, List.filter_nil, List.map_append]
            rfl
        · refine if_false_of (Bool.eq_false_iff.mpr c) ?_
          rw [tk, List.filter_append, List.filter_cons, if_neg c, List.filter_nil, List.append_nil]
      · rintro H1 rfl
        rw [List.length_map, List.take_length]
        have sm1 : Same H (upd (upd H d (.dK (sk (metU U)))) D (.lst ((s.order.filter (metN (U.map (·.2))).contains).map fun v => V.int (v : Nat)))) := (sm _).trans (Same.new hD)
        have hd1 := Same.new (o := .lst ((s.order.filter (metN (U.map (·.2))).contains).map fun v => V.int (v : Nat))) hD _ _ hdd
        have hD1 : upd (upd H d (.dK (sk (metU U)))) D (.lst ((s.order.filter (metN (U.map (·.2))).contains).map fun v => V.int (v : Nat))) D = some (.lst ((s.order.filter (metN (U.map (·.2))).contains).map fun v => V.int (v : Nat))) := upd_same
        refine ⟨_, rfl, _, rfl, A.a, C.st, dy, _, _, rfl, sm1 _ _ hb, T.stC, T.st_order, stF_order, A.od, rfl, ⟨_, SqL.of (sm1 _ _ R.od)⟩, fun D2 hD2 => lc_list (K := K) (a := A.od) (xs := s.order.map fun v => V.int (v : Nat)) (fun i H' => H' = upd (upd (upd H d (.dK (sk (metU U)))) D (.lst ((s.order.filter (metN (U.map (·.2))).contains).map fun v => V.int (v : Nat)))) D2 (.lst (((s.order.take i).filter fun v => !(metN (U.map (·.2))).contains v).map fun v => V.int (v : Nat)))) rfl (fun i H' _ e => ?_) ?_ ?_⟩
        · rw [e]
          exact SqL.of (Same.new hD2 _ _ (sm1 _ _ R.od))
        · rintro i y H' hi rfl
          obtain ⟨v, hz, rfl⟩ := get_of_map hi
          have tk : s.order.take (i + 1) = s.order.take i ++ [v] := by rw [List.take_add_one, hz]; rfl
          refine ⟨rfl, _, rfl, _, rfl, d, _, rfl, dG v (Same.new hD2 _ _ hd1), _, rfl, ?_⟩
          rw [sk_val, met_iff]
          by_cases c : (metN (U.map (·.2))).contains v = true
          · refine if_false_of (by rw [c]; rfl) ?_
            rw [tk, List.filter_append, List.filter_cons, if_neg (by rw [c]; decide), List.filter_nil, List.append_nil]
          · have c' : (metN (U.map (·.2))).contains v = false := Bool.eq_false_iff.mpr c
            refine if_true_of (by rw [c']; rfl) ⟨_, rfl, _, upd_same, ?_, ?_⟩
            · rw [List.length_map]
              exact small5 (Nat.le_trans (List.length_filter_le _ _) (by rw [List.length_take]; omega))
            · rw [upd_upd, tk, List.filter_append, List.filter_cons, if_pos (by rw [c']; decide), List.filter_nil, List.map_append]
              rfl
        · rintro H2 rfl
          rw [List.length_map, List.take_length]
          have sm2 := sm1.trans (Same.new (o := .lst ((s.order.filter fun v => !(metN (U.map (·.2))).contains v).map fun v => V.int (v : Nat))) hD2)
          refine ⟨D, D2, _, _, rfl, rfl, Same.new hD2 _ _ hD1, upd_same, ?_, fun od hod => ?_⟩
          · rw [List.length_map, List.length_map]
            have a1 := List.length_filter_le (metN (U.map (·.2))).contains s.order
            have a2 := List.length_filter_le (fun v => !(metN (U.map (·.2))).contains v) s.order
            exact Nat.le_of_lt (small5 (by omega))
          · have sm3 := sm2.trans (Same.new (o := .lst (((s.order.filter (metN (U.map (·.2))).contains).map fun v => V.int (v : Nat)) ++ (s.order.filter fun v => !(metN (U.map (·.2))).contains v).map fun v => V.int (v : Nat))) hod)
            refine ⟨_, rfl, A.a, C.st, dy, _, rfl, sm3 _ _ hb, T.stC, T.st_order, (by show 6 < 1000; decide), ?_⟩
            have ne : od ≠ A.a := fun e => by rw [e, sm2 _ _ hb] at hod; cases hod
            refine q _ od dy (sm2.free hod) ?_ (by rw [upd_same, stF_put_order]) fun b o e nb => ?_
            · rw [upd_ne ne, upd_same, List.map_append]
            · rw [upd_ne nb]
              exact sm3 _ _ e
end Kc
set_option Elab.async false
set_option maxRecDepth 100000
set_option maxHeartbeats 2000000
set_option linter.all false
namespace Kc
open PySem PySem.Spec PyProof.Rows L2
open Sm06 (Clause Trail)
variable {P : Program} {w : World} {K : PySem.W.Frag} {mg : Str → Option Value} {base : Heap} {C : Cs}
theorem upd_swap {H : Hp} {a b : Addr} {x y x' : HO} (ne : a ≠ b) : upd (upd (upd H a x) b y) a x' = upd (upd H a x') b y := by
  funext z
  unfold upd
  by_cases h1 : z = a
  · subst h1
    rw [if_pos rfl, if_neg ne, if_pos rfl]
  · rw [if_neg h1]
    by_cases h2 : z = b
    · rw [if_pos h2, if_pos h2]
    · rw [if_neg h2, if_neg h2, if_neg h1, if_neg h1]
def negK (so : List Int) (ls : List Int) : List Int := ls.foldl (fun so o => addK so (-o)) so
theorem negK_mem {z : Int} : ∀ {ls so : List Int}, z ∈ negK so ls ↔ z ∈ so ∨ 0 - z ∈ ls
  | [], so => by simp [negK]
  | x :: ls, so => by
    show z ∈ negK (addK so (-x)) ls ↔ _
    rw [negK_mem (ls := ls), mem_addK, List.mem_cons]
    constructor
    · rintro ((h | h) | h)
      · exact Or.inl h
      · exact Or.inr (Or.inl (by omega))
      · exact Or.inr (Or.inr h)
    · rintro (h | h | h)
      · exact Or.inl (Or.inl h)
      · exact Or.inl (Or.inr (by omega))
      · exact Or.inr h
theorem negK_len : ∀ {ls so : List Int}, (negK so ls).length ≤ so.length + ls.length
  | [], so => Nat.le_refl _
  | x :: ls, so => by
    show (negK (addK so (-x)) ls).length ≤ _
    refine Nat.le_trans negK_len ?_
    have := len_addK (ks := so) (k := -x)
    rw [List.length_cons]
    omega
def spBehind (C : Cs) : Sp := fun vs H Q _ => ∃ M B st L n cs t level, ∃ l : Int, vs = [.ref (SetA.a B), .int l] ∧ SettAt C H M B st L n t level ∧ (∀ p ∈ L, ClauseAt C H M p.1 p.2 ∧ p.2.lits.length ≤ 12) ∧ Good true n cs t ∧ n ≤ 12 ∧
  ∀ H' p bk, Same H H' → H p = none → H' p = some (.dK (sk bk)) → bk.length ≤ 12 → (∀ z, z ∈ bk ↔ z ∈ behind t (fun z => decide (z ∈ [l]))) → Q (.ref p) H'
abbrev st_assumptions_behind : Stmt := top 28
abbrev N_assumptions_behind : List Str := ["settings", "literal", "behind", "sought", "earlier", "clause", "other"]
theorem sc_assumptions_behind : FnScope N_assumptions_behind ["settings", "literal"] (defScope st_assumptions_behind) := ⟨rfl, rfl, rfl, by decide +kernel, rfl, by decide +kernel, by decide +kernel⟩
theorem ok_assumptions_behind {f : Addr} {fd : FuncData} (F : Fun K "assumptions_behind" "assumptions_behind" st_assumptions_behind f fd) (T : Txt K mg C) : FnOk P w K mg base CX0 1 f fd ["settings", "literal"] (spBehind C) := by
  refine F.ok sc_assumptions_behind (fun vs H Q E h => ?_) (fun cdv A outer s H vs Q E hr h => ⟨_, (pss_cons (ps_set (i := 2) sc_assumptions_behind.nd rfl (Or.inl rfl) pe_dnewK)
      (pss_cons (ps_set (i := 3) sc_assumptions_behind.nd rfl (Or.inl rfl) (pe_disp (pps_cons (pv 1) pe_bl pps_nil) (by rfl) (by rfl) (fun z => by cases z) (by decide)))
      (pss_cons (ps_for PassesOwn.never rfl (pi_reversed (by rfl) T.b_reversed (pa_cons (pe_fld (pv 0) rfl) pa_nil)) (pg_name (i := 4) sc_assumptions_behind.nd rfl (Or.inl rfl)) (pss_one (ps_if (PW.pt (pw_and (pt_cmp (pc_din (hu_of hr) (pv 4) (pv 3))) (pw_and1 (pt_cmpR op_gt (pe_ix ix_list (pe_fld (pv 0) rfl) (pe_callB call_abs (by rfl) T.b_abs (by decide +kernel) (pa_cons (pv 4) pa_nil)) (fun _ _ => rfl)) pe_int (nomark _))))) (pss_cons (ps_set (i := 5) sc_assumptions_behind.nd rfl (Or.inl rfl) (pe_ix ix_list (pe_fld (pv 0) rfl) (pe_callB call_abs (by rfl) T.b_abs (by decide +kernel) (pa_cons (pv 4) pa_nil)) (fun _ _ => rfl)))
      (pss_one (ps_if (pt_cmpR op_isN (pv 5) pe_non (nomark _)) (pss_one (ps_dput (hu_of hr) (pv 2) (pv 4) pe_bl rfl)) (pss_one (ps_for PassesOwn.never rfl (pi_list (pe_fld (pv 5) rfl)) (pg_name (i := 6) sc_assumptions_behind.nd rfl (Or.inl rfl)) (pss_one (ps_dput (hu_of hr) (pv 3) (pe_un un_neg (pv 6)) pe_bl rfl))))))) pss_nil)))
      (pss_one (ps_ret (pv 2)))))), ?_⟩)
  · obtain ⟨M, B, st, L, n, cs, t, level, l, rfl, _⟩ := h
    rfl
  · obtain ⟨M, B, st, L, n, cs, t, level, l, rfl, S, hL, g, n12, q⟩ := h
    obtain ⟨dx, ha⟩ := S.ob
    obtain ⟨ls, hls, lls, fls⟩ := S.le
    obtain ⟨us, hus, lus, fus⟩ := S.wh
    have tl := g.len
    intro db hdb ds hds
    have dne : db ≠ ds := fun e => by rw [← e, upd_same] at hds; cases hds
    have hds' : H ds = none := by rw [upd_ne (Ne.symm dne)] at hds; exact hds
    have sm : ∀ x y, Same H (upd (upd H db x) ds y) := fun x y b o e => by rw [upd_ne (ne_of_none e hds'), upd_ne (ne_of_none e hdb)]; exact e
    refine ⟨_, rfl, upd_same, [(Sum.inl l, .bl true)], rfl, (by show 1 ≤ 15; decide), ?_⟩
    rw [upd_upd]
    refine ⟨_, rfl, B.a, C.se, dx, _, _, rfl, sm _ _ _ _ ha, T.seC, T.se_trail, seF_trail, B.tr, _, rfl, SqL.of (sm _ _ _ _ S.tr), for_it walk_rev (fun i σ H' => ∃ (bk so bs : List Int) (v4 v5 v6 : Option V), σ = [some (.ref B.a), some (.int l), some (.ref db), some (.ref ds), v4, v5, v6] ∧ H' = upd (upd H db (.dK (sk bk))) ds (.dK (sk so)) ∧ bk.length ≤ i ∧ so.length ≤ 1 + 12 * i ∧ (∀ z, z ∈ bk ↔ z ∈ bs) ∧ behind t (fun z => decide (z ∈ [l])) = bs ++ behind (t.drop i) (fun z => decide (z ∈ so)))
      ⟨[], [l], [], none, none, none, rfl, rfl, Nat.le_refl _, Nat.le_refl _, fun z => Iff.rfl, rfl⟩ (fun i σ H' _ ⟨_, _, _, _, _, _, _, e, _⟩ => by rw [e]; exact SqL.of (sm _ _ _ _ S.tr)) ?_ ?_⟩
    · rintro i y σ H' H2 hi ⟨bk, so, bs, v4, v5, v6, rfl, rfl, lb, lso, hbs, eb⟩ ⟨rfl, hy⟩
      obtain ⟨x, hx, rfl⟩ := rev_at hi hy
      have hm : x ∈ t := List.mem_of_getElem? hx
      have il : i < t.length := (List.getElem?_eq_some_iff.mp hx).1
      have dr : t.drop i = x :: t.drop (i + 1) := by
        rw [List.drop_eq_getElem_cons il, (List.getElem?_eq_some_iff.mp hx).2]
      rw [dr] at eb
      refine ⟨_, rfl, _, rfl, ds, _, rfl, DGet.k (k := Sum.inl x.lit) upd_same, _, rfl, ?_⟩
      rw [sk_val]
      refine ite_z (fun c1 => ?_) fun c1 => ?_
      · refine ⟨_, rfl, B.a, C.se, dx, _, _, rfl, sm _ _ _ _ ha, T.seC, T.se_level_of, seF_level_of, _, rfl, _, rfl, B.le, _, _, _, rfl, rfl, SqL.of (sm _ _ _ _ hls), at_abs (get_map (fls x hm)), _, _, rfl, rfl, _, rfl, ite_z (fun c2 => ?_) fun c2 => ?_⟩
        · have c2' : 0 < x.level := by omega
          have hit : (decide (x.lit ∈ so) && decide (0 < x.level)) = true := by rw [decide_eq_true c1, decide_eq_true c2']; rfl
          obtain ⟨v, hv, wv⟩ := fus x hm
          refine ⟨_, rfl, B.a, C.se, dx, _, _, rfl, sm _ _ _ _ ha, T.seC, T.se_clause_of, seF_clause_of, _, rfl, _, rfl, B.wh, _, _, _, rfl, rfl, SqL.of (sm _ _ _ _ hus), at_abs hv, ?_⟩
          refine ⟨_, rfl, rfl, _, rfl, ?_⟩
          cases hw : x.why with
          | none =>
            rw [hw] at wv
            have ev : v = .non := wv
            subst ev
            refine if_true_of rfl ⟨_, rfl, _, rfl, db, _, rfl, DPut.k (k := Sum.inl x.lit) ((upd_ne dne).trans upd_same) ?_, ?_⟩
            · rw [sk_len]
              exact small1000 (by omega)
            · rw [upd_swap dne, sk_put]
              refine ⟨addK bk x.lit, so, bs ++ [x.lit], _, _, _, rfl, rfl, by have := len_addK (ks := bk) (k := x.lit); omega, by omega, fun z => ?_, ?_⟩
              · rw [mem_addK, hbs z]
                simp
              · rw [eb]
                conv => lhs; unfold behind
                rw [if_pos hit, hw]
                simp
          | some cl =>
            rw [hw] at wv
            obtain ⟨b, rfl, hb⟩ := wv
            obtain ⟨⟨dy, li, co, h1, h2, _⟩, l12⟩ := hL _ hb
            refine if_false_of rfl ⟨_, rfl, b, C.cl, dy, _, _, rfl, sm _ _ _ _ h1, T.clC, T.cl_literals, clF_literals, li, rfl, ⟨_, SqL.of (sm _ _ _ _ h2)⟩, for_list (K := K) (a := li) (xs := cl.lits.map V.int) (fun j σ H' => ∃ v6 : Option V, σ = [some (.ref B.a), some (.int l), some (.ref db), some (.ref ds), some (.int x.lit), some (.ref b), v6] ∧ H' = upd (upd H db (.dK (sk bk))) ds (.dK (sk (negK so (cl.lits.take j))))) ⟨v6, rfl, rfl⟩ (fun j σ H' _ ⟨_, _, e⟩ => by rw [e]; exact SqL.of (sm _ _ _ _ h2)) ?_ ?_⟩
            · rintro j z σ H' hj ⟨v6, rfl, rfl⟩
              obtain ⟨o, ho, rfl⟩ := get_of_map hj
              have tk : negK so (cl.lits.take (j + 1)) = addK (negK so (cl.lits.take j)) (-o) := by
                unfold negK
                rw [List.take_add_one, ho, List.foldl_append]
                rfl
              refine ⟨_, rfl, _, rfl, _, rfl, ds, _, rfl, DPut.k (k := Sum.inl (-o)) upd_same ?_, ?_⟩
              · rw [sk_len]
                refine small1000 (Nat.le_trans negK_len ?_)
                rw [List.length_take]
                have : cl.lits.length ≤ 12 := l12
                omega
              · rw [upd_upd, sk_put]
                exact ⟨some (.int o), rfl, by rw [tk]⟩
            · rintro σ H' ⟨v6, rfl, rfl⟩
              rw [List.length_map, List.take_length]
              refine ⟨bk, negK so cl.lits, bs, _, _, _, rfl, rfl, by omega, ?_, hbs, ?_⟩
              · refine Nat.le_trans negK_len ?_
                have : cl.lits.length ≤ 12 := l12
                omega
              · rw [eb]
                conv => lhs; unfold behind
                rw [if_pos hit, hw]
                dsimp only
                refine congrArg (fun S => bs ++ behind (t.drop (i + 1)) S) (funext fun z => ?_)
                rw [Bool.eq_iff_iff, Bool.or_eq_true, decide_eq_true_iff, decide_eq_true_iff, negK_mem, List.contains_iff_mem]
        · refine ⟨bk, so, bs, _, _, _, rfl, rfl, by omega, by omega, hbs, ?_⟩
          rw [eb]
          conv => lhs; unfold behind
          rw [if_neg (by
            show ¬ (decide (x.lit ∈ so) && decide (0 < x.level)) = true
            rw [decide_eq_false (show ¬ 0 < x.level by omega), Bool.and_false]
            decide)]
      · refine if_false_of rfl ⟨bk, so, bs, _, _, _, rfl, rfl, by omega, by omega, hbs, ?_⟩
        rw [eb]
        conv => lhs; unfold behind
        rw [if_neg (by
          show ¬ (decide (x.lit ∈ so) && decide (0 < x.level)) = true
          rw [decide_eq_false c1, Bool.false_and]
          decide)]
    · rintro σ H' ⟨bk, so, bs, v4, v5, v6, rfl, rfl, lb, lso, hbs, eb⟩
      rw [List.length_map, List.length_reverse] at lb eb
      rw [List.drop_length] at eb
      refine ⟨_, rfl, q _ db bk (sm _ _) hdb ((upd_ne dne).trans upd_same) (by omega) fun z => ?_⟩
      rw [eb, hbs z]
      show _ ↔ z ∈ bs ++ []
      rw [List.append_nil]
def faultL (t : Trail) (as : List Int) (l : Int) : List Int := as.filter fun a => a == l || (Sm06.decidedOf t [l]).contains a
def spNever (C : Cs) (K : PySem.W.Frag) : Sp := fun vs H Q _ => ∃ M B st L n cs t level pa as, ∃ l : Int, vs = [.ref (SetA.a B), .int l, .ref pa] ∧ SettAt C H M B st L n t level ∧ (∀ p ∈ L, ClauseAt C H M p.1 p.2 ∧ p.2.lits.length ≤ 12) ∧ Good true n cs t ∧ n ≤ 12 ∧ SqL K H pa ((as : List Int).map V.int) ∧ as.length ≤ 1000 ∧
  ∀ H' p, Same H H' → H p = none → H' p = some (.lst ((0 :: ((faultL t as l).length : Int) :: faultL t as l).map V.int)) → Q (.ref p) H'
abbrev st_never_under : Stmt := top 29
abbrev N_never_under : List Str := ["settings", "failed", "assumptions", "at_fault", "told", "assumption"]
theorem sc_never_under : FnScope N_never_under ["settings", "failed", "assumptions"] (defScope st_never_under) := ⟨rfl, rfl, rfl, by decide +kernel, rfl, by decide +kernel, by decide +kernel⟩
theorem ok_never_under {f : Addr} {fd : FuncData} (F : Fun K "never_under" "never_under" st_never_under f fd) (T : Txt K mg C) (c_assumptions_behind : Cal P w K mg base 1 "assumptions_behind" ["settings", "literal"] (spBehind C)) : FnOk P w K mg base CX0 2 f fd ["settings", "failed", "assumptions"] (spNever C K) := by
  refine F.ok sc_never_under (fun vs H Q E h => ?_) (fun cdv A outer s H vs Q E hr h => ⟨_, (pss_cons (ps_set (i := 3) sc_never_under.nd rfl (Or.inr rfl) (pe_cal c_assumptions_behind (hr.mono (by decide)) (by rfl) (pa_cons (pv 0) (pa_cons (pe_un un_neg (pv 1)) pa_nil))))
      (pss_cons (ps_dput (hu_of hr) (pv 3) (pv 1) pe_bl rfl)
      (pss_cons (ps_setLc (i := 4) (own := [("assumption", 5)]) (g := gName 5) rfl sc_never_under.nd rfl rfl (sw_true rfl rfl rfl (by decide +kernel)) (pi_list (pv 2)) (blkOk_by (own := [("assumption", 5)]) (N := N_never_under) (sc := defScope st_never_under) (by decide +kernel)) (fun _ _ _ _ _ => pg_name (i := 5) sc_never_under.nd rfl (Or.inl rfl)) (fun _ _ _ _ _ => by exact (pts_one (pt_cmp (pc_din (hu_of hr) (pv 5) (pv 3))))) (fun _ _ _ _ _ => by exact (pv 5)))
      (pss_one (ps_ret (pe_op op_cat (pe_lst (pa_cons pe_int (pa_cons (pe_callB call_len_seq (by rfl) T.b_len PySem.boot_len (pa_cons (pv 4) pa_nil)) pa_nil))) (pv 4))))))), ?_⟩)
  · obtain ⟨M, B, st, L, n, cs, t, level, pa, as, l, rfl, _⟩ := h
    rfl
  · obtain ⟨M, B, st, L, n, cs, t, level, pa, as, l, rfl, S, hL, g, n12, hpa, la, q⟩ := h
    refine ⟨_, rfl, _, rfl, _, rfl, M, B, st, L, n, cs, t, level, -l, rfl, S, hL, g, n12, fun H1 d bk sm hd hd1 lb hbk => ?_⟩
    have key : ∀ a, a ∈ addK bk l ↔ (a == l || (Sm06.decidedOf t [l]).contains a) = true := fun a => by
      rw [mem_addK, hbk a, Bool.or_eq_true, beq_iff_eq, List.contains_iff_mem]
      rw [behind_is (ls := [l]) g fun x hx _ => by
        rw [Bool.eq_iff_iff, decide_eq_true_iff, List.contains_iff_mem, List.mem_singleton, List.mem_singleton]
        constructor <;> intro e <;> omega]
      exact Or.comm
    refine ⟨_, rfl, _, rfl, d, _, rfl, DPut.k (k := Sum.inl l) hd1 (by rw [sk_len]; exact small1000 (by omega)), ?_⟩
    rw [sk_put]
    have bt : ∀ b o, H b = some o → upd H1 d (.dK (sk (addK bk l))) b = some o := fun b o e => by
      rw [upd_ne (ne_of_none e hd)]
      exact sm b o e
    refine ⟨_, rfl, pa, rfl, ⟨_, Same.seq bt hpa⟩, fun D hD => lc_list (K := K) (a := pa) (xs := as.map V.int) (fun i H' => H' = upd (upd H1 d (.dK (sk (addK bk l)))) D (.lst ((faultL t (as.take i) l).map V.int))) rfl (fun i H' _ e => ?_) ?_ ?_⟩
    · rw [e]
      exact (Same.new hD).seq (Same.seq bt hpa)
    · rintro i y H' hi rfl
      obtain ⟨a, hz, rfl⟩ := get_of_map hi
      have tk : faultL t (as.take (i + 1)) l = faultL t (as.take i) l ++ (if (a == l || (Sm06.decidedOf t [l]).contains a) = true then [a] else []) := by
        unfold faultL
        rw [List.take_add_one, hz, List.filter_append]
        refine congrArg _ ?_
        show [a].filter _ = _
        rw [List.filter_cons]
        split <;> rfl
      refine ⟨rfl, _, rfl, _, rfl, d, _, rfl, DGet.k (k := Sum.inl a) (Same.new hD _ _ upd_same), _, rfl, ?_⟩
      rw [sk_val]
      refine ite_z (fun c => ⟨_, rfl, _, upd_same, ?_, ?_⟩) fun c => ?_
      · rw [List.length_map]
        exact small1000 (Nat.le_trans (List.length_filter_le _ _) (by rw [List.length_take]; omega))
      · rw [upd_upd, tk, if_pos ((key a).mp c), List.map_append]
        rfl
      · rw [tk, if_neg fun z => c ((key a).mpr z), List.append_nil]
    · rintro H2 rfl
      rw [List.length_map, List.take_length]
      have hD1 : upd (upd H1 d (.dK (sk (addK bk l)))) D (.lst ((faultL t as l).map V.int)) D = some (.lst ((faultL t as l).map V.int)) := upd_same
      have sm2 : Same H (upd (upd H1 d (.dK (sk (addK bk l)))) D (.lst ((faultL t as l).map V.int))) := fun b o e => Same.new hD _ _ (bt b o e)
      have fl : (faultL t as l).length ≤ 1000 := Nat.le_trans (List.length_filter_le _ _) la
      refine ⟨_, rfl, D, _, rfl, Or.inl (SqL.of hD1), (by show 2 ≤ sizeLine; decide), fun p2 hp2 => ⟨_, rfl, p2, D, _, _, rfl, rfl, upd_same, Same.new hp2 _ _ hD1, ?_, fun p hp => ?_⟩⟩
      · rw [List.length_map]
        exact Nat.le_of_lt (small5 (by show 2 + _ ≤ _; omega))
      · refine q _ p ((sm2.trans (Same.new hp2)).trans (Same.new hp)) ((sm2.trans (Same.new hp2)).free hp) ?_
        rw [upd_same, List.length_map]
        rfl
def spFits (C : Cs) : Sp := fun vs H Q _ => ∃ M B A L s n t level, vs = [.ref (SetA.a B)] ∧ SettAt C H M B (StoA.a A) L n t level ∧ StoreAt C H M A L s ∧ s.n = n ∧ n ≤ 12 ∧
  ∀ H' p, Same H H' → H p = none → H' p = some (.lst ((1 :: (n : Int) :: Sm06.ints ((List.range n).map fun i => Sm06.flag (Sm06.isSo t ((i + 1 : Nat) : Int)))).map V.int)) → Q (.ref p) H'
abbrev st_it_fits : Stmt := top 30
abbrev N_it_fits : List Str := ["settings", "size", "variable"]
theorem sc_it_fits : FnScope N_it_fits ["settings"] (defScope st_it_fits) := ⟨rfl, rfl, rfl, by decide +kernel, rfl, by decide +kernel, by decide +kernel⟩
theorem ok_it_fits {f : Addr} {fd : FuncData} (F : Fun K "it_fits" "it_fits" st_it_fits f fd) (T : Txt K mg C) : FnOk P w K mg base CX0 1 f fd ["settings"] (spFits C) := by
  refine F.ok sc_it_fits (fun vs H Q E h => ?_) (fun cdv A outer s H vs Q E hr h => ⟨_, (pss_cons (ps_set (i := 1) sc_it_fits.nd rfl (Or.inl rfl) (pe_fld (pe_fld (pv 0) rfl) rfl))
      (pss_one (ps_ret (pe_op op_cat (pe_lst (pa_cons pe_int (pa_cons (pv 1) pa_nil))) (pe_lc (own := [("variable", 2)]) (g := gName 2) rfl sc_it_fits.nd (pi_range2 (by rfl) T.b_range (pa_cons pe_int (pa_cons (pe_op op_add (pv 1) pe_int) pa_nil))) (blkOk_by (own := [("variable", 2)]) (N := N_it_fits) (sc := defScope st_it_fits) (by decide +kernel)) (fun _ _ _ _ _ => pg_name (i := 2) sc_it_fits.nd rfl (Or.inl rfl)) (fun _ _ _ _ _ => by exact pts_nil) (fun _ _ _ _ _ => by exact (pe_ifExp (pt_cmpR op_eq (pe_ix (ix_listK K) (pe_fldK K (pv 0) rfl) (pv 2) (fun _ _ => rfl)) pe_int (nomark _)) pe_int pe_int))))))), ?_⟩)
  · obtain ⟨M, B, A, L, s, n, t, level, rfl, _⟩ := h
    rfl
  · obtain ⟨M, B, A, L, s, n, t, level, rfl, S, R, rfl, n12, q⟩ := h
    obtain ⟨dx, ha⟩ := S.ob
    obtain ⟨dy, hb⟩ := R.ob
    obtain ⟨ws, hws, lws, fws⟩ := S.va
    refine ⟨_, rfl, B.a, C.se, dx, _, _, rfl, ha, T.seC, T.se_store, seF_store, A.a, C.st, dy, _, _, rfl, hb, T.stC, T.st_size, stF_size, ?_⟩
    have en : ((s.n : Int) + 1 - 1).toNat = s.n := by omega
    refine ⟨_, rfl, (by show 2 ≤ sizeLine; decide), fun p1 hp1 => ⟨_, rfl, _, _, rfl, rfl, 1, _, rfl, ⟨by decide, by decide, by omega, by omega⟩, fun D hD => lc_range (lo := 1) (n := ((s.n : Int) + 1 - 1).toNat) (fun i H' => H' = upd (upd H p1 (.lst [.int 1, .int s.n])) D (.lst ((Sm06.ints ((List.range i).map fun i => Sm06.flag (Sm06.isSo t ((i + 1 : Nat) : Int)))).map V.int))) rfl ?_ ?_⟩⟩
    · rintro i H' hi rfl
      rw [en] at hi
      have sm : Same H (upd (upd H p1 (.lst [.int 1, .int s.n])) D (.lst ((Sm06.ints ((List.range i).map fun i => Sm06.flag (Sm06.isSo t ((i + 1 : Nat) : Int)))).map V.int))) := (Same.new hp1).trans (Same.new hD)
      have hv := fws ((i + 1 : Nat) : Int) (by omega) (by omega)
      rw [if_pos (by omega), Int.natAbs_natCast] at hv
      refine ⟨rfl, _, rfl, B.a, C.se, dx, _, _, rfl, sm _ _ ha, T.seC, T.se_value_of, seF_value_of, _, rfl, B.va, _, _, .int (litVal t ((i + 1 : Nat) : Int)), rfl, rfl, SqL.of (sm _ _ hws), ?_, rfl, _, rfl, ?_⟩
      · rw [show (1 : Int) + (i : Nat) = ((i + 1 : Nat) : Int) by omega]
        exact atI_nat (get_map hv)
      have rg : (Sm06.ints ((List.range (i + 1)).map fun i => Sm06.flag (Sm06.isSo t ((i + 1 : Nat) : Int)))).map V.int = (Sm06.ints ((List.range i).map fun i => Sm06.flag (Sm06.isSo t ((i + 1 : Nat) : Int)))).map V.int ++ [.int (Sm06.flag (Sm06.isSo t ((i + 1 : Nat) : Int)) : Nat)] := by
        rw [List.range_succ]
        unfold Sm06.ints
        simp only [List.map_append, List.map_cons, List.map_nil]
      have len : ((Sm06.ints ((List.range i).map fun i => Sm06.flag (Sm06.isSo t ((i + 1 : Nat) : Int)))).map V.int).length < sizeLine := by
        unfold Sm06.ints
        simp only [List.length_map, List.length_range]
        exact small1000 (by omega)
      by_cases c : litVal t ((i + 1 : Nat) : Int) = 1
      · refine if_true_of (decide_eq_true (by rw [c])) ⟨_, upd_same, len, ?_⟩
        rw [upd_upd, rg, litVal_one.mp c]
        rfl
      · refine if_false_of (decide_eq_false (by intro z; exact c (V.int.inj z))) ⟨_, upd_same, len, ?_⟩
        rw [upd_upd, rg, Bool.eq_false_iff.mpr fun z => c (litVal_one.mpr z)]
        rfl
    · rintro H' rfl
      rw [en]
      have sm : Same H (upd (upd H p1 (.lst [.int 1, .int s.n])) D (.lst ((Sm06.ints ((List.range s.n).map fun i => Sm06.flag (Sm06.isSo t ((i + 1 : Nat) : Int)))).map V.int))) := (Same.new hp1).trans (Same.new hD)
      refine ⟨p1, D, _, _, rfl, rfl, Same.new hD _ _ upd_same, upd_same, ?_, fun p hp => ?_⟩
      · unfold Sm06.ints
        simp only [List.length_map, List.length_range]
        exact Nat.le_of_lt (small5 (by show 2 + _ ≤ _; omega))
      · exact q _ p (sm.trans (Same.new hp)) (sm.free hp) upd_same
end Kc
set_option Elab.async false
set_option maxRecDepth 100000
set_option maxHeartbeats 2000000
set_option linter.all false
namespace Kc
open PySem PySem.Spec PyProof.Rows L2
open Sm06 (Clause Trail)
variable {P : Program} {w : World} {K : PySem.W.Frag} {mg : Str → Option Value} {base : Heap} {C : Cs}
theorem SqL.keep {H H' : Hp} {M M' : List Addr} {a : Addr} {xs : List V} (h : SqL K H a xs) (k : Keep M M' H H') (n : a ∉ M) : SqL K H' a xs := by
  rcases h with (h | ⟨o, h⟩) | h
  · exact .inl (.inl (k.1 _ _ h n).1)
  · exact .inl (.inr ⟨o, (k.1 _ _ h n).1⟩)
  · exact .inr h
theorem Wd.each12 {H : Hp} {B : SetA} {A : StoA} {L : List (Addr × Clause)} {s : Sm06.St} {t : Trail} {level : Nat} (W : Wd C H B A L s t level) : ∀ p ∈ L, ClauseAt C H (MX B A) p.1 p.2 ∧ p.2.lits.length ≤ 12 := fun p hp => ⟨W.sto.each p hp, Nat.le_trans (W.lits p hp).len W.ok.n12⟩
def neverL (t : Trail) (as : List Int) (l : Int) : List Int := 0 :: ((faultL t as l).length : Int) :: faultL t as l
def fitsL (n : Nat) (t : Trail) : List Int := 1 :: (n : Int) :: Sm06.ints ((List.range n).map fun i => Sm06.flag (Sm06.isSo t ((i + 1 : Nat) : Int)))
def spGo (C : Cs) (K : PySem.W.Frag) : Sp := fun vs H Q _ => ∃ B A L s t level pa as, vs = [.ref (SetA.a B), .ref pa] ∧ B.z = true ∧ Wd C H B A L s t level ∧ SqL K H pa ((as : List Int).map V.int) ∧ (∀ a ∈ as, 1 ≤ a.natAbs ∧ a.natAbs ≤ s.n) ∧ as.length ≤ 1000 ∧
  (∀ l, (as.find? fun l => !Sm06.isSo t l) = some l → Sm06.isNot t l = true → ∀ H' p, Same H H' → H p = none → H' p = some (.lst ((neverL t as l).map V.int)) → Q (.ref p) H') ∧
  (∀ l, (as.find? fun l => !Sm06.isSo t l) = some l → Sm06.isNot t l = false → ∀ H', Wd C H' B A L s (⟨l, level + 1, none⟩ :: t) (level + 1) → Keep (MM B A) (MM B A) H H' → Q .non H') ∧
  ((as.find? fun l => !Sm06.isSo t l) = none → (s.order.find? fun (v : Nat) => Sm06.isOpen t (v : Int)) = none → ∀ H' p, Same H H' → H p = none → H' p = some (.lst ((fitsL s.n t).map V.int)) → Q (.ref p) H') ∧
  ((as.find? fun l => !Sm06.isSo t l) = none → ∀ v, (s.order.find? fun (v : Nat) => Sm06.isOpen t (v : Int)) = some v → ∀ H', Wd C H' B A L s (⟨if s.phase.contains v = true then (v : Int) else 0 - (v : Int), level + 1, none⟩ :: t) (level + 1) → Keep (MM B A) (MM B A) H H' → Q .non H')
abbrev st_go_on : Stmt := top 31
abbrev N_go_on : List Str := ["settings", "assumptions", "assumption", "variable", "value"]
theorem sc_go_on : FnScope N_go_on ["settings", "assumptions"] (defScope st_go_on) := ⟨rfl, rfl, rfl, by decide +kernel, rfl, by decide +kernel, by decide +kernel⟩
theorem ok_go_on {f : Addr} {fd : FuncData} (F : Fun K "go_on" "go_on" st_go_on f fd) (T : Txt K mg C) (c_value_of_literal : Cal P w K mg base 1 "value_of_literal" ["settings", "literal"] (spVal C)) (c_never_under : Cal P w K mg base 2 "never_under" ["settings", "failed", "assumptions"] (spNever C K)) (c_begin_level : Cal P w K mg base 2 "begin_level" ["settings", "literal"] (spLevel C)) (c_it_fits : Cal P w K mg base 1 "it_fits" ["settings"] (spFits C)) : FnOk P w K mg base CX0 3 f fd ["settings", "assumptions"] (spGo C K) := by
  refine F.ok sc_go_on (fun vs H Q E h => ?_) (fun cdv A outer s H vs Q E hr h => ⟨_, (pss_cons (ps_for PassesOwn.never rfl (pi_list (pv 1)) (pg_name (i := 2) sc_go_on.nd rfl (Or.inl rfl)) (pss_cons (ps_set (i := 4) sc_go_on.nd rfl (Or.inl rfl) (pe_cal c_value_of_literal (hr.mono (by decide)) (by rfl) (pa_cons (pv 0) (pa_cons (pv 2) pa_nil))))
      (pss_cons (ps_if (pt_cmpR op_eq (pv 4) (pe_un un_neg pe_int) (nomark _)) (pss_one (ps_ret (pe_cal c_never_under (hr.mono (by decide)) (by rfl) (pa_cons (pv 0) (pa_cons (pv 2) (pa_cons (pv 1) pa_nil)))))) pss_nil)
      (pss_one (ps_if (pt_cmpR op_eq (pv 4) pe_int (nomark _)) (pss_cons (ps_expr (pe_cal c_begin_level (hr.mono (by decide)) (by rfl) (pa_cons (pv 0) (pa_cons (pv 2) pa_nil))))
      (pss_one (ps_ret pe_non))) pss_nil)))))
      (pss_cons (ps_for PassesOwn.never rfl (pi_list (pe_fld (pe_fld (pv 0) rfl) rfl)) (pg_name (i := 3) sc_go_on.nd rfl (Or.inl rfl)) (pss_one (ps_if (pt_cmpR op_eq (pe_ix ix_list (pe_fld (pv 0) rfl) (pv 3) (fun _ _ => rfl)) pe_int (nomark _)) (pss_cons (ps_expr (pe_cal c_begin_level (hr.mono (by decide)) (by rfl) (pa_cons (pv 0) (pa_cons (pe_ifExp (pt_val (pe_ix ix_list (pe_fld (pv 0) rfl) (pv 3) (fun _ _ => rfl))) (pv 3) (pe_un un_neg (pv 3))) pa_nil))))
      (pss_one (ps_ret pe_non))) pss_nil)))
      (pss_one (ps_ret (pe_cal c_it_fits (hr.mono (by decide)) (by rfl) (pa_cons (pv 0) pa_nil)))))), ?_⟩)
  · obtain ⟨B, A, L, s, t, level, pa, as, rfl, _⟩ := h
    rfl
  · obtain ⟨B, A, L, s, t, level, pa, as, rfl, zt, W, hpa, ra, la, q1, q2, q3, q4⟩ := h
    have gt : Good true s.n s.clauses t := zt ▸ W.good
    obtain ⟨dx, ha⟩ := W.set.ob
    obtain ⟨dy, hb⟩ := W.sto.ob
    obtain ⟨ws, hws, lws, fws⟩ := W.set.va
    obtain ⟨bs, hbs, lbs, fbs⟩ := W.la
    refine ⟨_, rfl, pa, rfl, ⟨_, hpa⟩, for_list (K := K) (a := pa) (xs := as.map V.int) (fun i σ H' => ∃ v2 v4 : Option V, σ = [some (.ref B.a), some (.ref pa), v2, none, v4] ∧ H' = H ∧ ((as.take i).find? fun l => !Sm06.isSo t l) = none) ⟨none, none, rfl, rfl, rfl⟩ (fun i σ H' _ ⟨_, _, _, e, _⟩ => by rw [e]; exact hpa) ?_ ?_⟩
    · rintro i y σ H' hi ⟨v2, v4, rfl, rfl, no⟩
      obtain ⟨l, hz, rfl⟩ := get_of_map hi
      have hm : l ∈ as := List.mem_of_getElem? hz
      have rl := ra l hm
      have tk : as.take (i + 1) = as.take i ++ [l] := by rw [List.take_add_one, hz]; rfl
      refine ⟨_, rfl, _, rfl, MX B A, B, A.a, L, s.n, t, level, l, rfl, W.set, rl.1, rl.2, ?_⟩
      refine ⟨_, rfl, _, rfl, rfl, _, rfl, ?_⟩
      by_cases c1 : litVal t l = -1
      · have nl := (litVal_not W.good).mp c1
        have ns : (!Sm06.isSo t l) = true := by
          cases z : Sm06.isSo t l with
          | true => exact (W.good.both z nl).elim
          | false => rfl
        have fd := find_take' hz no ns
        refine if_true_of (decide_eq_true (by rw [c1])) ?_
        exact ⟨_, rfl, _, rfl, _, rfl, MX B A, B, A.a, L, s.n, s.clauses, t, level, pa, as, l, rfl, W.set, W.each12, gt, W.ok.n12, hpa, la, fun H' p sm hp h => q1 l fd nl H' p sm hp h⟩
      · refine if_false_of (decide_eq_false (by intro z; exact c1 (V.int.inj z))) ?_
        have nl : Sm06.isNot t l = false := Bool.eq_false_iff.mpr fun z => c1 ((litVal_not W.good).mpr z)
        refine ⟨_, rfl, rfl, _, rfl, ?_⟩
        by_cases c0 : litVal t l = 0
        · have op := litVal_zero.mp c0
          have ns : (!Sm06.isSo t l) = true := by rw [(open_iff.mp op).1]; rfl
          have fd := find_take' hz no ns
          refine if_true_of (decide_eq_true (by rw [c0])) ?_
          exact ⟨_, rfl, _, rfl, B, A, L, s, t, level, l, rfl, W, W.good.decided W.lev rl op, fun H' W' k => q2 l fd nl H' W' k⟩
        · refine if_false_of (decide_eq_false (by intro z; exact c0 (V.int.inj z))) ⟨_, _, rfl, rfl, ?_⟩
          have so : Sm06.isSo t l = true := by
            cases z : Sm06.isSo t l with
            | true => rfl
            | false => exact absurd (litVal_zero.mpr (open_iff.mpr ⟨z, nl⟩)) c0
          rw [tk, List.find?_append, no, List.find?_cons, so]
          rfl
    · rintro σ H' ⟨v2, v4, rfl, rfl, no⟩
      rw [List.length_map, List.take_length] at no
      refine ⟨_, rfl, B.a, C.se, dx, _, _, rfl, ha, T.seC, T.se_store, seF_store, A.a, C.st, dy, _, _, rfl, hb, T.stC, T.st_order, stF_order, A.od, rfl, ⟨_, SqL.of W.sto.od⟩, for_list (K := K) (a := A.od) (xs := s.order.map fun v => V.int (v : Nat)) (fun i σ H'' => ∃ v3 : Option V, σ = [some (.ref B.a), some (.ref pa), v2, v3, v4] ∧ H'' = H' ∧ ((s.order.take i).find? fun (v : Nat) => Sm06.isOpen t (v : Int)) = none) ⟨none, rfl, rfl, rfl⟩ (fun i σ H'' _ ⟨_, _, e, _⟩ => by rw [e]; exact SqL.of W.sto.od) ?_ ?_⟩
      · rintro i y σ H'' hi ⟨v3, rfl, rfl, no2⟩
        obtain ⟨v, hz, rfl⟩ := get_of_map hi
        have hm : v ∈ s.order := List.mem_of_getElem? hz
        have rv := W.ok.ord v hm
        have tk : s.order.take (i + 1) = s.order.take i ++ [v] := by rw [List.take_add_one, hz]; rfl
        have hv := fws ((v : Nat) : Int) (by omega) (by omega)
        rw [if_pos (by omega), Int.natAbs_natCast] at hv
        refine ⟨_, rfl, B.a, C.se, dx, _, _, rfl, ha, T.seC, T.se_value_of, seF_value_of, _, rfl, B.va, _, _, .int (litVal t ((v : Nat) : Int)), rfl, rfl, SqL.of hws, atI_nat (get_map hv), rfl, _, rfl, ?_⟩
        by_cases c0 : litVal t ((v : Nat) : Int) = 0
        · have op := litVal_zero.mp c0
          have fd := find_take' (p := fun (v : Nat) => Sm06.isOpen t (v : Int)) hz no2 op
          have eph : decide (v ∈ Sm06.kept t s.phase) = s.phase.contains v := by
            rw [Bool.eq_iff_iff, decide_eq_true_iff, List.contains_iff_mem]
            exact kept_out fun x hx e => not_open op x hx (by omega)
          have hbv := fbs v rv.1 rv.2
          rw [eph] at hbv
          refine if_true_of (decide_eq_true (by rw [c0])) ?_
          refine ⟨_, rfl, _, rfl, B.a, C.se, dx, _, _, rfl, ha, T.seC, T.se_last_so, seF_last_so, _, rfl, B.la, _, _, .bl (s.phase.contains v), rfl, rfl, SqL.of hbs, atI_nat (get_map hbv), _, rfl, ?_⟩
          have gd : ∀ l : Int, l.natAbs = v → Good B.z s.n s.clauses (⟨l, level + 1, none⟩ :: t) := fun l e => W.good.decided W.lev ⟨by omega, by omega⟩ (by
            refine open_iff.mpr ⟨Bool.eq_false_iff.mpr fun z => ?_, Bool.eq_false_iff.mpr fun z => ?_⟩
            · obtain ⟨x, hx, ex⟩ := isSo_iff.mp z
              exact not_open op x hx (by omega)
            · obtain ⟨x, hx, ex⟩ := isNot_iff.mp z
              exact not_open op x hx (by omega))
          have qq := q4 no v fd
          by_cases cp : s.phase.contains v = true
          · rw [if_pos cp] at qq
            exact if_true_of cp ⟨_, rfl, B, A, L, s, t, level, v, rfl, W, gd _ (Int.natAbs_natCast v), fun H' W' k => qq H' W' k⟩
          · rw [if_neg cp, show (0 - (v : Int)) = -(v : Int) by omega] at qq
            exact if_false_of (Bool.eq_false_iff.mpr cp) ⟨_, rfl, _, rfl, B, A, L, s, t, level, -(v : Int), rfl, W, gd _ (by omega), fun H' W' k => qq H' W' k⟩
        · refine if_false_of (decide_eq_false (by intro z; exact c0 (V.int.inj z))) ⟨_, rfl, rfl, ?_⟩
          rw [tk, List.find?_append, no2, List.find?_cons, Bool.eq_false_iff.mpr fun z => c0 (litVal_zero.mpr z)]
          rfl
      · rintro σ H'' ⟨v3, rfl, rfl, no2⟩
        rw [List.length_map, List.take_length] at no2
        exact ⟨_, rfl, MX B A, B, A, L, rest B s, s.n, t, level, rfl, W.set, W.sto, rfl, W.ok.n12, fun H' p sm hp h => q3 no no2 H' p sm hp h⟩
end Kc
set_option Elab.async false
set_option maxRecDepth 100000
set_option maxHeartbeats 2000000
set_option linter.all false
namespace Kc
open PySem PySem.Spec PyProof.Rows L2
open Sm06 (Clause Trail)
variable {P : Program} {w : World} {K : PySem.W.Frag} {mg : Str → Option Value} {base : Heap} {C : Cs}
/-- the settings at the beginning of a search -/
def spSettings (C : Cs) : Sp := fun vs H Q _ => ∃ x dx M A L s z, vs = [.ref x, .ref (StoA.a A)] ∧ H x = some (.ins C.se dx []) ∧ StoreAt C H M A L s ∧ s.n ≤ 12 ∧
  ∀ H' (B : SetA), B.a = x → B.z = z → B.ph = s.phase → (∀ y ∈ [B.tr, B.va, B.le, B.wh, B.la], H y = none) → SettAt C H' B.M B A.a L s.n [] 0 → PhAt H' B.la s.n s.phase → But x H H' → Q .non H'
def spLearn (C : Cs) : Sp := fun vs H Q _ => ∃ B A L s t level b c, vs = [.ref (SetA.a B), .ref b] ∧ B.z = true ∧ Wd C H B A L s t level ∧ (b, c) ∈ L ∧ (∀ l ∈ c.lits, Sm06.isNot t l = true) ∧ 0 < level ∧ L.length ≤ 90000 ∧
  ∀ H' A' L', Wd C H' B A' L' (Sm06.learn (now s t) level t c).1 (t.filter fun y => decide (y.level ≤ (Sm06.learn (now s t) level t c).2)) (Sm06.learn (now s t) level t c).2 → Lk A' A → L'.length = L.length + 1 → Keep (MM B A) (MM B A') H H' → Q .non H'
def endL : Sm06.End → List Int
  | .fits v => 1 :: (v.length : Int) :: Sm06.ints v
  | .never w => 0 :: (w.length : Int) :: w
  | .enough => [2]
def spDecide (C : Cs) (K : PySem.W.Frag) : Sp := fun vs H Q _ => ∃ A L s pa as, ∃ most : Nat, vs = [.ref (StoA.a A), .int most, .ref pa] ∧ StoreAt C H (AX A) A L s ∧ SOk s ∧ SqL K H pa ((as : List Int).map V.int) ∧ (∀ a ∈ as, 1 ≤ a.natAbs ∧ a.natAbs ≤ s.n) ∧ as.length ≤ 1000 ∧ pa ∉ A.M ∧ L.length + most ≤ 90000 ∧
  ∀ H' p A' L', StoreAt C H' (AX A') A' L' (Sm06.decide_ s most as).1 → SOk (Sm06.decide_ s most as).1 → Lk A' A → L'.length ≤ L.length + most → Keep A.M A'.M H H' → p ∉ A'.M → H p = none → H' p = some (.lst ((endL (Sm06.decide_ s most as).2).map V.int)) → Q (.ref p) H'
theorem SOk.now {z : Bool} {s : Sm06.St} {n : Nat} {t : Trail} (h : SOk s) (g : Good z s.n s.clauses t) : SOk (now s t) := ⟨h.n1, h.n12, h.lits, h.ord, h.ol, kept_pos g h.ph⟩
theorem StoreAt.weak {H : Hp} {M M' : List Addr} {A : StoA} {L : List (Addr × Clause)} {s : Sm06.St} (h : StoreAt C H M A L s) (sub : ∀ x ∈ M', x ∈ M) (hA : ∀ x ∈ A.M, x ∈ M') : StoreAt C H M' A L s where
  ob := h.ob
  cl := h.cl
  cs := h.cs
  od := h.od
  la := h.la
  each := fun p hp => by
    obtain ⟨dx, li, co, h1, h2, n1, n2, h3, n3, r⟩ := h.each p hp
    exact ⟨dx, li, co, h1, h2, fun z => n1 (sub _ z), fun z => n2 (sub _ z), h3, fun z => n3 (sub _ z), r⟩
  nd := h.nd
  sub := hA
  al := fun x hx => h.al x (sub x hx)
theorem Keep.weak {M M' N : List Addr} {H H' : Hp} (k : Keep M M' H H') (sub : ∀ x ∈ N, x ∈ M') : Keep M N H H' := ⟨fun b o e n => let ⟨h1, h2⟩ := k.1 b o e n; ⟨h1, fun z => h2 (sub _ z)⟩, k.2⟩
/-- the search begins -/
theorem wd_start {H H' : Hp} {A : StoA} {B : SetA} {L : List (Addr × Clause)} {s : Sm06.St} {x : Addr} (R : StoreAt C H (AX A) A L s) (ok : SOk s) (e : B.a = x) (hx : H x = none) (eph : B.ph = s.phase) (fr : ∀ y ∈ [B.tr, B.va, B.le, B.wh, B.la], H y = none) (S : SettAt C H' B.M B A.a L s.n [] 0) (hla : PhAt H' B.la s.n s.phase) (sm : Same H H') : Wd C H' B A L s [] 0 ∧ Keep A.M (MM B A) H H' := by
  have out : ∀ b o, H b = some o → b ∉ B.M := fun b o h z => by
    rcases List.mem_cons.mp z with z | z
    · rw [z, e, hx] at h
      cases h
    · rw [fr b z] at h
      cases h
  have k : Keep A.M (MM B A) H H' := ⟨fun b o h n => ⟨sm b o h, fun z => (List.mem_append.mp z).elim (out b o h) n⟩, fun b h => sm.free h⟩
  have st : ∀ y ∈ A.M, ∃ o, H y = some o := fun y hy => by
    obtain ⟨dx, h1⟩ := R.ob
    obtain ⟨bs, h4, _⟩ := R.la
    simp only [StoA.M, List.mem_cons, List.not_mem_nil, or_false] at hy
    rcases hy with rfl | rfl | rfl | rfl
    · exact ⟨_, h1⟩
    · exact ⟨_, R.cl⟩
    · exact ⟨_, R.od⟩
    · exact ⟨_, h4⟩
  have R' := R.same sm
  have al : ∀ y ∈ MX B A, H' y ≠ none := fun y hy z => by
    rcases List.mem_append.mp hy with hy | hy
    · rcases List.mem_append.mp hy with hy | hy
      · obtain ⟨d1, e1⟩ := S.ob
        obtain ⟨_, e3, _⟩ := S.va
        obtain ⟨_, e4, _⟩ := S.le
        obtain ⟨_, e5, _⟩ := S.wh
        have e2 := S.tr
        simp only [SetA.M, List.mem_cons, List.not_mem_nil, or_false] at hy
        obtain ⟨_, e6, _⟩ := hla
        rcases hy with rfl | rfl | rfl | rfl | rfl | rfl
        · rw [z] at e1
          cases e1
        · rw [z] at e2
          cases e2
        · rw [z] at e3
          cases e3
        · rw [z] at e4
          cases e4
        · rw [z] at e5
          cases e5
        · rw [z] at e6
          cases e6
      · exact R'.al y (List.mem_append_left _ hy) z
    · exact R'.al y (List.mem_append_right _ hy) z
  have ela : PhAt H' A.la s.n B.ph := eph ▸ R'.la
  refine ⟨⟨⟨R'.ob, R'.cl, R'.cs, R'.od, ela, fun p hp => (R.each p hp).keepX k, R.nd, fun y hy => List.mem_append_left _ (List.mem_append_right _ hy), al⟩, ⟨S.ob, S.tr, S.va, S.le, S.wh, S.nd, fun y hy => List.mem_append_left _ (List.mem_append_left _ hy)⟩, ?_, trivial, fun y hy => absurd hy List.not_mem_nil, ok, hla⟩, k⟩
  rw [List.nodup_append]
  refine ⟨S.nd, R.nd, fun a ha b hb q => ?_⟩
  obtain ⟨o, ho⟩ := st b hb
  exact out b o ho (q ▸ ha)
theorem endL_never {t : Trail} {as : List Int} {l : Int} : endL (.never (as.filter fun a => a == l || (Sm06.decidedOf t [l]).contains a)) = neverL t as l := rfl
theorem endL_fits {n : Nat} {t : Trail} : endL (.fits ((List.range n).map fun i => Sm06.flag (Sm06.isSo t ((i + 1 : Nat) : Int)))) = fitsL n t := by
  unfold endL fitsL
  simp
end Kc
set_option Elab.async false
set_option maxRecDepth 100000
set_option maxHeartbeats 2000000
set_option linter.all false
namespace Kc
open PySem PySem.Spec PyProof.Rows L2
open Sm06 (Clause Trail)
variable {P : Program} {w : World} {K : PySem.W.Frag} {mg : Str → Option Value} {base : Heap} {C : Cs}
theorem StoreAt.out {H : Hp} {M : List Addr} {A : StoA} {L : List (Addr × Clause)} {s : Sm06.St} (R : StoreAt C H M A L s) {p : Addr} (hp : H p = none) : p ∉ A.M := fun hy => by
  obtain ⟨dx, h1⟩ := R.ob
  obtain ⟨bs, h4, _⟩ := R.la
  have h2 := R.cl
  have h3 := R.od
  simp only [StoA.M, List.mem_cons, List.not_mem_nil, or_false] at hy
  rcases hy with rfl | rfl | rfl | rfl
  · rw [hp] at h1
    cases h1
  · rw [hp] at h2
    cases h2
  · rw [hp] at h3
    cases h3
  · rw [hp] at h4
    cases h4
/-- the store takes what the settings say of how variables were set last -/
theorem StoreAt.last {H : Hp} {B : SetA} {A : StoA} {L : List (Addr × Clause)} {s s' : Sm06.St} {dy : Addr} (R : StoreAt C H (MX B A) A L s) (hla : PhAt H B.la s'.n s'.phase) (nd : (MM B A).Nodup) (e1 : s'.n = s.n) (e2 : s'.clauses = s.clauses) (e3 : s'.next = s.next) (e4 : s'.marks = s.marks) (e5 : s'.order = s.order) :
    StoreAt C (upd H A.a (.ins C.st dy (stF s.n A.cl s.marks s.next A.od B.la))) (AX ⟨A.a, A.cl, A.od, B.la, A.X⟩) ⟨A.a, A.cl, A.od, B.la, A.X⟩ L s' ∧ Keep (MM B A) (StoA.M ⟨A.a, A.cl, A.od, B.la, A.X⟩) H (upd H A.a (.ins C.st dy (stF s.n A.cl s.marks s.next A.od B.la))) := by
  have sub : ∀ y ∈ StoA.M ⟨A.a, A.cl, A.od, B.la, A.X⟩, y ∈ MM B A := fun y hy => by
    simp only [StoA.M, List.mem_cons, List.not_mem_nil, or_false] at hy
    rcases hy with rfl | rfl | rfl | rfl <;> simp [MM]
  have sub2 : ∀ y ∈ AX ⟨A.a, A.cl, A.od, B.la, A.X⟩, y ∈ MX B A := fun y hy => (List.mem_append.mp hy).elim (fun h => List.mem_append_left _ (sub y h)) fun h => List.mem_append_right _ h
  have k : Keep (MM B A) (MM B A) H (upd H A.a (.ins C.st dy (stF s.n A.cl s.marks s.next A.od B.la))) := Keep.put (by simp [MM])
  have k2 : Keep (MX B A) (MX B A) H (upd H A.a (.ins C.st dy (stF s.n A.cl s.marks s.next A.od B.la))) := Keep.put (by simp [MM])
  refine ⟨⟨⟨dy, by rw [upd_same, e1, e3, e4]⟩, (upd_ne (ndne nd 7 6)).trans R.cl, e2.trans R.cs, ?_, hla.put (ndne nd 5 6), fun p hp => (R.each p hp).keep (k2.weak sub2), ?_, fun x hx => List.mem_append_left _ hx, fun x hx z => R.al x (sub2 x hx) (k.2 x z)⟩, k.weak sub⟩
  · rw [e5]
    exact (upd_ne (ndne nd 8 6)).trans R.od
  · simp only [StoA.M, List.nodup_cons, List.mem_cons, List.not_mem_nil, or_false, not_or]
    exact ⟨⟨ndne nd 6 7, ndne nd 6 8, ndne nd 6 5⟩, ⟨ndne nd 7 8, ndne nd 7 5⟩, ndne nd 8 5, not_false, List.nodup_nil⟩
abbrev st_decide : Stmt := top 32
abbrev N_decide : List Str := ["store", "most", "assumptions", "settings", "learnt_here", "found", "broken"]
theorem sc_decide : FnScope N_decide ["store", "most", "assumptions"] (defScope st_decide) := ⟨rfl, rfl, rfl, by decide +kernel, rfl, by decide +kernel, by decide +kernel⟩
theorem ok_decide {f : Addr} {fd : FuncData} (F : Fun K "decide" "decide" st_decide f fd) (T : Txt K mg C) (m_Settings : Mak P w K mg base 1 "Settings" C.se ["self", "store"] (spSettings C)) (c_set_what_follows : Cal P w K mg base 4 "set_what_follows" ["settings"] (spFollow C)) (c_go_on : Cal P w K mg base 3 "go_on" ["settings", "assumptions"] (spGo C K)) (c_learn : Cal P w K mg base 4 "learn" ["settings", "broken"] (spLearn C)) : FnOk P w K mg base CX0 5 f fd ["store", "most", "assumptions"] (spDecide C K) := by
  refine F.ok sc_decide (fun vs H Q E h => ?_) (fun cdv A outer s H vs Q E hr h => ⟨_, (pss_cons (ps_set (i := 3) sc_decide.nd rfl (Or.inl rfl) (pe_mak m_Settings (hr.mono (by decide)) (by rfl) (pa_cons (pv 0) pa_nil)))
      (pss_cons (ps_set (i := 4) sc_decide.nd rfl (Or.inl rfl) pe_int)
      (pss_cons (ps_set (i := 5) sc_decide.nd rfl (Or.inl rfl) pe_non)
      (pss_cons (ps_while PassesOwn.never (pt_cmpR op_isN (pv 5) pe_non (nomark _)) (pss_cons (ps_set (i := 6) sc_decide.nd rfl (Or.inl rfl) (pe_cal c_set_what_follows (hr.mono (by decide)) (by rfl) (pa_cons (pv 3) pa_nil)))
      (pss_one (ps_if (pt_cmpR op_isN (pv 6) pe_non (nomark _)) (pss_one (ps_set (i := 5) sc_decide.nd rfl (Or.inl rfl) (pe_cal c_go_on (hr.mono (by decide)) (by rfl) (pa_cons (pv 3) (pa_cons (pv 2) pa_nil))))) (pss_one (ps_if (pt_cmpR op_eq (pe_fld (pv 3) rfl) pe_int (nomark _)) (pss_one (ps_set (i := 5) sc_decide.nd rfl (Or.inl rfl) (pe_lst (pa_cons pe_int (pa_cons pe_int pa_nil))))) (pss_one (ps_if (pt_cmpR op_eq (pv 4) (pv 1) (nomark _)) (pss_one (ps_set (i := 5) sc_decide.nd rfl (Or.inl rfl) (pe_lst (pa_cons pe_int pa_nil)))) (pss_cons (ps_expr (pe_cal c_learn (hr.mono (by decide)) (by rfl) (pa_cons (pv 3) (pa_cons (pv 6) pa_nil))))
      (pss_one (ps_aug (i := 4) sc_decide.nd rfl (Or.inl rfl) pe_int ip_add)))))))))))
      (pss_cons (ps_fld (pv 0) (pe_fld (pv 3) rfl) rfl)
      (pss_one (ps_ret (pv 5)))))))), ?_⟩)
  · obtain ⟨A, L, s, pa, as, most, rfl, _⟩ := h
    rfl
  · obtain ⟨A, L, s, pa, as, most, rfl, R, ok, hpa, ra, la, pn, Lm, q⟩ := h
    refine ⟨_, rfl, ?_⟩
    intro x dx nx nd ne
    have smx : Same H (upd (upd H dx (.own x)) x (.ins C.se dx [])) := fun b o e => by rw [upd_ne (ne_of_none e nx), upd_ne (ne_of_none e nd)]; exact e
    refine ⟨x, dx, AX A, A, L, s, true, rfl, upd_same, R.same smx, ok.n12, fun H1 B eB zt eph fr S hla bt => ⟨rfl, ?_⟩⟩
    have sm : Same H H1 := Same.made nx nd bt
    have frH : ∀ y ∈ [B.tr, B.va, B.le, B.wh, B.la], H y = none := fun y hy => smx.free (fr y hy)
    obtain ⟨W0, k0⟩ := wd_start R ok eB nx eph frH S hla sm
    subst eB
    refine ⟨fun m σ H' => (∃ (f k : Nat) (A1 : StoA) (L1 : List (Addr × Clause)) (s1 : Sm06.St) (t1 : Trail) (lv : Nat) (v6 : Option V), m = f + 1 ∧ σ = [some (.ref A.a), some (.int most), some (.ref pa), some (.ref B.a), some (.int k), some .non, v6] ∧ Wd C H' B A1 L1 s1 t1 lv ∧ Lk A1 A ∧ Keep A.M (MM B A1) H H' ∧ k ≤ most ∧ L1.length ≤ L.length + k ∧ s1.n = s.n ∧ Sm06.search as f (most - k) s1 lv t1 = Sm06.decide_ s most as ∧ (most - k + 1) * (s.n + 2) ≤ f + t1.length) ∨
        (∃ (p : Addr) (A1 : StoA) (L1 : List (Addr × Clause)) (v4 : V) (v6 : Option V), m = 0 ∧ σ = [some (.ref A.a), some (.int most), some (.ref pa), some (.ref B.a), some v4, some (.ref p), v6] ∧ StoreAt C H' (MX B A1) A1 L1 (rest B (Sm06.decide_ s most as).1) ∧ (∃ (dz : Addr) (lv : Nat), H' B.a = some (.ins C.se dz (seF A1.a lv B.tr B.va B.le B.wh B.la))) ∧ PhAt H' B.la (Sm06.decide_ s most as).1.n (Sm06.decide_ s most as).1.phase ∧ (MM B A1).Nodup ∧ SOk (Sm06.decide_ s most as).1 ∧ Lk A1 A ∧ L1.length ≤ L.length + most ∧ Keep A.M (MM B A1) H H' ∧ p ∉ MM B A1 ∧ H p = none ∧ H' p = some (.lst ((endL (Sm06.decide_ s most as).2).map V.int))),
      ⟨_, Or.inl ⟨(most + 1) * (s.n + 2), 0, A, L, s, [], 0, none, rfl, rfl, W0, Lk.refl A, k0, Nat.zero_le _, Nat.le_refl _, rfl, rfl, Nat.le_refl _⟩⟩, ?_⟩
    rintro m σ H' (⟨f, k, A1, L1, s1, t1, lv, v6, rfl, rfl, W, eA, kp, km, Ll, en, es, fu⟩ | ⟨p, A1, L1, v4, v6, rfl, rfl, R1, ⟨dz, lv, hz⟩, la1, nd1, ok1, eA, Ll, kp, pn1, hp0, hp⟩)
    · refine ⟨_, rfl, rfl, _, rfl, if_true_of rfl ⟨fun σ' H'' => ∃ m', m' < f + 1 ∧ _, fun _ _ h => h, ?_⟩⟩
      refine ⟨_, rfl, B, A1, L1, s1, t1, lv, rfl, W, fun H2 v W2 k2 bv => ?_⟩
      have tl := W.good.len
      have fmul : s.n + 2 ≤ (most - k + 1) * (s.n + 2) := Nat.le_mul_of_pos_left _ (Nat.succ_pos _)
      obtain ⟨f', rfl⟩ : ∃ f', f = f' + 1 := ⟨f - 1, by omega⟩
      have more := follow_more (cs := s1.clauses) (level := lv) (f := s1.n + 1) (t := t1)
      cases er : Sm06.follow s1.clauses lv (s1.n + 1) t1 with
      | mk t2 o =>
        rw [er] at W2 bv more
        dsimp only at W2 bv more
        have kp2 := kp.trans k2
        have fin : ∀ (H3 : Hp) (p : Addr) (e : Sm06.End), Same H2 H3 → H2 p = none → H3 p = some (.lst ((endL e).map V.int)) → Sm06.decide_ s most as = (now s1 t2, e) → StoreAt C H3 (MX B A1) A1 L1 (rest B (Sm06.decide_ s most as).1) ∧ (∃ (dz : Addr) (lv : Nat), H3 B.a = some (.ins C.se dz (seF A1.a lv B.tr B.va B.le B.wh B.la))) ∧ PhAt H3 B.la (Sm06.decide_ s most as).1.n (Sm06.decide_ s most as).1.phase ∧ (MM B A1).Nodup ∧ SOk (Sm06.decide_ s most as).1 ∧ Lk A1 A ∧ L1.length ≤ L.length + most ∧ Keep A.M (MM B A1) H H3 ∧ p ∉ MM B A1 ∧ H p = none ∧ H3 p = some (.lst ((endL (Sm06.decide_ s most as).2).map V.int)) := by
          intro H3 p e sm3 hp h3 ed
          rw [ed]
          obtain ⟨dz, hz⟩ := W2.set.ob
          exact ⟨W2.sto.same sm3, ⟨dz, lv, sm3 _ _ hz⟩, W2.la.same sm3, W2.nd, W2.ok.now (n := 0) W2.good, eA, by omega, kp2.trans (Keep.same sm3), fun z => W2.sto.al p (List.mem_append_left _ z) hp, kp2.2 p hp, h3⟩
        cases o with
        | none =>
          have ev : v = .non := bv
          subst ev
          have hpa2 : SqL K H2 pa (as.map V.int) := SqL.keep hpa kp2 pn
          refine ⟨_, rfl, rfl, _, rfl, if_true_of rfl ?_⟩
          refine ⟨_, rfl, _, rfl, B, A1, L1, s1, t2, lv, pa, as, rfl, zt, W2, hpa2, (by rw [en]; exact ra), la, fun l fd nl H3 p sm3 hp h3 => ?_, fun l fd nl H3 W3 k3 => ?_, fun fd fo H3 p sm3 hp h3 => ?_, fun fd v fo H3 W3 k3 => ?_⟩
          · have ed := es.symm.trans (search_never er fd nl)
            exact ⟨0, by omega, Or.inr ⟨p, A1, L1, .int k, some .non, rfl, rfl, fin H3 p (.never (as.filter fun a => a == l || (Sm06.decidedOf t2 [l]).contains a)) sm3 hp h3 ed⟩⟩
          · have ed := (search_assume er fd nl).symm.trans es
            exact ⟨f' + 1, by omega, Or.inl ⟨f', k, A1, L1, s1, _, lv + 1, some .non, rfl, rfl, W3, eA, kp2.trans k3, km, Ll, en, ed, by rw [List.length_cons]; omega⟩⟩
          · have ed := es.symm.trans (search_fits er fd fo)
            exact ⟨0, by omega, Or.inr ⟨p, A1, L1, .int k, some .non, rfl, rfl, fin H3 p _ sm3 hp (by rw [endL_fits]; exact h3) ed⟩⟩
          · have ed := (search_decide er fd fo).symm.trans es
            exact ⟨f' + 1, by omega, Or.inl ⟨f', k, A1, L1, s1, _, lv + 1, some .non, rfl, rfl, W3, eA, kp2.trans k3, km, Ll, en, ed, by rw [List.length_cons]; omega⟩⟩
        | some c =>
          obtain ⟨b, ev, hb⟩ := bv
          subst ev
          obtain ⟨dz, hz⟩ := W2.set.ob
          have hno := follow_not er
          refine ⟨_, rfl, rfl, _, rfl, if_false_of rfl ?_⟩
          refine ⟨_, rfl, B.a, C.se, dz, _, _, rfl, hz, T.seC, T.se_level, seF_level, rfl, _, rfl, ?_⟩
          by_cases c0 : lv = 0
          · refine if_true_of (decide_eq_true (by rw [c0]; rfl)) ⟨(by show 2 ≤ sizeLine; decide), fun p hp => ?_⟩
            have ed := es.symm.trans (search_low er c0)
            exact ⟨0, by omega, Or.inr ⟨p, A1, L1, .int k, some (.ref b), rfl, rfl, fin _ p _ (Same.new hp) hp upd_same ed⟩⟩
          · refine if_false_of (decide_eq_false (by intro z; exact c0 (Int.ofNat.inj (V.int.inj z)))) ?_
            refine ⟨_, rfl, _, rfl, rfl, _, rfl, ?_⟩
            by_cases cm : k = most
            · refine if_true_of (decide_eq_true (by rw [cm])) ⟨(by show 1 ≤ sizeLine; decide), fun p hp => ?_⟩
              have ed := es.symm.trans (search_enough er c0 (by omega))
              exact ⟨0, by omega, Or.inr ⟨p, A1, L1, .int k, some (.ref b), rfl, rfl, fin _ p _ (Same.new hp) hp upd_same ed⟩⟩
            · refine if_false_of (decide_eq_false (by intro z; exact cm (Int.ofNat.inj (V.int.inj z)))) ?_
              refine ⟨_, rfl, _, rfl, B, A1, L1, s1, t2, lv, b, c, rfl, zt, W2, hb, hno.2, by omega, by omega, fun H3 A2 L2 W3 eA2 eL2 k3 => ?_⟩
              refine ⟨_, rfl, _, _, rfl, rfl, ?_⟩
              have ed := (search_learn er c0 (show most - k ≠ 0 by omega)).symm.trans es
              rw [show most - k - 1 = most - (k + 1) by omega] at ed
              have tl2 := W2.good.len
              refine ⟨f' + 1, by omega, Or.inl ⟨f', k + 1, A2, L2, _, _, _, some (.ref b), rfl, rfl, W3, eA2.trans eA, kp2.trans k3, by omega, by omega, en, ed, ?_⟩⟩
              have : (most - k + 1) * (s.n + 2) = (most - (k + 1) + 1) * (s.n + 2) + (s.n + 2) := by
                rw [show most - k + 1 = (most - (k + 1) + 1) + 1 by omega, Nat.add_mul, Nat.one_mul]
              omega
    · refine ⟨_, rfl, rfl, _, rfl, if_false_of rfl ?_⟩
      obtain ⟨a1, cl1, od1, l1, X1⟩ := A1
      obtain ⟨ea, ex⟩ := eA
      dsimp only at ea ex
      subst ea
      obtain ⟨dy, hb⟩ := R1.ob
      refine ⟨_, rfl, B.a, C.se, dz, _, _, rfl, hz, T.seC, T.se_last_so, seF_last_so, _, rfl, A.a, C.st, dy, _, rfl, hb, T.stC, T.st_last_so, (by show 6 < 1000; decide), ?_⟩
      rw [stF_put_last_so]
      obtain ⟨R2, k2⟩ := R1.last (dy := dy) (s' := (Sm06.decide_ s most as).1) la1 nd1 rfl rfl rfl rfl rfl
      have pa1 : p ≠ A.a := fun e => pn1 (by rw [e]; simp [MM])
      refine ⟨_, rfl, q _ p _ L1 R2 ok1 ⟨rfl, ex⟩ Ll (kp.trans k2) (fun z => pn1 ?_) hp0 ((upd_ne pa1).trans hp)⟩
      simp only [StoA.M, List.mem_cons, List.not_mem_nil, or_false] at z
      rcases z with e | e | e | e <;> rw [e] <;> simp [MM]
end Kc
set_option Elab.async false
set_option maxRecDepth 100000
set_option maxHeartbeats 2000000
set_option linter.all false
namespace Kc
open PySem PySem.Spec PyProof.Rows L2
open Sm06 (Clause Trail)
variable {P : Program} {w : World} {K : PySem.W.Frag} {mg : Str → Option Value} {base : Heap} {C : Cs}
def spWrong (C : Cs) (K : PySem.W.Frag) : Sp := fun vs H Q _ => ∃ M A L s p ls, vs = [.ref (StoA.a A), .ref p] ∧ StoreAt C H M A L s ∧ SqL K H p ((ls : List Int).map V.int) ∧ ls.length ≤ 1000 ∧ ∀ H', Same H H' → Q (.bl (!ls.all (Sm06.isLit s.n))) H'
abbrev st_has_wrong_literal : Stmt := top 41
abbrev N_has_wrong_literal : List Str := ["store", "literals", "literal"]
theorem sc_has_wrong_literal : FnScope N_has_wrong_literal ["store", "literals"] (defScope st_has_wrong_literal) := ⟨rfl, rfl, rfl, by decide +kernel, rfl, by decide +kernel, by decide +kernel⟩
theorem ok_has_wrong_literal {f : Addr} {fd : FuncData} (F : Fun K "has_wrong_literal" "has_wrong_literal" st_has_wrong_literal f fd) (T : Txt K mg C) : FnOk P w K mg base CX0 1 f fd ["store", "literals"] (spWrong C K) := by
  refine F.ok sc_has_wrong_literal (fun vs H Q E h => ?_) (fun cdv A outer s H vs Q E hr h => ⟨_, (pss_one (ps_ret (pe_callB (cr_any rfl) (by rfl) T.b_any (by decide +kernel) (pa_cons (pe_lc (own := [("literal", 2)]) (g := gName 2) rfl sc_has_wrong_literal.nd (pi_list (pv 1)) (blkOk_by (own := [("literal", 2)]) (N := N_has_wrong_literal) (sc := defScope st_has_wrong_literal) (by decide +kernel)) (fun _ _ _ _ _ => pg_name (i := 2) sc_has_wrong_literal.nd rfl (Or.inl rfl)) (fun _ _ _ _ _ => by exact pts_nil) (fun _ _ _ _ _ => by exact (pe_or (pe_cmpR op_eq (pv 2) pe_int (nomark _)) (pe_one (pe_cmpR op_gt (pe_callB call_abs (by rfl) T.b_abs (by decide +kernel) (pa_cons (pv 2) pa_nil)) (pe_fldK K (pv 0) rfl) (nomark _)))))) pa_nil)))), ?_⟩)
  · obtain ⟨M, A, L, s, p, ls, rfl, _⟩ := h
    rfl
  · obtain ⟨M, A, L, s, p, ls, rfl, R, hp, ll, q⟩ := h
    obtain ⟨dy, hb⟩ := R.ob
    refine ⟨_, rfl, p, rfl, ⟨_, hp⟩, fun D hD => lc_list (K := K) (a := p) (xs := ls.map V.int) (fun i H' => H' = upd H D (.lst (((ls.take i).map fun l => !Sm06.isLit s.n l).map V.bl))) rfl (fun i H' _ e => ?_) ?_ ?_⟩
    · rw [e]
      exact (Same.new hD).seq hp
    · rintro i y H' hi rfl
      obtain ⟨l, hz, rfl⟩ := get_of_map hi
      have tk : ls.take (i + 1) = ls.take i ++ [l] := by rw [List.take_add_one, hz]; rfl
      have len : (((ls.take i).map fun l => !Sm06.isLit s.n l).map V.bl).length < sizeLine := by
        rw [List.length_map, List.length_map, List.length_take]
        exact small1000 (by omega)
      refine ⟨rfl, _, rfl, rfl, _, rfl, ?_⟩
      by_cases c : l = 0
      · refine if_true_of (decide_eq_true (by rw [c])) ⟨_, upd_same, len, ?_⟩
        rw [upd_upd, tk, List.map_append, List.map_append]
        subst c
        rfl
      · refine if_false_of (decide_eq_false (by intro z; exact c (V.int.inj z))) ?_
        refine ⟨_, rfl, _, rfl, _, rfl, A.a, C.st, dy, _, _, rfl, Same.new hD _ _ hb, T.stC, T.st_size, stF_size, _, _, rfl, rfl, _, upd_same, len, ?_⟩
        rw [upd_upd, tk, List.map_append, List.map_append]
        refine congrArg (fun z => upd H D (.lst (_ ++ [V.bl z]))) ?_
        rw [abs_ix]
        unfold Sm06.isLit
        dsimp only
        by_cases c2 : l.natAbs ≤ s.n
        · rw [decide_eq_false (by omega), decide_eq_true (show 1 ≤ l.natAbs by omega), decide_eq_true c2]
          rfl
        · rw [decide_eq_true (by omega), decide_eq_false c2, Bool.and_false]
          rfl
    · rintro H' rfl
      rw [List.length_map, List.take_length]
      refine ⟨D, _, rfl, SqL.of upd_same, ?_⟩
      have e : (ls.map fun l => !Sm06.isLit s.n l).any id = !ls.all (Sm06.isLit s.n) := by
        rw [List.any_map, List.not_all_eq_any_not]
        rfl
      rw [e]
      exact q _ (Same.new hD)
def spBoth (K : PySem.W.Frag) : Sp := fun vs H Q _ => ∃ p ls, vs = [.ref p] ∧ SqL K H p ((ls : List Int).map V.int) ∧ ls.length ≤ 1000 ∧ ∀ H', Same H H' → Q (.bl (!Sm06.plain ls)) H'
abbrev st_is_told_both_ways : Stmt := top 42
abbrev N_is_told_both_ways : List Str := ["literals", "literal"]
theorem sc_is_told_both_ways : FnScope N_is_told_both_ways ["literals"] (defScope st_is_told_both_ways) := ⟨rfl, rfl, rfl, by decide +kernel, rfl, by decide +kernel, by decide +kernel⟩
theorem ok_is_told_both_ways {f : Addr} {fd : FuncData} (F : Fun K "is_told_both_ways" "is_told_both_ways" st_is_told_both_ways f fd) (T : Txt K mg C) : FnOk P w K mg base CX0 1 f fd ["literals"] (spBoth K) := by
  refine F.ok sc_is_told_both_ways (fun vs H Q E h => ?_) (fun cdv A outer s H vs Q E hr h => ⟨_, (pss_one (ps_ret (pe_callB (cr_any rfl) (by rfl) T.b_any (by decide +kernel) (pa_cons (pe_lc (own := [("literal", 1)]) (g := gName 1) rfl sc_is_told_both_ways.nd (pi_list (pv 0)) (blkOk_by (own := [("literal", 1)]) (N := N_is_told_both_ways) (sc := defScope st_is_told_both_ways) (by decide +kernel)) (fun _ _ _ _ _ => pg_name (i := 1) sc_is_told_both_ways.nd rfl (Or.inl rfl)) (fun _ _ _ _ _ => by exact pts_nil) (fun _ _ _ _ _ => by exact (pe_cmpR (op_in_seqK K) (pe_un un_neg (pv 1)) (pv 0) (by rfl)))) pa_nil)))), ?_⟩)
  · obtain ⟨p, ls, rfl, _⟩ := h
    rfl
  · obtain ⟨p, ls, rfl, hp, ll, q⟩ := h
    refine ⟨_, rfl, p, rfl, ⟨_, hp⟩, fun D hD => lc_list (K := K) (a := p) (xs := ls.map V.int) (fun i H' => H' = upd H D (.lst (((ls.take i).map fun l => ls.contains (-l)).map V.bl))) rfl (fun i H' _ e => ?_) ?_ ?_⟩
    · rw [e]
      exact (Same.new hD).seq hp
    · rintro i y H' hi rfl
      obtain ⟨l, hz, rfl⟩ := get_of_map hi
      have tk : ls.take (i + 1) = ls.take i ++ [l] := by rw [List.take_add_one, hz]; rfl
      have len : (((ls.take i).map fun l => ls.contains (-l)).map V.bl).length < sizeLine := by
        rw [List.length_map, List.length_map, List.length_take]
        exact small1000 (by omega)
      refine ⟨rfl, _, rfl, _, rfl, _, rfl, p, _, rfl, Or.inl ((Same.new hD).seq hp), rfl, flat_ints, _, upd_same, len, ?_⟩
      rw [upd_upd, tk, List.map_append, List.map_append]
      show upd H D (.lst (_ ++ [V.bl (inV (.int (-l)) (ls.map V.int))])) = _
      rw [inV_int]
      rfl
    · rintro H' rfl
      rw [List.length_map, List.take_length]
      refine ⟨D, _, rfl, SqL.of upd_same, ?_⟩
      have e : (ls.map fun l => ls.contains (-l)).any id = !Sm06.plain ls := by
        unfold Sm06.plain
        rw [List.any_map, List.not_all_eq_any_not]
        refine congrArg (fun g => ls.any g) (funext fun l => ?_)
        show ls.contains (-l) = !!ls.contains (0 - l)
        rw [Bool.not_not, show (0 - l) = -l by omega]
      rw [e]
      exact q _ (Same.new hD)
def onceK (ls : List Int) : List Int := ls.foldl addK []
theorem onceK_mem {z : Int} : ∀ {ls ks : List Int}, z ∈ ls.foldl addK ks ↔ z ∈ ks ∨ z ∈ ls
  | [], ks => by simp
  | x :: ls, ks => by
    rw [List.foldl_cons, onceK_mem (ls := ls), mem_addK, List.mem_cons]
    constructor
    · rintro ((h | h) | h)
      · exact Or.inl h
      · exact Or.inr (Or.inl h)
      · exact Or.inr (Or.inr h)
    · rintro (h | h | h)
      · exact Or.inl (Or.inl h)
      · exact Or.inl (Or.inr h)
      · exact Or.inr h
theorem onceK_nodup : ∀ {ls ks : List Int}, ks.Nodup → (ls.foldl addK ks).Nodup
  | [], _, h => h
  | _ :: ls, _, h => onceK_nodup (ls := ls) (nodup_addK h)
theorem onceK_len : ∀ {ls ks : List Int}, (ls.foldl addK ks).length ≤ ks.length + ls.length
  | [], ks => Nat.le_refl _
  | x :: ls, ks => by
    rw [List.foldl_cons]
    refine Nat.le_trans (onceK_len (ls := ls)) ?_
    have := len_addK (ks := ks) (k := x)
    rw [List.length_cons]
    omega
theorem sk_keys {ks : List Int} : (sk ks).map (fun kv => kV kv.1) = ks.map V.int := by
  unfold sk
  rw [List.map_map]
  rfl
def spOnce (K : PySem.W.Frag) : Sp := fun vs H Q _ => ∃ p ls, vs = [.ref p] ∧ SqL K H p ((ls : List Int).map V.int) ∧ ls.length ≤ 1000 ∧ ∀ H' p', Same H H' → H p' = none → H' p' = some (.lst ((onceK ls).map V.int)) → Q (.ref p') H'
abbrev st_each_once : Stmt := top 43
abbrev N_each_once : List Str := ["literals", "told", "literal"]
theorem sc_each_once : FnScope N_each_once ["literals"] (defScope st_each_once) := ⟨rfl, rfl, rfl, by decide +kernel, rfl, by decide +kernel, by decide +kernel⟩
theorem ok_each_once {f : Addr} {fd : FuncData} (F : Fun K "each_once" "each_once" st_each_once f fd) (T : Txt K mg C) : FnOk P w K mg base CX0 1 f fd ["literals"] (spOnce K) := by
  refine F.ok sc_each_once (fun vs H Q E h => ?_) (fun cdv A outer s H vs Q E hr h => ⟨_, (pss_cons (ps_set (i := 1) sc_each_once.nd rfl (Or.inl rfl) pe_dnewK)
      (pss_cons (ps_for PassesOwn.never rfl (pi_list (pv 0)) (pg_name (i := 2) sc_each_once.nd rfl (Or.inl rfl)) (pss_one (ps_dput (hu_of hr) (pv 1) (pv 2) pe_bl rfl)))
      (pss_one (ps_ret (pe_callTy (call_list_dK rfl) (by rfl) T.b_list (by decide +kernel) (pa_cons (pv 1) pa_nil)))))), ?_⟩)
  · obtain ⟨p, ls, rfl, _⟩ := h
    rfl
  · obtain ⟨p, ls, rfl, hp, ll, q⟩ := h
    intro d hd
    have sm : ∀ o, Same H (upd H d o) := fun o => Same.new hd
    refine ⟨_, rfl, p, rfl, ⟨_, (sm _).seq hp⟩, for_list (K := K) (a := p) (xs := ls.map V.int) (fun i σ H' => ∃ v : Option V, σ = [some (.ref p), some (.ref d), v] ∧ H' = upd H d (.dK (sk (onceK (ls.take i))))) ⟨none, rfl, rfl⟩ (fun i σ H' _ ⟨_, _, e⟩ => by rw [e]; exact (sm _).seq hp) ?_ ?_⟩
    · rintro i y σ H' hi ⟨v, rfl, rfl⟩
      obtain ⟨l, hz, rfl⟩ := get_of_map hi
      have tk : onceK (ls.take (i + 1)) = addK (onceK (ls.take i)) l := by
        unfold onceK
        rw [List.take_add_one, hz, List.foldl_append]
        rfl
      refine ⟨_, rfl, _, rfl, d, _, rfl, DPut.k (k := Sum.inl l) upd_same ?_, ?_⟩
      · rw [sk_len]
        refine small1000 (Nat.le_trans onceK_len ?_)
        rw [List.length_take]
        simp only [List.length_nil]
        omega
      · rw [upd_upd, sk_put]
        exact ⟨some (.int l), rfl, by rw [tk]⟩
    · rintro σ H' ⟨v, rfl, rfl⟩
      rw [List.length_map, List.take_length]
      refine ⟨_, rfl, d, _, rfl, upd_same, fun p' hp' => ?_⟩
      rw [sk_keys]
      exact q _ p' ((sm _).trans (Same.new hp')) ((sm _).free hp') upd_same
def spTold (C : Cs) (K : PySem.W.Frag) : Sp := fun vs H Q _ => ∃ M p U, vs = [.ref p] ∧ SqL K H p ((U : List (Addr × Clause)).map fun q => V.ref q.1) ∧ (∀ q ∈ U, ClauseAt C H M q.1 q.2 ∧ q.2.lits.length ≤ 12) ∧ U.length ≤ 100000 ∧
  ∀ H' p', Same H H' → H p' = none → H' p' = some (.lst ((U.flatMap fun q => Sm06.toldClause q.2).map V.int)) → Q (.ref p') H'
theorem told_len {U : List (Addr × Clause)} (h : ∀ q ∈ U, q.2.lits.length ≤ 12) : (U.flatMap fun q => Sm06.toldClause q.2).length ≤ 15 * U.length := by
  induction U with
  | nil => exact Nat.le_refl _
  | cons x U ih =>
    rw [List.flatMap_cons, List.length_append, List.length_cons]
    have h1 := ih fun q hq => h q (List.mem_cons_of_mem _ hq)
    have h2 := h x List.mem_cons_self
    have : (Sm06.toldClause x.2).length = x.2.lits.length + 3 := rfl
    omega
abbrev st_told_clauses : Stmt := top 49
abbrev N_told_clauses : List Str := ["clauses", "told", "clause"]
theorem sc_told_clauses : FnScope N_told_clauses ["clauses"] (defScope st_told_clauses) := ⟨rfl, rfl, rfl, by decide +kernel, rfl, by decide +kernel, by decide +kernel⟩
theorem ok_told_clauses {f : Addr} {fd : FuncData} (F : Fun K "told_clauses" "told_clauses" st_told_clauses f fd) (T : Txt K mg C) : FnOk P w K mg base CX0 1 f fd ["clauses"] (spTold C K) := by
  refine F.ok sc_told_clauses (fun vs H Q E h => ?_) (fun cdv A outer s H vs Q E hr h => ⟨_, (pss_cons (ps_set (i := 1) sc_told_clauses.nd rfl (Or.inl rfl) (pe_lst pa_nil))
      (pss_cons (ps_for PassesOwn.never rfl (pi_list (pv 0)) (pg_name (i := 2) sc_told_clauses.nd rfl (Or.inl rfl)) (pss_cons (ps_expr (pe_bm PySem.F.plainAttrs_list PySem.F.slot_list_extend PySem.F.type_list_extend mt_extend (pv 1) (pa_cons (pe_lst (pa_cons (pe_fld (pv 2) rfl) (pa_cons (pe_fld (pv 2) rfl) (pa_cons (pe_callB call_len_seq (by rfl) T.b_len PySem.boot_len (pa_cons (pe_fld (pv 2) rfl) pa_nil)) pa_nil)))) pa_nil)))
      (pss_one (ps_expr (pe_bm PySem.F.plainAttrs_list PySem.F.slot_list_extend PySem.F.type_list_extend mt_extend (pv 1) (pa_cons (pe_fld (pv 2) rfl) pa_nil))))))
      (pss_one (ps_ret (pv 1))))), ?_⟩)
  · obtain ⟨M, p, U, rfl, _⟩ := h
    rfl
  · obtain ⟨M, p, U, rfl, hp, hU, ul, q⟩ := h
    refine ⟨Nat.zero_le _, fun d hd => ?_⟩
    have sm : ∀ o, Same H (upd H d o) := fun o => Same.new hd
    refine ⟨_, rfl, p, rfl, ⟨_, (sm _).seq hp⟩, for_list (K := K) (a := p) (xs := U.map fun q => V.ref q.1) (fun i σ H' => ∃ v : Option V, σ = [some (.ref p), some (.ref d), v] ∧ Same H H' ∧ H' d = some (.lst (((U.take i).flatMap fun q => Sm06.toldClause q.2).map V.int))) ⟨none, rfl, sm _, upd_same⟩ (fun i σ H' _ ⟨_, _, e, _⟩ => e.seq hp) ?_ ?_⟩
    · rintro i y σ H' hi ⟨v, rfl, s1, hd1⟩
      obtain ⟨u, hz, rfl⟩ := get_of_map hi
      have hm : u ∈ U := List.mem_of_getElem? hz
      obtain ⟨⟨dx, li, co, h1, h2, _⟩, l12⟩ := hU u hm
      have tk : ((U.take (i + 1)).flatMap fun q => Sm06.toldClause q.2) = ((U.take i).flatMap fun q => Sm06.toldClause q.2) ++ Sm06.toldClause u.2 := by
        rw [List.take_add_one, hz, List.flatMap_append]
        simp
      have tlen := told_len (U := U.take i) fun r hr => (hU r (List.mem_of_mem_take hr)).2
      have tl2 : (U.take i).length ≤ 100000 := by rw [List.length_take]; omega
      refine ⟨_, rfl, Or.inl ⟨rfl, _, SqL.of hd1⟩, _, rfl, u.1, C.cl, dx, _, _, rfl, s1 _ _ h1, T.clC, T.cl_number, clF_number, _, rfl, u.1, C.cl, dx, _, _, rfl, s1 _ _ h1, T.clC, T.cl_height, clF_height, _, rfl, u.1, C.cl, dx, _, _, rfl, s1 _ _ h1, T.clC, T.cl_literals, clF_literals, li, _, rfl, Or.inl (SqL.of (s1 _ _ h2)), (by show 3 ≤ sizeLine; decide), fun p3 hp3 => ?_⟩
      have d3 : d ≠ p3 := ne_of_none hd1 hp3
      have s2 : Same H (upd H' p3 (.lst [.int u.2.num, .int u.2.height, .int ((u.2.lits.map V.int).length : Nat)])) := s1.trans (Same.new hp3)
      refine ⟨d, p3, _, _, rfl, rfl, Same.new hp3 _ _ hd1, upd_same, ?_, ?_⟩
      · rw [List.length_map]
        show _ + 3 ≤ sizeLine
        exact Nat.le_trans (by omega : _ ≤ 1600000) (by decide)
      have s3 : Same H (upd (upd H' p3 (.lst [.int u.2.num, .int u.2.height, .int ((u.2.lits.map V.int).length : Nat)])) d (.lst ((((U.take i).flatMap fun q => Sm06.toldClause q.2).map V.int) ++ [.int u.2.num, .int u.2.height, .int ((u.2.lits.map V.int).length : Nat)]))) := fun b o e => by
        rw [upd_ne (ne_of_none e hd)]
        exact s2 b o e
      refine ⟨_, rfl, Or.inl ⟨rfl, _, SqL.of upd_same⟩, _, rfl, u.1, C.cl, dx, _, _, rfl, s3 _ _ h1, T.clC, T.cl_literals, clF_literals, d, li, _, _, rfl, rfl, upd_same, s3 _ _ h2, ?_, ?_⟩
      · rw [List.length_append, List.length_map, List.length_map]
        show _ + 3 + _ ≤ sizeLine
        exact Nat.le_trans (by omega : _ ≤ 1600000) (by decide)
      · refine ⟨some (.ref u.1), rfl, fun b o e => ?_, ?_⟩
        · rw [upd_ne (ne_of_none e hd)]
          exact s3 b o e
        · rw [upd_same, tk, List.map_append, List.length_map, List.append_assoc]
          rfl
    · rintro σ H' ⟨v, rfl, s1, hd1⟩
      rw [List.length_map, List.take_length] at hd1
      exact ⟨_, rfl, q H' d s1 hd hd1⟩
end Kc
set_option Elab.async false
set_option maxRecDepth 100000
set_option maxHeartbeats 2000000
set_option linter.all false
namespace Kc
open PySem PySem.Spec PyProof.Rows L2
open Sm06 (Clause Trail)
variable {P : Program} {w : World} {K : PySem.W.Frag} {mg : Str → Option Value} {base : Heap} {C : Cs}
theorem SqL.ins {H : Hp} {a r : Addr} {xs : List V} {Cc dx : Addr} {fs : List (Str × V)} {o : HO} (h : SqL K H a xs) (hr : H r = some (.ins Cc dx fs)) : SqL K (upd H r o) a xs := by
  rcases h with (h | ⟨u, h⟩) | h
  · exact .inl (.inl (by rw [upd_ne (ne_of h hr (by intro z; cases z))]; exact h))
  · exact .inl (.inr ⟨u, by rw [upd_ne (ne_of h hr (by intro z; cases z))]; exact h⟩)
  · exact .inr h
theorem cut_nat {xs : List V} {i k : Nat} (h : i + k ≤ xs.length) : cutV xs (some (i : Int)) (some ((i : Int) + (k : Int))) = (xs.drop i).take k := by
  have e1 : HT.sIx xs.length 0 (some (i : Int)) = i := by
    simp only [HT.sIx]
    rw [if_neg (by omega)]
    omega
  have e2 : HT.sIx xs.length xs.length (some ((i : Int) + (k : Int))) = i + k := by
    simp only [HT.sIx]
    rw [if_neg (by omega)]
    omega
  unfold cutV
  rw [e1, e2, show i + k - i = k by omega]
def spReader (C : Cs) : Sp := fun vs H Q _ => ∃ x dx ca, vs = [.ref x, .ref ca] ∧ H x = some (.ins C.rd dx []) ∧ Q .non (upd H x (.ins C.rd dx (rdF ca 0)))
abbrev st_Reader___init__ : Stmt := inClass (top 40) 0
abbrev N_Reader___init__ : List Str := ["self", "calls"]
theorem sc_Reader___init__ : FnScope N_Reader___init__ ["self", "calls"] (defScope st_Reader___init__) := ⟨rfl, rfl, rfl, by decide +kernel, rfl, by decide +kernel, by decide +kernel⟩
theorem ok_Reader {f : Addr} {fd : FuncData} (F : Fun K "__init__" "Reader.__init__" st_Reader___init__ f fd) (T : Txt K mg C) : FnOk P w K mg base CX0 1 f fd ["self", "calls"] (spReader C) := by
  refine F.ok sc_Reader___init__ (fun vs H Q E h => ?_) (fun cdv A outer s H vs Q E hr h => ⟨_, (pss_cons (ps_fld (pv 0) (pv 1) rfl)
      (pss_one (ps_fld (pv 0) pe_int rfl))), ?_⟩)
  · obtain ⟨x, dx, ca, rfl, _⟩ := h
    rfl
  · obtain ⟨x, dx, ca, rfl, hx, q⟩ := h
    refine ⟨_, rfl, _, rfl, x, C.rd, dx, [], rfl, hx, T.rdC, T.rd_calls, (by show 0 < 1000; decide), ?_⟩
    refine ⟨_, rfl, x, C.rd, dx, _, rfl, upd_same, T.rdC, T.rd_place, (by show 1 < 1000; decide), ?_⟩
    rw [upd_upd]
    have e : putF "place" (.int 0) (putF "calls" (.ref ca) []) = rdF ca 0 := (put_past (by decide +kernel)).trans rfl
    rw [e]
    exact q
def spMore (C : Cs) (K : PySem.W.Frag) : Sp := fun vs H Q _ => ∃ r dx ca ns, ∃ i : Nat, vs = [.ref r] ∧ H r = some (.ins C.rd dx (rdF ca i)) ∧ SqL K H ca ((ns : List Int).map V.int) ∧ Q (.bl (decide (i < ns.length))) H
abbrev st_Reader_has_more : Stmt := inClass (top 40) 1
abbrev N_Reader_has_more : List Str := ["self"]
theorem sc_Reader_has_more : FnScope N_Reader_has_more ["self"] (defScope st_Reader_has_more) := ⟨rfl, rfl, rfl, by decide +kernel, rfl, by decide +kernel, by decide +kernel⟩
theorem ok_has_more {f : Addr} {fd : FuncData} (F : Fun K "has_more" "Reader.has_more" st_Reader_has_more f fd) (T : Txt K mg C) : FnOk P w K mg base CX0 1 f fd ["self"] (spMore C K) := by
  refine F.ok sc_Reader_has_more (fun vs H Q E h => ?_) (fun cdv A outer s H vs Q E hr h => ⟨_, (pss_one (ps_ret (pe_cmpR op_lt (pe_fld (pv 0) rfl) (pe_callB call_len_seq (by rfl) T.b_len PySem.boot_len (pa_cons (pe_fld (pv 0) rfl) pa_nil)) (nomark _)))), ?_⟩)
  · obtain ⟨r, dx, ca, ns, i, rfl, _⟩ := h
    rfl
  · obtain ⟨r, dx, ca, ns, i, rfl, hr, hs, q⟩ := h
    refine ⟨_, rfl, r, C.rd, dx, _, _, rfl, hr, T.rdC, T.rd_place, rdF_place, _, rfl, r, C.rd, dx, _, _, rfl, hr, T.rdC, T.rd_calls, rdF_calls, ca, _, rfl, Or.inl hs, _, _, rfl, rfl, ?_⟩
    have e : decide (((i : Nat) : Int) < ((ns.map V.int).length : Nat)) = decide (i < ns.length) := by
      rw [List.length_map]
      exact decide_eq_decide.mpr (by omega)
    show Q (.bl (decide (((i : Nat) : Int) < ((ns.map V.int).length : Nat)))) H
    rw [e]
    exact q
def spNum (C : Cs) (K : PySem.W.Frag) : Sp := fun vs H Q _ => ∃ r dx ca ns, ∃ (i : Nat) (z : Int), vs = [.ref r] ∧ H r = some (.ins C.rd dx (rdF ca i)) ∧ SqL K H ca ((ns : List Int).map V.int) ∧ ns[i]? = some z ∧ Q (.int z) (upd H r (.ins C.rd dx (rdF ca ((i + 1 : Nat)))))
abbrev st_Reader_take_number : Stmt := inClass (top 40) 2
abbrev N_Reader_take_number : List Str := ["self", "taken"]
theorem sc_Reader_take_number : FnScope N_Reader_take_number ["self"] (defScope st_Reader_take_number) := ⟨rfl, rfl, rfl, by decide +kernel, rfl, by decide +kernel, by decide +kernel⟩
theorem ok_take_number {f : Addr} {fd : FuncData} (F : Fun K "take_number" "Reader.take_number" st_Reader_take_number f fd) (T : Txt K mg C) : FnOk P w K mg base CX0 1 f fd ["self"] (spNum C K) := by
  refine F.ok sc_Reader_take_number (fun vs H Q E h => ?_) (fun cdv A outer s H vs Q E hr h => ⟨_, (pss_cons (ps_set (i := 1) sc_Reader_take_number.nd rfl (Or.inl rfl) (pe_ix ix_list (pe_fld (pv 0) rfl) (pe_fld (pv 0) rfl) (fun _ _ => rfl)))
      (pss_cons (ps_fldaug (pv 0) pe_int in_add)
      (pss_one (ps_ret (pv 1))))), ?_⟩)
  · obtain ⟨r, dx, ca, ns, i, z, rfl, _⟩ := h
    rfl
  · obtain ⟨r, dx, ca, ns, i, z, rfl, hr, hs, hz, q⟩ := h
    refine ⟨_, rfl, r, C.rd, dx, _, _, rfl, hr, T.rdC, T.rd_calls, rdF_calls, _, rfl, r, C.rd, dx, _, _, rfl, hr, T.rdC, T.rd_place, rdF_place, ca, _, _, _, rfl, rfl, hs, atI_nat (get_map hz), ?_⟩
    refine ⟨_, rfl, r, C.rd, dx, _, _, rfl, hr, T.rdC, T.rd_place, rdF_place, _, _, rfl, rfl, dx, _, hr, (by show 2 < 1000; decide), ?_⟩
    have e : putF "place" (.int ((i : Int) + 1)) (rdF ca i) = rdF ca ((i + 1 : Nat) : Int) := by
      rw [rdF_put_place]
      rfl
    rw [← e] at q
    exact ⟨_, rfl, q⟩
def spRow (C : Cs) (K : PySem.W.Frag) : Sp := fun vs H Q _ => ∃ r dx ca ns, ∃ i k : Nat, vs = [.ref r] ∧ H r = some (.ins C.rd dx (rdF ca i)) ∧ SqL K H ca ((ns : List Int).map V.int) ∧ ns[i]? = some (k : Int) ∧ i + 1 + k ≤ ns.length ∧
  ∀ H' p, H p = none → H' p = some (.lst (((ns.drop (i + 1)).take k).map V.int)) → H' r = some (.ins C.rd dx (rdF ca ((i + 1 + k : Nat)))) → But r H H' → Q (.ref p) H'
abbrev st_Reader_take_row : Stmt := inClass (top 40) 3
abbrev N_Reader_take_row : List Str := ["self", "length", "row"]
theorem sc_Reader_take_row : FnScope N_Reader_take_row ["self"] (defScope st_Reader_take_row) := ⟨rfl, rfl, rfl, by decide +kernel, rfl, by decide +kernel, by decide +kernel⟩
theorem ok_take_row {f : Addr} {fd : FuncData} (F : Fun K "take_row" "Reader.take_row" st_Reader_take_row f fd) (T : Txt K mg C) (mt_take_number : Mtd P w K mg base 1 C.rd "take_number" ["self"] (spNum C K)) : FnOk P w K mg base CX0 2 f fd ["self"] (spRow C K) := by
  refine F.ok sc_Reader_take_row (fun vs H Q E h => ?_) (fun cdv A outer s H vs Q E hr h => ⟨_, (pss_cons (ps_set (i := 1) sc_Reader_take_row.nd rfl (Or.inl rfl) (pe_mtd0 mt_take_number (hr.mono (by decide)) (pv 0)))
      (pss_cons (ps_set (i := 2) sc_Reader_take_row.nd rfl (Or.inl rfl) (pe_slice sl_list (pe_fld (pv 0) rfl) (po_some (pe_fld (pv 0) rfl)) (po_some (pe_op op_add (pe_fld (pv 0) rfl) (pv 1)))))
      (pss_cons (ps_fldaug (pv 0) (pv 1) in_add)
      (pss_one (ps_ret (pv 2)))))), ?_⟩)
  · obtain ⟨r, dx, ca, ns, i, k, rfl, _⟩ := h
    rfl
  · obtain ⟨r, dx, ca, ns, i, k, rfl, hr, hs, hz, hk, q⟩ := h
    refine ⟨_, rfl, r, dx, _, rfl, hr, rdF_none (by decide +kernel), r, dx, ca, ns, i, k, rfl, hr, hs, hz, ?_⟩
    have hr1 : upd H r (.ins C.rd dx (rdF ca ((i + 1 : Nat)))) r = some (.ins C.rd dx (rdF ca ((i + 1 : Nat)))) := upd_same
    have hs1 := SqL.ins (o := .ins C.rd dx (rdF ca ((i + 1 : Nat)))) hs hr
    refine ⟨_, rfl, r, C.rd, dx, _, _, rfl, hr1, T.rdC, T.rd_calls, rdF_calls, _, rfl, r, C.rd, dx, _, _, rfl, hr1, T.rdC, T.rd_place, rdF_place, _, rfl, _, rfl, r, C.rd, dx, _, _, rfl, hr1, T.rdC, T.rd_place, rdF_place, _, rfl, _, _, rfl, rfl, _, rfl, ca, _, rfl, hs1, fun p hp => ?_⟩
    rw [cut_nat (by rw [List.length_map]; omega), ← List.map_drop, ← List.map_take]
    have pr : p ≠ r := fun e => by rw [e, upd_same] at hp; cases hp
    have hr2 : upd (upd H r (.ins C.rd dx (rdF ca ((i + 1 : Nat))))) p (.lst (((ns.drop (i + 1)).take k).map V.int)) r = some (.ins C.rd dx (rdF ca ((i + 1 : Nat)))) := by rw [upd_ne (Ne.symm pr)]; exact hr1
    refine ⟨_, rfl, r, C.rd, dx, _, _, rfl, hr2, T.rdC, T.rd_place, rdF_place, _, rfl, _, _, rfl, rfl, dx, _, hr2, (by show 2 < 1000; decide), ?_⟩
    have hpH : H p = none := by rw [upd_ne pr] at hp; exact hp
    refine ⟨_, rfl, q _ p hpH ?_ ?_ fun b o e ne => ?_⟩
    · rw [upd_ne pr, upd_same]
    · rw [upd_same, rdF_put_place]
      rfl
    · rw [upd_ne ne, upd_ne (ne_of_none e hpH), upd_ne ne]
      exact e
/-! ### the store, the settings made -/
theorem stF_new {n : Int} {cl : Addr} {m : Int} {x : Int} {od : Addr} {la : Addr} : putF "last_so" (.ref la) (putF "order" (.ref od) (putF "next_number" (.int x) (putF "marks" (.int m) (putF "clauses" (.ref cl) (putF "size" (.int n) []))))) = stF n cl m x od la := by
  have e1 : putF "clauses" (.ref cl) ([("size", .int n)] : List (Str × V)) = ([("size", .int n), ("clauses", .ref cl)] : List (Str × V)) := (put_past (by decide +kernel)).trans (congrArg _ (rfl))
  have e2 : putF "marks" (.int m) ([("size", .int n), ("clauses", .ref cl)] : List (Str × V)) = ([("size", .int n), ("clauses", .ref cl), ("marks", .int m)] : List (Str × V)) := (put_past (by decide +kernel)).trans (congrArg _ ((put_past (by decide +kernel)).trans (congrArg _ (rfl))))
  have e3 : putF "next_number" (.int x) ([("size", .int n), ("clauses", .ref cl), ("marks", .int m)] : List (Str × V)) = ([("size", .int n), ("clauses", .ref cl), ("marks", .int m), ("next_number", .int x)] : List (Str × V)) := (put_past (by decide +kernel)).trans (congrArg _ ((put_past (by decide +kernel)).trans (congrArg _ ((put_past (by decide +kernel)).trans (congrArg _ (rfl))))))
  have e4 : putF "order" (.ref od) ([("size", .int n), ("clauses", .ref cl), ("marks", .int m), ("next_number", .int x)] : List (Str × V)) = ([("size", .int n), ("clauses", .ref cl), ("marks", .int m), ("next_number", .int x), ("order", .ref od)] : List (Str × V)) := (put_past (by decide +kernel)).trans (congrArg _ ((put_past (by decide +kernel)).trans (congrArg _ ((put_past (by decide +kernel)).trans (congrArg _ ((put_past (by decide +kernel)).trans (congrArg _ (rfl))))))))
  have e5 : putF "last_so" (.ref la) ([("size", .int n), ("clauses", .ref cl), ("marks", .int m), ("next_number", .int x), ("order", .ref od)] : List (Str × V)) = ([("size", .int n), ("clauses", .ref cl), ("marks", .int m), ("next_number", .int x), ("order", .ref od), ("last_so", .ref la)] : List (Str × V)) := (put_past (by decide +kernel)).trans (congrArg _ ((put_past (by decide +kernel)).trans (congrArg _ ((put_past (by decide +kernel)).trans (congrArg _ ((put_past (by decide +kernel)).trans (congrArg _ ((put_past (by decide +kernel)).trans (congrArg _ (rfl))))))))))
  show putF "last_so" (.ref la) (putF "order" (.ref od) (putF "next_number" (.int x) (putF "marks" (.int m) (putF "clauses" (.ref cl) [("size", .int n)])))) = _
  rw [e1, e2, e3, e4, e5]
  rfl
theorem seF_new {st : Addr} {lv : Int} {tr : Addr} {va : Addr} {le : Addr} {wh : Addr} {la : Addr} : putF "last_so" (.ref la) (putF "clause_of" (.ref wh) (putF "level_of" (.ref le) (putF "value_of" (.ref va) (putF "trail" (.ref tr) (putF "level" (.int lv) (putF "store" (.ref st) [])))))) = seF st lv tr va le wh la := by
  have e1 : putF "level" (.int lv) ([("store", .ref st)] : List (Str × V)) = ([("store", .ref st), ("level", .int lv)] : List (Str × V)) := (put_past (by decide +kernel)).trans (congrArg _ (rfl))
  have e2 : putF "trail" (.ref tr) ([("store", .ref st), ("level", .int lv)] : List (Str × V)) = ([("store", .ref st), ("level", .int lv), ("trail", .ref tr)] : List (Str × V)) := (put_past (by decide +kernel)).trans (congrArg _ ((put_past (by decide +kernel)).trans (congrArg _ (rfl))))
  have e3 : putF "value_of" (.ref va) ([("store", .ref st), ("level", .int lv), ("trail", .ref tr)] : List (Str × V)) = ([("store", .ref st), ("level", .int lv), ("trail", .ref tr), ("value_of", .ref va)] : List (Str × V)) := (put_past (by decide +kernel)).trans (congrArg _ ((put_past (by decide +kernel)).trans (congrArg _ ((put_past (by decide +kernel)).trans (congrArg _ (rfl))))))
  have e4 : putF "level_of" (.ref le) ([("store", .ref st), ("level", .int lv), ("trail", .ref tr), ("value_of", .ref va)] : List (Str × V)) = ([("store", .ref st), ("level", .int lv), ("trail", .ref tr), ("value_of", .ref va), ("level_of", .ref le)] : List (Str × V)) := (put_past (by decide +kernel)).trans (congrArg _ ((put_past (by decide +kernel)).trans (congrArg _ ((put_past (by decide +kernel)).trans (congrArg _ ((put_past (by decide +kernel)).trans (congrArg _ (rfl))))))))
  have e5 : putF "clause_of" (.ref wh) ([("store", .ref st), ("level", .int lv), ("trail", .ref tr), ("value_of", .ref va), ("level_of", .ref le)] : List (Str × V)) = ([("store", .ref st), ("level", .int lv), ("trail", .ref tr), ("value_of", .ref va), ("level_of", .ref le), ("clause_of", .ref wh)] : List (Str × V)) := (put_past (by decide +kernel)).trans (congrArg _ ((put_past (by decide +kernel)).trans (congrArg _ ((put_past (by decide +kernel)).trans (congrArg _ ((put_past (by decide +kernel)).trans (congrArg _ ((put_past (by decide +kernel)).trans (congrArg _ (rfl))))))))))
  have e6 : putF "last_so" (.ref la) ([("store", .ref st), ("level", .int lv), ("trail", .ref tr), ("value_of", .ref va), ("level_of", .ref le), ("clause_of", .ref wh)] : List (Str × V)) = ([("store", .ref st), ("level", .int lv), ("trail", .ref tr), ("value_of", .ref va), ("level_of", .ref le), ("clause_of", .ref wh), ("last_so", .ref la)] : List (Str × V)) := (put_past (by decide +kernel)).trans (congrArg _ ((put_past (by decide +kernel)).trans (congrArg _ ((put_past (by decide +kernel)).trans (congrArg _ ((put_past (by decide +kernel)).trans (congrArg _ ((put_past (by decide +kernel)).trans (congrArg _ ((put_past (by decide +kernel)).trans (congrArg _ (rfl))))))))))))
  show putF "last_so" (.ref la) (putF "clause_of" (.ref wh) (putF "level_of" (.ref le) (putF "value_of" (.ref va) (putF "trail" (.ref tr) (putF "level" (.int lv) [("store", .ref st)]))))) = _
  rw [e1, e2, e3, e4, e5, e6]
  rfl
theorem clF_new {nu : Int} {he : Int} {li : Addr} {co : Addr} : putF "came_of" (.ref co) (putF "literals" (.ref li) (putF "height" (.int he) (putF "number" (.int nu) []))) = clF nu he li co := by
  have e1 : putF "height" (.int he) ([("number", .int nu)] : List (Str × V)) = ([("number", .int nu), ("height", .int he)] : List (Str × V)) := (put_past (by decide +kernel)).trans (congrArg _ (rfl))
  have e2 : putF "literals" (.ref li) ([("number", .int nu), ("height", .int he)] : List (Str × V)) = ([("number", .int nu), ("height", .int he), ("literals", .ref li)] : List (Str × V)) := (put_past (by decide +kernel)).trans (congrArg _ ((put_past (by decide +kernel)).trans (congrArg _ (rfl))))
  have e3 : putF "came_of" (.ref co) ([("number", .int nu), ("height", .int he), ("literals", .ref li)] : List (Str × V)) = ([("number", .int nu), ("height", .int he), ("literals", .ref li), ("came_of", .ref co)] : List (Str × V)) := (put_past (by decide +kernel)).trans (congrArg _ ((put_past (by decide +kernel)).trans (congrArg _ ((put_past (by decide +kernel)).trans (congrArg _ (rfl))))))
  show putF "came_of" (.ref co) (putF "literals" (.ref li) (putF "height" (.int he) [("number", .int nu)])) = _
  rw [e1, e2, e3]
  rfl
def st0 (n : Nat) : Sm06.St := ⟨n, [], 1, 0, (List.range n).map fun i => i + 1, []⟩
theorem st0_ok {n : Nat} (h1 : 1 ≤ n) (h2 : n ≤ 12) : SOk (st0 n) := ⟨h1, h2, fun c hc => absurd hc List.not_mem_nil, fun v hv => by
  obtain ⟨i, hi, rfl⟩ := List.mem_map.mp hv
  have := List.mem_range.mp hi
  exact ⟨by omega, this⟩, by show ((List.range n).map fun i => i + 1).length = n; rw [List.length_map, List.length_range], fun v hv => absurd hv List.not_mem_nil⟩
theorem rg_order (n : Nat) : rgV 1 ((n : Int) + 1) = ((List.range n).map fun i => i + 1).map fun v => V.int (v : Nat) := by
  unfold rgV
  rw [show ((n : Int) + 1 - 1).toNat = n by omega, List.map_map]
  refine List.map_congr_left fun i _ => ?_
  show V.int (1 + (i : Nat)) = V.int ((i + 1 : Nat) : Int)
  rw [show (1 : Int) + (i : Nat) = ((i + 1 : Nat) : Int) by omega]
theorem rep_flat {v : V} {n : Nat} : (List.replicate n [v]).flatten = List.replicate n v := by
  induction n with
  | zero => rfl
  | succ n ih => rw [List.replicate_succ, List.flatten_cons, ih, List.replicate_succ]; rfl
def spBegin (C : Cs) : Sp := fun vs H Q _ => ∃ a dx fs X, ∃ n : Nat, vs = [.ref a, .int n] ∧ H a = some (.ins C.st dx fs) ∧ (fs = [] ∨ ∃ n cl m x od la, fs = stF n cl m x od la) ∧ (∀ x ∈ X, H x ≠ none) ∧ 1 ≤ n ∧ n ≤ 12 ∧
  ∀ H' (A' : StoA), A'.a = a → A'.X = X → (∀ y ∈ [A'.cl, A'.od, A'.la], H y = none) → StoreAt C H' (AX A') A' [] (st0 n) → But a H H' → Q .non H'
abbrev st_Store_begin : Stmt := inClass (top 13) 1
abbrev N_Store_begin : List Str := ["self", "size"]
theorem sc_Store_begin : FnScope N_Store_begin ["self", "size"] (defScope st_Store_begin) := ⟨rfl, rfl, rfl, by decide +kernel, rfl, by decide +kernel, by decide +kernel⟩
theorem ok_begin {f : Addr} {fd : FuncData} (F : Fun K "begin" "Store.begin" st_Store_begin f fd) (T : Txt K mg C) : FnOk P w K mg base CX0 1 f fd ["self", "size"] (spBegin C) := by
  refine F.ok sc_Store_begin (fun vs H Q E h => ?_) (fun cdv A outer s H vs Q E hr h => ⟨_, (pss_cons (ps_fld (pv 0) (pv 1) rfl)
      (pss_cons (ps_fld (pv 0) (pe_lst pa_nil) rfl)
      (pss_cons (ps_fld (pv 0) pe_int rfl)
      (pss_cons (ps_fld (pv 0) pe_int rfl)
      (pss_cons (ps_fld (pv 0) (pe_listRg rfl (by rfl) T.b_list (prg_2 (by rfl) T.b_range pe_int (pe_op op_add (pv 1) pe_int))) rfl)
      (pss_one (ps_fld (pv 0) (pe_op op_rep (pe_lst (pa_cons pe_bl pa_nil)) (pe_op op_add (pv 1) pe_int)) rfl))))))), ?_⟩)
  · obtain ⟨a, dx, fs, X, n, rfl, _⟩ := h
    rfl
  · obtain ⟨a, dx, fs, X, n, rfl, ha, hfs, hX, n1, n12, q⟩ := h
    have fl : fs.length < 500 := by
      rcases hfs with rfl | ⟨_, _, _, _, _, _, rfl⟩
      · decide
      · show 6 < 500
        decide
    have pl : ∀ (k : Str) (v : V) (l : List (Str × V)), (putF k v l).length ≤ l.length + 1 := fun k v l => by
      induction l with
      | nil => exact Nat.le_refl _
      | cons x l ih =>
        unfold putF
        split
        · rw [List.length_cons, List.length_cons]
          omega
        · rw [List.length_cons, List.length_cons]
          omega
    refine ⟨_, rfl, _, rfl, a, C.st, dx, _, rfl, ha, T.stC, T.st_size, by omega, ?_⟩
    refine ⟨Nat.zero_le _, fun cl hcl => ⟨_, rfl, a, C.st, dx, _, rfl, (upd_ne (ne_of_none upd_same hcl)).trans upd_same, T.stC, T.st_clauses, by have := pl "size" (.int n) fs; omega, ?_⟩⟩
    have ac : cl ≠ a := fun e => by rw [e, upd_same] at hcl; cases hcl
    have c0 : H cl = none := by rw [upd_ne ac] at hcl; exact hcl
    have l1 := pl "size" (.int n) fs
    have l2 := pl "clauses" (.ref cl) (putF "size" (.int n) fs)
    have l3 := pl "marks" (.int 0) (putF "clauses" (.ref cl) (putF "size" (.int n) fs))
    refine ⟨_, rfl, a, C.st, dx, _, rfl, upd_same, T.stC, T.st_marks, by omega, ?_⟩
    refine ⟨_, rfl, a, C.st, dx, _, rfl, upd_same, T.stC, T.st_next_number, by omega, ?_⟩
    rw [upd_upd, upd_upd]
    have l4 := pl "next_number" (.int 1) (putF "marks" (.int 0) (putF "clauses" (.ref cl) (putF "size" (.int n) fs)))
    refine ⟨_, rfl, _, _, rfl, rfl, 1, _, rfl, rfl, RgOk.of_le (by decide) (by omega) (by decide) (by omega), fun od hod => ⟨_, rfl, a, C.st, dx, _, rfl, (upd_ne (ne_of_none upd_same hod)).trans upd_same, T.stC, T.st_order, by omega, ?_⟩⟩
    have ao : od ≠ a := fun e => by rw [e, upd_same] at hod; cases hod
    rw [upd_ne ao] at hod
    have co : od ≠ cl := fun e => by rw [e, upd_same] at hod; cases hod
    have o0 : H od = none := by rw [upd_ne co, upd_ne ao] at hod; exact hod
    have l5 := pl "order" (.ref od) (putF "next_number" (.int 1) (putF "marks" (.int 0) (putF "clauses" (.ref cl) (putF "size" (.int n) fs))))
    refine ⟨(by show 1 ≤ sizeLine; decide), fun q1 hq1 => ⟨_, rfl, _, _, rfl, rfl, q1, _, _, rfl, rfl, upd_same, by omega, by omega, ?_, fun la hla => ?_⟩⟩
    · show 1 * ((n : Int) + 1).toNat ≤ sizeLine
      exact Nat.le_of_lt (small1000 (by omega))
    have aq : q1 ≠ a := fun e => by rw [e, upd_same] at hq1; cases hq1
    rw [upd_ne aq] at hq1
    have oq : q1 ≠ od := fun e => by rw [e, upd_same] at hq1; cases hq1
    rw [upd_ne oq, upd_ne aq] at hq1
    have cq : q1 ≠ cl := fun e => by rw [e, upd_same] at hq1; cases hq1
    rw [upd_ne cq, upd_ne aq] at hq1
    have lq : la ≠ q1 := fun e => by rw [e, upd_same] at hla; cases hla
    rw [upd_ne lq] at hla
    have al : la ≠ a := fun e => by rw [e, upd_same] at hla; cases hla
    rw [upd_ne al] at hla
    have ol : la ≠ od := fun e => by rw [e, upd_same] at hla; cases hla
    rw [upd_ne ol, upd_ne al] at hla
    have cll : la ≠ cl := fun e => by rw [e, upd_same] at hla; cases hla
    rw [upd_ne cll, upd_ne al] at hla
    refine ⟨_, rfl, a, C.st, dx, putF "order" (.ref od) (putF "next_number" (.int 1) (putF "marks" (.int 0) (putF "clauses" (.ref cl) (putF "size" (.int n) fs)))), rfl, ?_, T.stC, T.st_last_so, ?_, ?_⟩
    · rw [upd_ne (Ne.symm al), upd_ne (Ne.symm aq), upd_same]
    · omega
    · have bt : ∀ b o, H b = some o → b ≠ a → upd (upd (upd (upd (upd (upd (upd (upd H a (.ins C.st dx (putF "size" (.int n) fs))) cl (.lst [])) a (.ins C.st dx (putF "next_number" (.int 1) (putF "marks" (.int 0) (putF "clauses" (.ref cl) (putF "size" (.int n) fs)))))) od (.lst (rgV 1 ((n : Int) + 1)))) a (.ins C.st dx (putF "order" (.ref od) (putF "next_number" (.int 1) (putF "marks" (.int 0) (putF "clauses" (.ref cl) (putF "size" (.int n) fs))))))) q1 (.lst [.bl false])) la (.lst (List.replicate ((n : Int) + 1).toNat [V.bl false]).flatten)) a (.ins C.st dx (putF "last_so" (.ref la) (putF "order" (.ref od) (putF "next_number" (.int 1) (putF "marks" (.int 0) (putF "clauses" (.ref cl) (putF "size" (.int n) fs))))))) b = some o := fun b o e ne => by
        rw [upd_ne ne, upd_ne (ne_of_none e hla), upd_ne (ne_of_none e hq1), upd_ne ne, upd_ne (ne_of_none e o0), upd_ne ne, upd_ne (ne_of_none e c0), upd_ne ne]
        exact e
      refine q _ ⟨a, cl, od, la, X⟩ rfl rfl ?_ ⟨⟨dx, ?_⟩, ?_, rfl, ?_, ⟨List.replicate (n + 1) false, ?_, ?_, ?_⟩, fun p hp => absurd hp List.not_mem_nil, ?_, fun x hx => List.mem_append_left _ hx, ?_⟩ bt
      · intro y hy
        simp only [List.mem_cons, List.not_mem_nil, or_false] at hy
        rcases hy with rfl | rfl | rfl
        · exact c0
        · exact o0
        · exact hla
      · rw [upd_same]
        refine congrArg (fun z => some (HO.ins C.st dx z)) ?_
        rcases hfs with rfl | ⟨_, _, _, _, _, _, rfl⟩
        · exact stF_new
        · rw [stF_put_size, stF_put_clauses, stF_put_marks, stF_put_next_number, stF_put_order, stF_put_last_so]
          rfl
      · rw [upd_ne ac, upd_ne (Ne.symm cll), upd_ne (Ne.symm cq), upd_ne ac, upd_ne (Ne.symm co), upd_ne ac, upd_same]
        rfl
      · rw [upd_ne ao, upd_ne (Ne.symm ol), upd_ne (Ne.symm oq), upd_ne ao, upd_same, rg_order]
        rfl
      · rw [upd_ne al, upd_same, rep_flat, List.map_replicate, show ((n : Int) + 1).toNat = n + 1 by omega]
      · rw [List.length_replicate]
        rfl
      · intro v h1 h2
        rw [List.getElem?_replicate, if_pos (by have : v ≤ n := h2; omega)]
        rfl
      · simp only [StoA.M, List.nodup_cons, List.mem_cons, List.not_mem_nil, or_false, not_or]
        exact ⟨⟨Ne.symm ac, Ne.symm ao, Ne.symm al⟩, ⟨Ne.symm co, Ne.symm cll⟩, Ne.symm ol, not_false, List.nodup_nil⟩
      · intro y hy z
        have key : y = a ∨ y = cl ∨ y = od ∨ y = la ∨ y ∈ X := by
          simpa [AX, StoA.M] using hy
        rcases key with rfl | rfl | rfl | rfl | hy
        · rw [upd_same] at z
          cases z
        · rw [upd_ne ac, upd_ne (Ne.symm cll), upd_ne (Ne.symm cq), upd_ne ac, upd_ne (Ne.symm co), upd_ne ac, upd_same] at z
          cases z
        · rw [upd_ne ao, upd_ne (Ne.symm ol), upd_ne (Ne.symm oq), upd_ne ao, upd_same] at z
          cases z
        · rw [upd_ne al, upd_same] at z
          cases z
        · cases e : H y with
          | none => exact hX y hy e
          | some o =>
            by_cases ya : y = a
            · rw [ya, upd_same] at z
              cases z
            · rw [bt y o e ya] at z
              cases z
end Kc
set_option Elab.async false
set_option maxRecDepth 100000
set_option maxHeartbeats 2000000
set_option linter.all false
namespace Kc
open PySem PySem.Spec PyProof.Rows L2
open Sm06 (Clause Trail)
variable {P : Program} {w : World} {K : PySem.W.Frag} {mg : Str → Option Value} {base : Heap} {C : Cs}
theorem But.free {x p : Addr} {H H' : Hp} {u : HO} (b : But x H H') (hx : H' x = some u) (hp : H' p = none) : H p = none := by
  cases e : H p with
  | none => rfl
  | some o =>
    by_cases q : p = x
    · rw [q, hx] at hp
      cases hp
    · rw [b p o e q] at hp
      cases hp
/-- a list stays where an object is changed -/
theorem lst_put {H : Hp} {x y : Addr} {Cc dx : Addr} {fs : List (Str × V)} {l : List V} {o : HO} (hx : H x = some (.ins Cc dx fs)) (hy : H y = some (.lst l)) : upd H x o y = some (.lst l) := by
  rw [upd_ne (ne_of hy hx (by intro z; cases z))]
  exact hy
theorem lst_ne {H : Hp} {x y : Addr} {Cc dx : Addr} {fs : List (Str × V)} {l : List V} (hx : H x = some (.ins Cc dx fs)) (hy : H y = some (.lst l)) : y ≠ x := ne_of hy hx (by intro z; cases z)
def spStore (C : Cs) : Sp := fun vs H Q _ => ∃ x dx X, ∃ n : Nat, vs = [.ref x, .int n] ∧ H x = some (.ins C.st dx []) ∧ (∀ x ∈ X, H x ≠ none) ∧ 1 ≤ n ∧ n ≤ 12 ∧
  ∀ H' (A' : StoA), A'.a = x → A'.X = X → (∀ y ∈ [A'.cl, A'.od, A'.la], H y = none) → StoreAt C H' (AX A') A' [] (st0 n) → But x H H' → Q .non H'
abbrev st_Store___init__ : Stmt := inClass (top 13) 0
abbrev N_Store___init__ : List Str := ["self", "size"]
theorem sc_Store___init__ : FnScope N_Store___init__ ["self", "size"] (defScope st_Store___init__) := ⟨rfl, rfl, rfl, by decide +kernel, rfl, by decide +kernel, by decide +kernel⟩
theorem ok_Store {f : Addr} {fd : FuncData} (F : Fun K "__init__" "Store.__init__" st_Store___init__ f fd) (T : Txt K mg C) (mt_begin : Mtd P w K mg base 1 C.st "begin" ["self", "size"] (spBegin C)) : FnOk P w K mg base CX0 2 f fd ["self", "size"] (spStore C) := by
  refine F.ok sc_Store___init__ (fun vs H Q E h => ?_) (fun cdv A outer s H vs Q E hr h => ⟨_, (pss_one (ps_expr (pe_mtd mt_begin (hr.mono (by decide)) (pv 0) (pa_cons (pv 1) pa_nil)))), ?_⟩)
  · obtain ⟨x, dx, X, n, rfl, _⟩ := h
    rfl
  · obtain ⟨x, dx, X, n, rfl, hx, hX, n1, n12, q⟩ := h
    exact ⟨_, rfl, x, dx, [], rfl, hx, rfl, _, rfl, x, dx, [], X, n, rfl, hx, Or.inl rfl, hX, n1, n12, fun H' A' e eX fr R bt => q H' A' e eX fr R bt⟩
theorem litVal_nil {l : Int} : litVal [] l = 0 := rfl
abbrev st_Settings___init__ : Stmt := inClass (top 1) 0
abbrev N_Settings___init__ : List Str := ["self", "store"]
theorem sc_Settings___init__ : FnScope N_Settings___init__ ["self", "store"] (defScope st_Settings___init__) := ⟨rfl, rfl, rfl, by decide +kernel, rfl, by decide +kernel, by decide +kernel⟩
theorem ok_Settings {f : Addr} {fd : FuncData} (F : Fun K "__init__" "Settings.__init__" st_Settings___init__ f fd) (T : Txt K mg C) : FnOk P w K mg base CX0 1 f fd ["self", "store"] (spSettings C) := by
  refine F.ok sc_Settings___init__ (fun vs H Q E h => ?_) (fun cdv A outer s H vs Q E hr h => ⟨_, (pss_cons (ps_fld (pv 0) (pv 1) rfl)
      (pss_cons (ps_fld (pv 0) pe_int rfl)
      (pss_cons (ps_fld (pv 0) (pe_lst pa_nil) rfl)
      (pss_cons (ps_fld (pv 0) (pe_op op_rep (pe_lst (pa_cons pe_int pa_nil)) (pe_op op_add (pe_fld (pv 1) rfl) pe_int)) rfl)
      (pss_cons (ps_fld (pv 0) (pe_op op_rep (pe_lst (pa_cons pe_int pa_nil)) (pe_op op_add (pe_fld (pv 1) rfl) pe_int)) rfl)
      (pss_cons (ps_fld (pv 0) (pe_op op_rep (pe_lst (pa_cons pe_non pa_nil)) (pe_op op_add (pe_fld (pv 1) rfl) pe_int)) rfl)
      (pss_one (ps_fld (pv 0) (pe_callTy call_list_of (by rfl) T.b_list (by decide +kernel) (pa_cons (pe_fld (pv 1) rfl) pa_nil)) rfl)))))))), ?_⟩)
  · obtain ⟨x, dx, M, A, L, s, z, rfl, _⟩ := h
    rfl
  · obtain ⟨x, dx, M, A, L, s, z, rfl, hx, R, n12, q⟩ := h
    obtain ⟨dy, ha⟩ := R.ob
    obtain ⟨bs, hbs, lbs, fbs⟩ := R.la
    have lax : A.la ≠ x := ne_of hbs hx (by intro z; cases z)
    have ax : A.a ≠ x := ne_of ha hx (by intro z; exact List.cons_ne_nil _ _ (HO.ins.inj z).2.2)
    have rep : ∀ v : V, (List.replicate ((s.n : Int) + 1).toNat [v]).flatten = List.replicate (s.n + 1) v := fun v => by rw [rep_flat, show ((s.n : Int) + 1).toNat = s.n + 1 by omega]
    have rl : ∀ v : V, ([v] : List V).length * ((s.n : Int) + 1).toNat ≤ sizeLine := fun v => by
      show 1 * ((s.n : Int) + 1).toNat ≤ sizeLine
      exact Nat.le_of_lt (small1000 (by omega))
    refine ⟨_, rfl, _, rfl, x, C.se, dx, [], rfl, hx, T.seC, T.se_store, (by show 0 < 1000; decide), ?_⟩
    refine ⟨_, rfl, x, C.se, dx, _, rfl, upd_same, T.seC, T.se_level, (by show 1 < 1000; decide), ?_⟩
    rw [upd_upd]
    -- the trail
    refine ⟨Nat.zero_le _, fun tr htr => ⟨_, rfl, x, C.se, dx, _, rfl, Same.new htr _ _ upd_same, T.seC, T.se_trail, (by show 2 < 1000; decide), ?_⟩⟩
    have x0 := Same.new (o := .lst []) htr _ _ (upd_same (H := H) (a := x) (o := .ins C.se dx (putF "level" (.int 0) (putF "store" (.ref A.a) []))))
    have b1 : But x H (upd (upd (upd H x (.ins C.se dx (putF "level" (.int 0) (putF "store" (.ref A.a) [])))) tr (.lst [])) x (.ins C.se dx (putF "trail" (.ref tr) (putF "level" (.int 0) (putF "store" (.ref A.a) []))))) := (But.put.trans (But.same (Same.new htr))).trans But.put
    have t1 := lst_put (o := .ins C.se dx (putF "trail" (.ref tr) (putF "level" (.int 0) (putF "store" (.ref A.a) [])))) x0 upd_same
    have tr0 : H tr = none := But.put.free upd_same htr
    generalize hH1 : upd (upd (upd H x (.ins C.se dx (putF "level" (.int 0) (putF "store" (.ref A.a) [])))) tr (.lst [])) x (.ins C.se dx (putF "trail" (.ref tr) (putF "level" (.int 0) (putF "store" (.ref A.a) [])))) = H1 at b1 t1
    have x1 : H1 x = some (.ins C.se dx (putF "trail" (.ref tr) (putF "level" (.int 0) (putF "store" (.ref A.a) [])))) := by rw [← hH1, upd_same]
    clear hH1 x0 htr
    show tSeq _ _ _ _ H1
    -- value_of
    refine ⟨(by show 1 ≤ sizeLine; decide), fun p1 hp1 => ⟨_, rfl, A.a, C.st, dy, _, _, rfl, Same.new hp1 _ _ (b1 _ _ ha ax), T.stC, T.st_size, stF_size, _, _, rfl, rfl, p1, _, _, rfl, rfl, upd_same, by omega, by omega, rl _, fun va hva => ⟨_, rfl, x, C.se, dx, _, rfl, Same.new hva _ _ (Same.new hp1 _ _ x1), T.seC, T.se_value_of, (by show 3 < 1000; decide), ?_⟩⟩⟩
    have k1_tr := t1
    have m2 : Same H1 (upd (upd H1 p1 (.lst [.int 0])) va (.lst (List.replicate ((s.n : Int) + 1).toNat [.int 0]).flatten)) := (Same.new hp1).trans (Same.new hva)
    have b2 : But x H (upd (upd (upd H1 p1 (.lst [.int 0])) va (.lst (List.replicate ((s.n : Int) + 1).toNat [.int 0]).flatten)) x (.ins C.se dx (putF "value_of" (.ref va) (putF "trail" (.ref tr) (putF "level" (.int 0) (putF "store" (.ref A.a) [])))))) := (b1.trans (But.same m2)).trans But.put
    have va0 : H va = none := b1.free x1 (Same.free (Same.new hp1) hva)
    have k2_tr : (upd (upd (upd H1 p1 (.lst [.int 0])) va (.lst (List.replicate ((s.n : Int) + 1).toNat [.int 0]).flatten)) x (.ins C.se dx (putF "value_of" (.ref va) (putF "trail" (.ref tr) (putF "level" (.int 0) (putF "store" (.ref A.a) [])))))) tr = some (.lst []) := lst_put (m2 _ _ x1) (m2 _ _ k1_tr)
    have d2_tr : tr ≠ va := ne_of_none (Same.new hp1 _ _ k1_tr) hva
    have k2_va : (upd (upd (upd H1 p1 (.lst [.int 0])) va (.lst (List.replicate ((s.n : Int) + 1).toNat [.int 0]).flatten)) x (.ins C.se dx (putF "value_of" (.ref va) (putF "trail" (.ref tr) (putF "level" (.int 0) (putF "store" (.ref A.a) [])))))) va = some (.lst (List.replicate (s.n + 1) (.int 0))) := by
      rw [← rep]
      exact lst_put (m2 _ _ x1) upd_same
    generalize hH2 : upd (upd (upd H1 p1 (.lst [.int 0])) va (.lst (List.replicate ((s.n : Int) + 1).toNat [.int 0]).flatten)) x (.ins C.se dx (putF "value_of" (.ref va) (putF "trail" (.ref tr) (putF "level" (.int 0) (putF "store" (.ref A.a) []))))) = H2 at b2 k2_tr k2_va
    have x2 : H2 x = some (.ins C.se dx (putF "value_of" (.ref va) (putF "trail" (.ref tr) (putF "level" (.int 0) (putF "store" (.ref A.a) []))))) := by rw [← hH2, upd_same]
    clear hH2
    show tSeq _ _ _ _ H2
    refine ⟨(by show 1 ≤ sizeLine; decide), fun p2 hp2 => ⟨_, rfl, A.a, C.st, dy, _, _, rfl, Same.new hp2 _ _ (b2 _ _ ha ax), T.stC, T.st_size, stF_size, _, _, rfl, rfl, p2, _, _, rfl, rfl, upd_same, by omega, by omega, rl _, fun le hle => ⟨_, rfl, x, C.se, dx, _, rfl, Same.new hle _ _ (Same.new hp2 _ _ x2), T.seC, T.se_level_of, (by show 4 < 1000; decide), ?_⟩⟩⟩
    have m3 : Same H2 (upd (upd H2 p2 (.lst [.int 0])) le (.lst (List.replicate ((s.n : Int) + 1).toNat [.int 0]).flatten)) := (Same.new hp2).trans (Same.new hle)
    have b3 : But x H (upd (upd (upd H2 p2 (.lst [.int 0])) le (.lst (List.replicate ((s.n : Int) + 1).toNat [.int 0]).flatten)) x (.ins C.se dx (putF "level_of" (.ref le) (putF "value_of" (.ref va) (putF "trail" (.ref tr) (putF "level" (.int 0) (putF "store" (.ref A.a) []))))))) := (b2.trans (But.same m3)).trans But.put
    have le0 : H le = none := b2.free x2 (Same.free (Same.new hp2) hle)
    have k3_tr : (upd (upd (upd H2 p2 (.lst [.int 0])) le (.lst (List.replicate ((s.n : Int) + 1).toNat [.int 0]).flatten)) x (.ins C.se dx (putF "level_of" (.ref le) (putF "value_of" (.ref va) (putF "trail" (.ref tr) (putF "level" (.int 0) (putF "store" (.ref A.a) []))))))) tr = some (.lst []) := lst_put (m3 _ _ x2) (m3 _ _ k2_tr)
    have d3_tr : tr ≠ le := ne_of_none (Same.new hp2 _ _ k2_tr) hle
    have k3_va : (upd (upd (upd H2 p2 (.lst [.int 0])) le (.lst (List.replicate ((s.n : Int) + 1).toNat [.int 0]).flatten)) x (.ins C.se dx (putF "level_of" (.ref le) (putF "value_of" (.ref va) (putF "trail" (.ref tr) (putF "level" (.int 0) (putF "store" (.ref A.a) []))))))) va = some (.lst (List.replicate (s.n + 1) (.int 0))) := lst_put (m3 _ _ x2) (m3 _ _ k2_va)
    have d3_va : va ≠ le := ne_of_none (Same.new hp2 _ _ k2_va) hle
    have k3_le : (upd (upd (upd H2 p2 (.lst [.int 0])) le (.lst (List.replicate ((s.n : Int) + 1).toNat [.int 0]).flatten)) x (.ins C.se dx (putF "level_of" (.ref le) (putF "value_of" (.ref va) (putF "trail" (.ref tr) (putF "level" (.int 0) (putF "store" (.ref A.a) []))))))) le = some (.lst (List.replicate (s.n + 1) (.int 0))) := by
      rw [← rep]
      exact lst_put (m3 _ _ x2) upd_same
    generalize hH3 : upd (upd (upd H2 p2 (.lst [.int 0])) le (.lst (List.replicate ((s.n : Int) + 1).toNat [.int 0]).flatten)) x (.ins C.se dx (putF "level_of" (.ref le) (putF "value_of" (.ref va) (putF "trail" (.ref tr) (putF "level" (.int 0) (putF "store" (.ref A.a) [])))))) = H3 at b3 k3_tr k3_va k3_le
    have x3 : H3 x = some (.ins C.se dx (putF "level_of" (.ref le) (putF "value_of" (.ref va) (putF "trail" (.ref tr) (putF "level" (.int 0) (putF "store" (.ref A.a) [])))))) := by rw [← hH3, upd_same]
    clear hH3
    refine ⟨(by show 1 ≤ sizeLine; decide), fun p3 hp3 => ⟨_, rfl, A.a, C.st, dy, _, _, rfl, Same.new hp3 _ _ (b3 _ _ ha ax), T.stC, T.st_size, stF_size, _, _, rfl, rfl, p3, _, _, rfl, rfl, upd_same, by omega, by omega, rl _, fun wh hwh => ⟨_, rfl, x, C.se, dx, _, rfl, Same.new hwh _ _ (Same.new hp3 _ _ x3), T.seC, T.se_clause_of, (by show 5 < 1000; decide), ?_⟩⟩⟩
    have m4 : Same H3 (upd (upd H3 p3 (.lst [.non])) wh (.lst (List.replicate ((s.n : Int) + 1).toNat [.non]).flatten)) := (Same.new hp3).trans (Same.new hwh)
    have b4 : But x H (upd (upd (upd H3 p3 (.lst [.non])) wh (.lst (List.replicate ((s.n : Int) + 1).toNat [.non]).flatten)) x (.ins C.se dx (putF "clause_of" (.ref wh) (putF "level_of" (.ref le) (putF "value_of" (.ref va) (putF "trail" (.ref tr) (putF "level" (.int 0) (putF "store" (.ref A.a) [])))))))) := (b3.trans (But.same m4)).trans But.put
    have wh0 : H wh = none := b3.free x3 (Same.free (Same.new hp3) hwh)
    have k4_tr : (upd (upd (upd H3 p3 (.lst [.non])) wh (.lst (List.replicate ((s.n : Int) + 1).toNat [.non]).flatten)) x (.ins C.se dx (putF "clause_of" (.ref wh) (putF "level_of" (.ref le) (putF "value_of" (.ref va) (putF "trail" (.ref tr) (putF "level" (.int 0) (putF "store" (.ref A.a) [])))))))) tr = some (.lst []) := lst_put (m4 _ _ x3) (m4 _ _ k3_tr)
    have d4_tr : tr ≠ wh := ne_of_none (Same.new hp3 _ _ k3_tr) hwh
    have k4_va : (upd (upd (upd H3 p3 (.lst [.non])) wh (.lst (List.replicate ((s.n : Int) + 1).toNat [.non]).flatten)) x (.ins C.se dx (putF "clause_of" (.ref wh) (putF "level_of" (.ref le) (putF "value_of" (.ref va) (putF "trail" (.ref tr) (putF "level" (.int 0) (putF "store" (.ref A.a) [])))))))) va = some (.lst (List.replicate (s.n + 1) (.int 0))) := lst_put (m4 _ _ x3) (m4 _ _ k3_va)
    have d4_va : va ≠ wh := ne_of_none (Same.new hp3 _ _ k3_va) hwh
    have k4_le : (upd (upd (upd H3 p3 (.lst [.non])) wh (.lst (List.replicate ((s.n : Int) + 1).toNat [.non]).flatten)) x (.ins C.se dx (putF "clause_of" (.ref wh) (putF "level_of" (.ref le) (putF "value_of" (.ref va) (putF "trail" (.ref tr) (putF "level" (.int 0) (putF "store" (.ref A.a) [])))))))) le = some (.lst (List.replicate (s.n + 1) (.int 0))) := lst_put (m4 _ _ x3) (m4 _ _ k3_le)
    have d4_le : le ≠ wh := ne_of_none (Same.new hp3 _ _ k3_le) hwh
    have k4_wh : (upd (upd (upd H3 p3 (.lst [.non])) wh (.lst (List.replicate ((s.n : Int) + 1).toNat [.non]).flatten)) x (.ins C.se dx (putF "clause_of" (.ref wh) (putF "level_of" (.ref le) (putF "value_of" (.ref va) (putF "trail" (.ref tr) (putF "level" (.int 0) (putF "store" (.ref A.a) [])))))))) wh = some (.lst (List.replicate (s.n + 1) (.non))) := by
      rw [← rep]
      exact lst_put (m4 _ _ x3) upd_same
    generalize hH4 : upd (upd (upd H3 p3 (.lst [.non])) wh (.lst (List.replicate ((s.n : Int) + 1).toNat [.non]).flatten)) x (.ins C.se dx (putF "clause_of" (.ref wh) (putF "level_of" (.ref le) (putF "value_of" (.ref va) (putF "trail" (.ref tr) (putF "level" (.int 0) (putF "store" (.ref A.a) []))))))) = H4 at b4 k4_tr k4_va k4_le k4_wh
    have x4 : H4 x = some (.ins C.se dx (putF "clause_of" (.ref wh) (putF "level_of" (.ref le) (putF "value_of" (.ref va) (putF "trail" (.ref tr) (putF "level" (.int 0) (putF "store" (.ref A.a) []))))))) := by rw [← hH4, upd_same]
    clear hH4
    -- last_so
    refine ⟨_, rfl, A.a, C.st, dy, _, _, rfl, b4 _ _ ha ax, T.stC, T.st_last_so, stF_last_so, A.la, _, rfl, Or.inl (SqL.of (b4 _ _ hbs lax)), fun la hla => ⟨_, rfl, x, C.se, dx, _, rfl, Same.new hla _ _ x4, T.seC, T.se_last_so, (by show 6 < 1000; decide), ?_⟩⟩
    have m5 : Same H4 (upd H4 la (.lst (bs.map V.bl))) := Same.new hla
    have b5 : But x H (upd (upd H4 la (.lst (bs.map V.bl))) x (.ins C.se dx (putF "last_so" (.ref la) (putF "clause_of" (.ref wh) (putF "level_of" (.ref le) (putF "value_of" (.ref va) (putF "trail" (.ref tr) (putF "level" (.int 0) (putF "store" (.ref A.a) []))))))))) := (b4.trans (But.same m5)).trans But.put
    have la0 : H la = none := b4.free x4 hla
    have k5_tr : (upd (upd H4 la (.lst (bs.map V.bl))) x (.ins C.se dx (putF "last_so" (.ref la) (putF "clause_of" (.ref wh) (putF "level_of" (.ref le) (putF "value_of" (.ref va) (putF "trail" (.ref tr) (putF "level" (.int 0) (putF "store" (.ref A.a) []))))))))) tr = some (.lst []) := lst_put (m5 _ _ x4) (m5 _ _ k4_tr)
    have d5_tr : tr ≠ la := ne_of_none k4_tr hla
    have k5_va : (upd (upd H4 la (.lst (bs.map V.bl))) x (.ins C.se dx (putF "last_so" (.ref la) (putF "clause_of" (.ref wh) (putF "level_of" (.ref le) (putF "value_of" (.ref va) (putF "trail" (.ref tr) (putF "level" (.int 0) (putF "store" (.ref A.a) []))))))))) va = some (.lst (List.replicate (s.n + 1) (.int 0))) := lst_put (m5 _ _ x4) (m5 _ _ k4_va)
    have d5_va : va ≠ la := ne_of_none k4_va hla
    have k5_le : (upd (upd H4 la (.lst (bs.map V.bl))) x (.ins C.se dx (putF "last_so" (.ref la) (putF "clause_of" (.ref wh) (putF "level_of" (.ref le) (putF "value_of" (.ref va) (putF "trail" (.ref tr) (putF "level" (.int 0) (putF "store" (.ref A.a) []))))))))) le = some (.lst (List.replicate (s.n + 1) (.int 0))) := lst_put (m5 _ _ x4) (m5 _ _ k4_le)
    have d5_le : le ≠ la := ne_of_none k4_le hla
    have k5_wh : (upd (upd H4 la (.lst (bs.map V.bl))) x (.ins C.se dx (putF "last_so" (.ref la) (putF "clause_of" (.ref wh) (putF "level_of" (.ref le) (putF "value_of" (.ref va) (putF "trail" (.ref tr) (putF "level" (.int 0) (putF "store" (.ref A.a) []))))))))) wh = some (.lst (List.replicate (s.n + 1) (.non))) := lst_put (m5 _ _ x4) (m5 _ _ k4_wh)
    have d5_wh : wh ≠ la := ne_of_none k4_wh hla
    have k5_la : (upd (upd H4 la (.lst (bs.map V.bl))) x (.ins C.se dx (putF "last_so" (.ref la) (putF "clause_of" (.ref wh) (putF "level_of" (.ref le) (putF "value_of" (.ref va) (putF "trail" (.ref tr) (putF "level" (.int 0) (putF "store" (.ref A.a) []))))))))) la = some (.lst (bs.map V.bl)) := lst_put (m5 _ _ x4) upd_same
    generalize hH5 : upd (upd H4 la (.lst (bs.map V.bl))) x (.ins C.se dx (putF "last_so" (.ref la) (putF "clause_of" (.ref wh) (putF "level_of" (.ref le) (putF "value_of" (.ref va) (putF "trail" (.ref tr) (putF "level" (.int 0) (putF "store" (.ref A.a) [])))))))) = H5 at b5 k5_tr k5_va k5_le k5_wh k5_la
    have x5 : H5 x = some (.ins C.se dx (putF "last_so" (.ref la) (putF "clause_of" (.ref wh) (putF "level_of" (.ref le) (putF "value_of" (.ref va) (putF "trail" (.ref tr) (putF "level" (.int 0) (putF "store" (.ref A.a) [])))))))) := by rw [← hH5, upd_same]
    clear hH5
    show Q .non H5
    rw [seF_new] at x5
    refine q H5 ⟨x, tr, va, le, wh, la, z, s.phase⟩ rfl rfl rfl ?_ ⟨⟨dx, x5⟩, k5_tr, ⟨List.replicate (s.n + 1) 0, ?_, List.length_replicate, ?_⟩, ⟨List.replicate (s.n + 1) 0, ?_, List.length_replicate, fun y hy => absurd hy List.not_mem_nil⟩, ⟨List.replicate (s.n + 1) .non, k5_wh, List.length_replicate, fun y hy => absurd hy List.not_mem_nil⟩, ?_, fun y hy => hy⟩ ⟨bs, k5_la, lbs, fbs⟩ b5
    · intro y hy
      simp only [List.mem_cons, List.not_mem_nil, or_false] at hy
      rcases hy with rfl | rfl | rfl | rfl | rfl
      · exact tr0
      · exact va0
      · exact le0
      · exact wh0
      · exact la0
    · rw [List.map_replicate]
      exact k5_va
    · intro l h1 h2
      rw [List.getElem?_replicate, if_pos (by omega), litVal_nil]
      simp
    · rw [List.map_replicate]
      exact k5_le
    · simp only [SetA.M, List.nodup_cons, List.mem_cons, List.not_mem_nil, or_false, not_or]
      exact ⟨⟨Ne.symm (lst_ne x5 k5_tr), Ne.symm (lst_ne x5 k5_va), Ne.symm (lst_ne x5 k5_le), Ne.symm (lst_ne x5 k5_wh), Ne.symm (lst_ne x5 k5_la)⟩, ⟨d2_tr, d3_tr, d4_tr, d5_tr⟩, ⟨d3_va, d4_va, d5_va⟩, ⟨d4_le, d5_le⟩, d5_wh, not_false, List.nodup_nil⟩
end Kc
set_option Elab.async false
set_option maxRecDepth 100000
set_option maxHeartbeats 2000000
set_option linter.all false
namespace Kc
open PySem PySem.Spec PyProof.Rows L2
open Sm06 (Clause Trail)
variable {P : Program} {w : World} {K : PySem.W.Frag} {mg : Str → Option Value} {base : Heap} {C : Cs}
/-- what a call leaves and answers -/
def Post (C : Cs) (H : Hp) (A : StoA) (L : List (Addr × Clause)) (s : Sm06.St) (c : Sm06.Call) (Q : VK) : Prop := ∀ H' p A' L', StoreAt C H' (AX A') A' L' (Sm06.step s c).1 → SOk (Sm06.step s c).1 → Lk A' A → L'.length ≤ L.length + 61 → Keep A.M A'.M H H' → p ∉ A'.M → H p = none → H' p = some (.lst ((Sm06.step s c).2.map V.int)) → Q (.ref p) H'
section
variable {H H' : Hp} {A : StoA} {L : List (Addr × Clause)} {s : Sm06.St} {c : Sm06.Call} {Q : VK}
theorem post_same {ans : List Int} {p : Addr} (q : Post C H A L s c Q) (R : StoreAt C H (AX A) A L s) (ok : SOk s) (e : Sm06.step s c = (s, ans)) (sm : Same H H') (hp : H p = none) (h : H' p = some (.lst (ans.map V.int))) : Q (.ref p) H' := by
  refine q H' p A L ?_ ?_ (Lk.refl A) (Nat.le_add_right _ _) (Keep.same sm) (R.out hp) hp ?_
  · rw [e]
    exact R.same sm
  · rw [e]
    exact ok
  · rw [e]
    exact h
/-- the object alone is changed -/
theorem StoreAt.obj {s' : Sm06.St} {dy : Addr} (R : StoreAt C H (AX A) A L s) (e1 : s'.n = s.n) (e2 : s'.clauses = s.clauses) (e5 : s'.order = s.order) (e6 : s'.phase = s.phase) : StoreAt C (upd H A.a (.ins C.st dy (stF s'.n A.cl s'.marks s'.next A.od A.la))) (AX A) A L s' := by
  have k : Keep A.M A.M H (upd H A.a (.ins C.st dy (stF s'.n A.cl s'.marks s'.next A.od A.la))) := Keep.put List.mem_cons_self
  obtain ⟨bs, h1, h2, h3⟩ := R.la
  refine ⟨⟨dy, upd_same⟩, ?_, e2.trans R.cs, ?_, ⟨bs, ?_, by rw [e1]; exact h2, by rw [e1, e6]; exact h3⟩, fun p hp => (R.each p hp).keepX k, R.nd, R.sub, fun x hx z => R.al x hx (k.2 x z)⟩
  · rw [upd_ne (ndne R.nd 1 0)]
    exact R.cl
  · rw [upd_ne (ndne R.nd 2 0), e5]
    exact R.od
  · rw [upd_ne (ndne R.nd 3 0)]
    exact h1
end
def spStart (C : Cs) : Sp := fun vs H Q _ => ∃ A L s, ∃ n : Nat, vs = [.ref (StoA.a A), .int n] ∧ StoreAt C H (AX A) A L s ∧ SOk s ∧ Post C H A L s (.start n) Q
abbrev st_answer_start : Stmt := top 44
abbrev N_answer_start : List Str := ["store", "size"]
theorem sc_answer_start : FnScope N_answer_start ["store", "size"] (defScope st_answer_start) := ⟨rfl, rfl, rfl, by decide +kernel, rfl, by decide +kernel, by decide +kernel⟩
theorem ok_answer_start {f : Addr} {fd : FuncData} (F : Fun K "answer_start" "answer_start" st_answer_start f fd) (T : Txt K mg C) (mt_begin : Mtd P w K mg base 1 C.st "begin" ["self", "size"] (spBegin C)) : FnOk P w K mg base CX0 2 f fd ["store", "size"] (spStart C) := by
  refine F.ok sc_answer_start (fun vs H Q E h => ?_) (fun cdv A outer s H vs Q E hr h => ⟨_, (pss_cons (ps_if (PW.pt (pw_or (pt_cmpR op_lt (pv 1) pe_int (nomark _)) (pw_or1 (pt_cmpR op_gt (pv 1) (pe_konst T.g_MOST_VARIABLES rfl) (nomark _))))) (pss_one (ps_ret (pe_lst (pa_cons (pe_un un_neg pe_int) pa_nil)))) pss_nil)
      (pss_cons (ps_expr (pe_mtd mt_begin (hr.mono (by decide)) (pv 0) (pa_cons (pv 1) pa_nil)))
      (pss_one (ps_ret (pe_lst (pa_cons (pv 1) pa_nil)))))), ?_⟩)
  · obtain ⟨A, L, s, n, rfl, _⟩ := h
    rfl
  · obtain ⟨A, L, s, n, rfl, R, ok, q⟩ := h
    obtain ⟨dy, hb⟩ := R.ob
    have bad : n = 0 ∨ 12 < n → ∀ p, H p = none → Q (.ref p) (upd H p (.lst [.int (-1)])) := fun b p hp => post_same q R ok (if_pos b) (Same.new hp) hp upd_same
    refine ⟨_, rfl, _, _, rfl, rfl, _, rfl, ite_z (fun c => if_true_of rfl ⟨_, rfl, (by show 1 ≤ sizeLine; decide), bad (Or.inl (by omega))⟩) fun c => ?_⟩
    refine ⟨_, rfl, _, _, rfl, rfl, _, rfl, ite_z (fun c2 => ⟨_, rfl, (by show 1 ≤ sizeLine; decide), bad (Or.inr (by omega))⟩) fun c2 => ?_⟩
    refine ⟨_, rfl, A.a, dy, _, rfl, hb, stF_none (by decide +kernel), _, rfl, A.a, dy, _, A.X, n, rfl, hb, Or.inr ⟨_, _, _, _, _, _, rfl⟩, fun x hx => R.al x (List.mem_append_right _ hx), by omega, by omega, fun H1 A1 e eX fr R1 bt => ?_⟩
    refine ⟨_, rfl, (by show 1 ≤ sizeLine; decide), fun p hp => ?_⟩
    have es : Sm06.step s (.start n) = (st0 n, [(n : Int)]) := if_neg (by omega)
    have frp : H p = none := bt.free (by rw [← e]; exact R1.ob.choose_spec) hp
    refine q _ p A1 [] ?_ ?_ ⟨e, eX⟩ (Nat.zero_le _) ⟨fun b o h nb => ⟨?_, fun z => ?_⟩, fun b h => ?_⟩ (R1.out hp) frp ?_
    · rw [es]
      exact R1.same (Same.new hp)
    · rw [es]
      exact st0_ok (by omega) (by omega)
    · exact Same.new hp _ _ (bt b o h fun z => nb (z ▸ List.mem_cons_self))
    · rcases List.mem_cons.mp z with z | z
      · exact nb (by rw [z, e]; exact List.mem_cons_self)
      · rw [fr b z] at h
        cases h
    · by_cases z : b = p
      · rw [z, upd_same] at h
        cases h
      · rw [upd_ne z] at h
        exact bt.free (by rw [← e]; exact R1.ob.choose_spec) h
    · rw [es, upd_same]
      rfl
def spMark (C : Cs) (c : Sm06.Call) : Sp := fun vs H Q _ => ∃ A L s, vs = [.ref (StoA.a A)] ∧ StoreAt C H (AX A) A L s ∧ SOk s ∧ L.length ≤ 90000 ∧ Post C H A L s c Q
abbrev st_answer_mark : Stmt := top 46
abbrev N_answer_mark : List Str := ["store"]
theorem sc_answer_mark : FnScope N_answer_mark ["store"] (defScope st_answer_mark) := ⟨rfl, rfl, rfl, by decide +kernel, rfl, by decide +kernel, by decide +kernel⟩
theorem ok_answer_mark {f : Addr} {fd : FuncData} (F : Fun K "answer_mark" "answer_mark" st_answer_mark f fd) (T : Txt K mg C) : FnOk P w K mg base CX0 1 f fd ["store"] (spMark C .mark) := by
  refine F.ok sc_answer_mark (fun vs H Q E h => ?_) (fun cdv A outer s H vs Q E hr h => ⟨_, (pss_cons (ps_if (pt_cmpR op_ge (pe_fld (pv 0) rfl) (pe_konst T.g_MOST_MARKS rfl) (nomark _)) (pss_one (ps_ret (pe_lst (pa_cons (pe_un un_neg pe_int) pa_nil)))) pss_nil)
      (pss_cons (ps_fldaug (pv 0) pe_int in_add)
      (pss_one (ps_ret (pe_lst (pa_cons (pe_fld (pv 0) rfl) pa_nil)))))), ?_⟩)
  · obtain ⟨A, L, s, rfl, _⟩ := h
    rfl
  · obtain ⟨A, L, s, rfl, R, ok, _, q⟩ := h
    obtain ⟨dy, hb⟩ := R.ob
    refine ⟨_, rfl, A.a, C.st, dy, _, _, rfl, hb, T.stC, T.st_marks, stF_marks, _, _, rfl, rfl, _, rfl, ite_z (fun c => ⟨_, rfl, (by show 1 ≤ sizeLine; decide), fun p hp => post_same q R ok (if_pos (show 8 ≤ s.marks by omega)) (Same.new hp) hp upd_same⟩) fun c => ?_⟩
    have es : Sm06.step s .mark = (⟨s.n, s.clauses, s.next, s.marks + 1, s.order, s.phase⟩, [((s.marks + 1 : Nat) : Int)]) := if_neg (show ¬ 8 ≤ s.marks by omega)
    refine ⟨_, rfl, A.a, C.st, dy, _, _, rfl, hb, T.stC, T.st_marks, stF_marks, _, _, rfl, rfl, dy, _, hb, (by show 6 < 1000; decide), ?_⟩
    rw [stF_put_marks]
    have R1 := R.obj (s' := ⟨s.n, s.clauses, s.next, s.marks + 1, s.order, s.phase⟩) (dy := dy) rfl rfl rfl rfl
    have k1 : Keep A.M A.M H (upd H A.a (.ins C.st dy (stF s.n A.cl ((s.marks + 1 : Nat) : Int) s.next A.od A.la))) := Keep.put List.mem_cons_self
    refine ⟨_, rfl, A.a, C.st, dy, _, _, rfl, upd_same, T.stC, T.st_marks, stF_marks, (by show 1 ≤ sizeLine; decide), fun p hp => ?_⟩
    refine q _ p A L ?_ ?_ (Lk.refl A) (Nat.le_add_right _ _) (k1.trans (Keep.same (Same.new hp))) (R1.out hp) (k1.2 p hp) ?_
    · rw [es]
      exact R1.same (Same.new hp)
    · rw [es]
      exact ⟨ok.n1, ok.n12, ok.lits, ok.ord, ok.ol, ok.ph⟩
    · rw [es, upd_same]
      rfl
abbrev st_answer_learnt : Stmt := top 50
abbrev N_answer_learnt : List Str := ["store", "clauses"]
theorem sc_answer_learnt : FnScope N_answer_learnt ["store"] (defScope st_answer_learnt) := ⟨rfl, rfl, rfl, by decide +kernel, rfl, by decide +kernel, by decide +kernel⟩
theorem ok_answer_learnt {f : Addr} {fd : FuncData} (F : Fun K "answer_learnt" "answer_learnt" st_answer_learnt f fd) (T : Txt K mg C) (c_learnt_clauses : Cal P w K mg base 2 "learnt_clauses" ["store"] (spPick C fun c => c.learnt)) (c_told_clauses : Cal P w K mg base 1 "told_clauses" ["clauses"] (spTold C K)) : FnOk P w K mg base CX0 3 f fd ["store"] (spMark C .learnt) := by
  refine F.ok sc_answer_learnt (fun vs H Q E h => ?_) (fun cdv A outer s H vs Q E hr h => ⟨_, (pss_cons (ps_set (i := 1) sc_answer_learnt.nd rfl (Or.inl rfl) (pe_cal c_learnt_clauses (hr.mono (by decide)) (by rfl) (pa_cons (pv 0) pa_nil)))
      (pss_one (ps_ret (pe_op op_cat (pe_lst (pa_cons (pe_callB call_len_seq (by rfl) T.b_len PySem.boot_len (pa_cons (pv 1) pa_nil)) pa_nil)) (pe_cal c_told_clauses (hr.mono (by decide)) (by rfl) (pa_cons (pv 1) pa_nil)))))), ?_⟩)
  · obtain ⟨A, L, s, rfl, _⟩ := h
    rfl
  · obtain ⟨A, L, s, rfl, R, ok, L9, q⟩ := h
    have lit : ∀ p ∈ L, p.2.lits.length ≤ 12 := fun p hp => Nat.le_trans (ok.lits p.2 (by rw [R.cs]; exact List.mem_map_of_mem hp)).len ok.n12
    refine ⟨_, rfl, AX A, A, L, s, rfl, R, by omega, fun H1 p1 s1 hp1 h1 => ?_⟩
    refine ⟨_, rfl, p1, _, rfl, Or.inl (SqL.of h1), (by show 1 ≤ sizeLine; decide), fun p2 hp2 => ?_⟩
    have fl := List.length_filter_le (fun q : Addr × Clause => q.2.learnt) L
    refine ⟨_, rfl, AX A, p1, L.filter (fun q => q.2.learnt), rfl, SqL.of (Same.new hp2 _ _ h1), fun u hu => ⟨((R.each u (List.mem_filter.mp hu).1).keep (Keep.same s1)).keep (Keep.same (Same.new hp2)), lit u (List.mem_filter.mp hu).1⟩, by omega, fun H3 p3 s3 hp3 h3 => ?_⟩
    have tl := told_len (U := L.filter fun q => q.2.learnt) fun u hu => lit u (List.mem_filter.mp hu).1
    refine ⟨p2, p3, _, _, rfl, rfl, s3 _ _ upd_same, h3, ?_, fun p hp => ?_⟩
    · show 1 + (List.map V.int _).length ≤ sizeLine
      rw [List.length_map]
      exact Nat.le_trans (by omega : _ ≤ 1600000) (by decide)
    · have sm : Same H H3 := (s1.trans (Same.new hp2)).trans s3
      refine post_same q R ok (ans := ((s.clauses.filter fun c => c.learnt).length : Int) :: (s.clauses.filter fun c => c.learnt).flatMap Sm06.toldClause) rfl (sm.trans (Same.new hp)) (sm.free hp) ?_
      rw [upd_same, R.cs, List.filter_map, List.length_map, List.flatMap_map, List.length_map]
      rfl
abbrev st_answer_back : Stmt := top 47
abbrev N_answer_back : List Str := ["store"]
theorem sc_answer_back : FnScope N_answer_back ["store"] (defScope st_answer_back) := ⟨rfl, rfl, rfl, by decide +kernel, rfl, by decide +kernel, by decide +kernel⟩
theorem ok_answer_back {f : Addr} {fd : FuncData} (F : Fun K "answer_back" "answer_back" st_answer_back f fd) (T : Txt K mg C) (c_drop_above : Cal P w K mg base 1 "drop_above" ["store", "height"] (spDrop C)) (c_given_clauses : Cal P w K mg base 2 "given_clauses" ["store"] (spPick C fun c => !c.learnt)) (c_learnt_clauses : Cal P w K mg base 2 "learnt_clauses" ["store"] (spPick C fun c => c.learnt)) : FnOk P w K mg base CX0 3 f fd ["store"] (spMark C .back) := by
  refine F.ok sc_answer_back (fun vs H Q E h => ?_) (fun cdv A outer s H vs Q E hr h => ⟨_, (pss_cons (ps_if (pt_cmpR op_eq (pe_fld (pv 0) rfl) pe_int (nomark _)) (pss_one (ps_ret (pe_lst (pa_cons (pe_un un_neg pe_int) pa_nil)))) pss_nil)
      (pss_cons (ps_fldaug (pv 0) pe_int in_sub)
      (pss_cons (ps_expr (pe_cal c_drop_above (hr.mono (by decide)) (by rfl) (pa_cons (pv 0) (pa_cons (pe_fld (pv 0) rfl) pa_nil))))
      (pss_one (ps_ret (pe_lst (pa_cons (pe_callB call_len_seq (by rfl) T.b_len PySem.boot_len (pa_cons (pe_cal c_given_clauses (hr.mono (by decide)) (by rfl) (pa_cons (pv 0) pa_nil)) pa_nil)) (pa_cons (pe_callB call_len_seq (by rfl) T.b_len PySem.boot_len (pa_cons (pe_cal c_learnt_clauses (hr.mono (by decide)) (by rfl) (pa_cons (pv 0) pa_nil)) pa_nil)) pa_nil)))))))), ?_⟩)
  · obtain ⟨A, L, s, rfl, _⟩ := h
    rfl
  · obtain ⟨A, L, s, rfl, R, ok, L9, q⟩ := h
    obtain ⟨dy, hb⟩ := R.ob
    refine ⟨_, rfl, A.a, C.st, dy, _, _, rfl, hb, T.stC, T.st_marks, stF_marks, rfl, _, rfl, ?_⟩
    by_cases c : s.marks = 0
    · exact if_true_of (decide_eq_true (by rw [c]; rfl)) ⟨_, rfl, (by show 1 ≤ sizeLine; decide), fun p hp => post_same q R ok (if_pos c) (Same.new hp) hp upd_same⟩
    · refine if_false_of (decide_eq_false (by intro z; exact c (Int.ofNat.inj (V.int.inj z)))) ?_
      have es : Sm06.step s .back = (⟨s.n, s.clauses.filter fun c => decide (c.height < s.marks), s.next, s.marks - 1, s.order, s.phase⟩, Sm06.ints [((s.clauses.filter fun c => decide (c.height < s.marks)).filter fun c => !c.learnt).length, ((s.clauses.filter fun c => decide (c.height < s.marks)).filter fun c => c.learnt).length]) := if_neg c
      refine ⟨_, rfl, A.a, C.st, dy, _, _, rfl, hb, T.stC, T.st_marks, stF_marks, _, _, rfl, rfl, dy, _, hb, (by show 6 < 1000; decide), ?_⟩
      rw [stF_put_marks, show ((s.marks : Int) - 1) = ((s.marks - 1 : Nat) : Int) by omega]
      have R1 := R.obj (s' := ⟨s.n, s.clauses, s.next, s.marks - 1, s.order, s.phase⟩) (dy := dy) rfl rfl rfl rfl
      have k1 : Keep A.M A.M H (upd H A.a (.ins C.st dy (stF s.n A.cl ((s.marks - 1 : Nat) : Int) s.next A.od A.la))) := Keep.put List.mem_cons_self
      refine ⟨_, rfl, _, rfl, A.a, C.st, dy, _, _, rfl, upd_same, T.stC, T.st_marks, stF_marks, AX A, A, L, _, s.marks - 1, rfl, R1, by omega, fun H2 cl dz hcl hcl2 ho bt => ?_⟩
      have ef : (L.filter fun q => decide (q.2.height ≤ s.marks - 1)).map (·.2) = s.clauses.filter fun c => decide (c.height < s.marks) := by
        rw [R.cs, List.filter_map]
        refine congrArg _ (List.filter_congr fun q _ => ?_)
        exact decide_eq_decide.mpr (show q.2.height ≤ s.marks - 1 ↔ q.2.height < s.marks by omega)
      have cne : cl ≠ A.a := fun e => by rw [e, upd_same] at hcl; cases hcl
      have k2 : Keep A.M (StoA.M ⟨A.a, cl, A.od, A.la, A.X⟩) (upd H A.a (.ins C.st dy (stF s.n A.cl ((s.marks - 1 : Nat) : Int) s.next A.od A.la))) H2 := by
        refine ⟨fun b o h nb => ⟨bt b o h fun z => nb (z ▸ List.mem_cons_self), fun z => ?_⟩, fun b h => bt.free ho h⟩
        simp only [StoA.M, List.mem_cons, List.not_mem_nil, or_false, not_or] at nb z
        rcases z with z | z | z | z
        · exact nb.1 z
        · rw [z, hcl] at h
          cases h
        · exact nb.2.2.1 z
        · exact nb.2.2.2 z
      obtain ⟨bs, h1, h2, h3⟩ := R1.la
      have R2 : StoreAt C H2 (AX ⟨A.a, cl, A.od, A.la, A.X⟩) ⟨A.a, cl, A.od, A.la, A.X⟩ (L.filter fun q => decide (q.2.height ≤ s.marks - 1)) ⟨s.n, s.clauses.filter fun c => decide (c.height < s.marks), s.next, s.marks - 1, s.order, s.phase⟩ := by
        refine ⟨⟨dz, ho⟩, hcl2, ef.symm, bt _ _ R1.od (ndne R.nd 2 0), ⟨bs, bt _ _ h1 (ndne R.nd 3 0), h2, h3⟩, fun p hp => (R1.each p (List.mem_filter.mp hp).1).keepX k2, ?_, fun x hx => List.mem_append_left _ hx, ?_⟩
        · have n1 : A.od ≠ cl := ne_of_none R1.od hcl
          have n2 : A.la ≠ cl := ne_of_none h1 hcl
          simp only [StoA.M, List.nodup_cons, List.mem_cons, List.not_mem_nil, or_false, not_or]
          exact ⟨⟨Ne.symm cne, ndne R.nd 0 2, ndne R.nd 0 3⟩, ⟨Ne.symm n1, Ne.symm n2⟩, ndne R.nd 2 3, not_false, List.nodup_nil⟩
        · intro y hy z
          have key : y = cl ∨ y ∈ AX A := by
            simp only [AX, StoA.M, List.cons_append, List.nil_append, List.mem_cons] at hy ⊢
            rcases hy with h | h | h | h | h
            · exact Or.inr (Or.inl h)
            · exact Or.inl h
            · exact Or.inr (Or.inr (Or.inr (Or.inl h)))
            · exact Or.inr (Or.inr (Or.inr (Or.inr (Or.inl h))))
            · exact Or.inr (Or.inr (Or.inr (Or.inr (Or.inr h))))
          rcases key with rfl | hy
          · rw [hcl2] at z
            cases z
          · exact R1.al y hy (bt.free ho z)
      have Lf := List.length_filter_le (fun q : Addr × Clause => decide (q.2.height ≤ s.marks - 1)) L
      refine ⟨_, rfl, _, ⟨A.a, cl, A.od, A.la, A.X⟩, _, _, rfl, R2, by omega, fun H3 p3 s3 hp3 h3' => ⟨p3, _, rfl, Or.inl (SqL.of h3'), ?_⟩⟩
      refine ⟨_, rfl, _, ⟨A.a, cl, A.od, A.la, A.X⟩, _, _, rfl, R2.same s3, by omega, fun H4 p4 s4 hp4 h4 => ⟨p4, _, rfl, Or.inl (SqL.of h4), (by show 2 ≤ sizeLine; decide), fun p hp => ?_⟩⟩
      have sm := (s3.trans s4).trans (Same.new (o := .lst [.int ((((L.filter fun q => decide (q.2.height ≤ s.marks - 1)).filter fun q => !q.2.learnt).map fun q => V.ref q.1).length : Nat), .int ((((L.filter fun q => decide (q.2.height ≤ s.marks - 1)).filter fun q => q.2.learnt).map fun q => V.ref q.1).length : Nat)]) hp)
      have p2 : H2 p = none := (s3.trans s4).free hp
      refine q _ p ⟨A.a, cl, A.od, A.la, A.X⟩ (L.filter fun q => decide (q.2.height ≤ s.marks - 1)) ?_ ?_ ⟨rfl, rfl⟩ (by omega) ((k1.trans k2).trans (Keep.same sm)) (R2.out p2) (k1.2 p (k2.2 p p2)) ?_
      · rw [es]
        exact R2.same sm
      · rw [es]
        exact ⟨ok.n1, ok.n12, fun c hc => ok.lits c (List.mem_filter.mp hc).1, ok.ord, ok.ol, ok.ph⟩
      · rw [es, upd_same, ← ef]
        simp only [List.filter_map, List.length_map, Sm06.ints, List.map_cons, List.map_nil]
        rfl
def spADecide (C : Cs) (K : PySem.W.Frag) : Sp := fun vs H Q _ => ∃ A L s pa as, ∃ most : Nat, vs = [.ref (StoA.a A), .int most, .ref pa] ∧ StoreAt C H (AX A) A L s ∧ SOk s ∧ SqL K H pa ((as : List Int).map V.int) ∧ as.length ≤ 1000 ∧ pa ∉ A.M ∧ L.length ≤ 80000 ∧ Post C H A L s (.decide most as) Q
abbrev st_answer_decide : Stmt := top 48
abbrev N_answer_decide : List Str := ["store", "most", "assumptions"]
theorem sc_answer_decide : FnScope N_answer_decide ["store", "most", "assumptions"] (defScope st_answer_decide) := ⟨rfl, rfl, rfl, by decide +kernel, rfl, by decide +kernel, by decide +kernel⟩
theorem ok_answer_decide {f : Addr} {fd : FuncData} (F : Fun K "answer_decide" "answer_decide" st_answer_decide f fd) (T : Txt K mg C) (c_has_wrong_literal : Cal P w K mg base 1 "has_wrong_literal" ["store", "literals"] (spWrong C K)) (c_decide : Cal P w K mg base 5 "decide" ["store", "most", "assumptions"] (spDecide C K)) : FnOk P w K mg base CX0 6 f fd ["store", "most", "assumptions"] (spADecide C K) := by
  refine F.ok sc_answer_decide (fun vs H Q E h => ?_) (fun cdv A outer s H vs Q E hr h => ⟨_, (pss_cons (ps_if (pt_val (pe_cal c_has_wrong_literal (hr.mono (by decide)) (by rfl) (pa_cons (pv 0) (pa_cons (pv 2) pa_nil)))) (pss_one (ps_ret (pe_lst (pa_cons (pe_un un_neg pe_int) pa_nil)))) pss_nil)
      (pss_cons (ps_if (pt_cmpR op_gt (pv 1) (pe_konst T.g_MOST_TO_LEARN rfl) (nomark _)) (pss_one (ps_ret (pe_lst (pa_cons (pe_un un_neg pe_int) pa_nil)))) pss_nil)
      (pss_one (ps_ret (pe_cal c_decide (hr.mono (by decide)) (by rfl) (pa_cons (pv 0) (pa_cons (pv 1) (pa_cons (pv 2) pa_nil)))))))), ?_⟩)
  · obtain ⟨A, L, s, pa, as, most, rfl, _⟩ := h
    rfl
  · obtain ⟨A, L, s, pa, as, most, rfl, R, ok, hpa, la, pn, L8, q⟩ := h
    refine ⟨_, rfl, _, rfl, AX A, A, L, s, pa, as, rfl, R, hpa, la, fun H1 s1 => ⟨_, rfl, ?_⟩⟩
    have R1 := R.same s1
    cases c : as.all (Sm06.isLit s.n) with
    | false =>
      exact if_true_of rfl ⟨_, rfl, (by show 1 ≤ sizeLine; decide), fun p hp => post_same q R ok (if_pos c) (s1.trans (Same.new hp)) (s1.free hp) upd_same⟩
    | true =>
      refine if_false_of rfl ⟨_, rfl, _, _, rfl, rfl, _, rfl, ite_z (fun c2 => ?_) fun c2 => ?_⟩
      · refine ⟨_, rfl, (by show 1 ≤ sizeLine; decide), fun p hp => post_same q R ok (ans := [-1]) ?_ (s1.trans (Same.new hp)) (s1.free hp) upd_same⟩
        show (if as.all (Sm06.isLit s.n) = false then _ else if 60 < most then _ else _) = _
        rw [if_neg (by rw [c]; decide), if_pos (by omega)]
      · have es : Sm06.step s (.decide most as) = ((Sm06.decide_ s most as).1, endL (Sm06.decide_ s most as).2) := by
          show (if as.all (Sm06.isLit s.n) = false then _ else if 60 < most then _ else _) = _
          rw [if_neg (by rw [c]; decide), if_neg (by omega)]
          dsimp only
          cases (Sm06.decide_ s most as).2 <;> rfl
        refine ⟨_, rfl, _, rfl, _, rfl, A, L, s, pa, as, most, rfl, R1, ok, s1.seq hpa, fun a ha => ?_, la, pn, by omega, fun H' p A' L' R' ok' eA Ll k pn' hp0 hp => ?_⟩
        · have := List.all_eq_true.mp c a ha
          unfold Sm06.isLit at this
          rw [Bool.and_eq_true, decide_eq_true_iff, decide_eq_true_iff] at this
          exact this
        · refine q H' p A' L' ?_ ?_ eA (by omega) ((Keep.same s1).trans k) pn' (s1.free hp0) ?_
          · rw [es]
            exact R'
          · rw [es]
            exact ok'
          · rw [es]
            exact hp
end Kc
set_option Elab.async false
set_option maxRecDepth 100000
set_option maxHeartbeats 2000000
set_option linter.all false
namespace Kc
open PySem PySem.Spec PyProof.Rows L2
open Sm06 (Clause Trail)
variable {P : Program} {w : World} {K : PySem.W.Frag} {mg : Str → Option Value} {base : Heap} {C : Cs}
/-- a list that is read and stays where it is -/
def Arg (K : PySem.W.Frag) (H : Hp) (M : List Addr) (a : Addr) (xs : List V) : Prop := (Rd H a (.lst xs) ∧ a ∉ M) ∨ ∃ (o : Obj) (its : Array Value) (n : Nat), K.lookup a = some o ∧ o.cls = .type "list" ∧ o.dict = none ∧ o.data = .seq its n ∧ its.size ≤ sizeLine ∧ Vals xs its.toList
theorem Arg.sq {H : Hp} {M : List Addr} {a : Addr} {xs : List V} (h : Arg K H M a xs) : SqL K H a xs := h.imp And.left id
theorem Arg.keep {H H' : Hp} {M M' : List Addr} {a : Addr} {xs : List V} (h : Arg K H M a xs) (k : Keep M M' H H') : Arg K H' M' a xs := by
  rcases h with ⟨h | ⟨o, h⟩, n⟩ | h
  · exact .inl ⟨.inl (k.1 _ _ h n).1, (k.1 _ _ h n).2⟩
  · exact .inl ⟨.inr ⟨o, (k.1 _ _ h n).1⟩, (k.1 _ _ h n).2⟩
  · exact .inr h
theorem Arg.of {H H' : Hp} {M : List Addr} {a : Addr} {xs : List V} (h : SqL K H a xs) (sm : Same H H') (fr : ∀ b o, H b = some o → b ∉ M) : Arg K H' M a xs := by
  rcases h with (h | ⟨o, h⟩) | h
  · exact .inl ⟨.inl (sm _ _ h), fr _ _ h⟩
  · exact .inl ⟨.inr ⟨o, sm _ _ h⟩, fr _ _ h⟩
  · exact .inr h
theorem Keep.cons {M M' : List Addr} {H H' : Hp} {x : Addr} (k : Keep M M' H H') : Keep (x :: M) (x :: M') H H' := ⟨fun b o e n => by
  rw [List.mem_cons, not_or] at n ⊢
  obtain ⟨h1, h2⟩ := k.1 b o e n.2
  exact ⟨h1, n.1, h2⟩, k.2⟩
theorem StoreAt.off {H : Hp} {A : StoA} {L : List (Addr × Clause)} {s : Sm06.St} {x : Addr} {o : HO} (R : StoreAt C H (AX A) A L s) (hx : x ∈ A.X) (nx : x ∉ A.M) : StoreAt C (upd H x o) (AX A) A L s := by
  obtain ⟨dx, h1⟩ := R.ob
  obtain ⟨bs, h4, h5⟩ := R.la
  have ne : ∀ y ∈ A.M, y ≠ x := fun y hy e => nx (e ▸ hy)
  refine ⟨⟨dx, ?_⟩, ?_, R.cs, ?_, ⟨bs, ?_, h5⟩, fun p hp => ?_, R.nd, R.sub, fun y hy z => ?_⟩
  · rw [upd_ne (ne _ List.mem_cons_self)]
    exact h1
  · rw [upd_ne (ne _ (List.mem_cons_of_mem _ List.mem_cons_self))]
    exact R.cl
  · rw [upd_ne (ne _ (List.mem_cons_of_mem _ (List.mem_cons_of_mem _ List.mem_cons_self)))]
    exact R.od
  · rw [upd_ne (ne _ (List.mem_cons_of_mem _ (List.mem_cons_of_mem _ (List.mem_cons_of_mem _ List.mem_cons_self))))]
    exact h4
  · obtain ⟨dz, li, co, c1, c2, n1, n2, c3, n3, r⟩ := R.each p hp
    have x1 : ∀ y, y ∉ AX A → y ≠ x := fun y hy e => hy (List.mem_append_right _ (e ▸ hx))
    exact ⟨dz, li, co, by rw [upd_ne (x1 _ n1)]; exact c1, by rw [upd_ne (x1 _ n2)]; exact c2, n1, n2, by rw [upd_ne (x1 _ n3)]; exact c3, n3, r⟩
  · by_cases e : y = x
    · rw [e, upd_same] at z
      cases z
    · rw [upd_ne e] at z
      exact R.al y hy z
theorem StoreAt.renew {H : Hp} {M : List Addr} {A : StoA} {s : Sm06.St} {X : List Addr} (R : StoreAt C H M A [] s) (hX : ∀ x ∈ X, H x ≠ none) : StoreAt C H (AX ⟨A.a, A.cl, A.od, A.la, X⟩) ⟨A.a, A.cl, A.od, A.la, X⟩ [] s :=
  ⟨R.ob, R.cl, R.cs, R.od, R.la, fun p hp => absurd hp List.not_mem_nil, R.nd, fun x hx => List.mem_append_left _ hx, fun x hx => (List.mem_append.mp hx).elim (fun h => R.al x (R.sub x h)) (hX x)⟩
def spCall (C : Cs) (K : PySem.W.Frag) : Sp := fun vs H Q _ => ∃ A L s r dx ca ns cl t, ∃ i : Nat, vs = [.ref (StoA.a A), .ref r] ∧ StoreAt C H (AX A) A L s ∧ SOk s ∧ L.length ≤ 80000 ∧ H r = some (.ins C.rd dx (rdF ca i)) ∧ r ∉ A.M ∧ r ∈ A.X ∧ SqL K H ca ((ns : List Int).map V.int) ∧ At (ns.drop i) cl t ∧
  ∀ H' p A' L' (j : Nat), StoreAt C H' (AX A') A' L' (Sm06.step s cl).1 → SOk (Sm06.step s cl).1 → Lk A' A → L'.length ≤ L.length + 61 → Keep (r :: A.M) (r :: A'.M) H H' → r ∉ A'.M → p ∉ r :: A'.M → H p = none → H' p = some (.lst ((Sm06.step s cl).2.map V.int)) → H' r = some (.ins C.rd dx (rdF ca j)) → ns.drop j = t → j ≤ ns.length → Q (.ref p) H'
def spAnswers (K : PySem.W.Frag) : Sp := fun vs H Q _ => ∃ a ns, vs = [.ref a] ∧ SqL K H a ((ns : List Int).map V.int) ∧ PySm06.answers_asked ns = true ∧ ∀ H' p, H' p = some (.lst ((PySm06.answers ns).map V.int)) → Q (.ref p) H'
abbrev st_answers : Stmt := top 57
abbrev N_answers : List Str := ["calls", "store", "reader", "told", "answer"]
theorem sc_answers : FnScope N_answers ["calls"] (defScope st_answers) := ⟨rfl, rfl, rfl, by decide +kernel, rfl, by decide +kernel, by decide +kernel⟩
theorem ok_answers {f : Addr} {fd : FuncData} (F : Fun K "answers" "answers" st_answers f fd) (T : Txt K mg C) (m_Store : Mak P w K mg base 2 "Store" C.st ["self", "size"] (spStore C)) (m_Reader : Mak P w K mg base 1 "Reader" C.rd ["self", "calls"] (spReader C)) (mt_has_more : Mtd P w K mg base 1 C.rd "has_more" ["self"] (spMore C K)) (c_answer_call : Cal P w K mg base 7 "answer_call" ["store", "reader"] (spCall C K)) : FnOk P w K mg base CX0 8 f fd ["calls"] (spAnswers K) := by
  refine F.ok sc_answers (fun vs H Q E h => ?_) (fun cdv A outer s H vs Q E hr h => ⟨_, (pss_cons (ps_set (i := 1) sc_answers.nd rfl (Or.inl rfl) (pe_mak m_Store (hr.mono (by decide)) (by rfl) (pa_cons (pe_konst T.g_SIZE_AT_FIRST rfl) pa_nil)))
      (pss_cons (ps_set (i := 2) sc_answers.nd rfl (Or.inl rfl) (pe_mak m_Reader (hr.mono (by decide)) (by rfl) (pa_cons (pv 0) pa_nil)))
      (pss_cons (ps_set (i := 3) sc_answers.nd rfl (Or.inl rfl) (pe_lst pa_nil))
      (pss_cons (ps_while PassesOwn.never (pt_val (pe_mtd0 mt_has_more (hr.mono (by decide)) (pv 2))) (pss_cons (ps_set (i := 4) sc_answers.nd rfl (Or.inl rfl) (pe_cal c_answer_call (hr.mono (by decide)) (by rfl) (pa_cons (pv 1) (pa_cons (pv 2) pa_nil))))
      (pss_cons (ps_expr (pe_bm PySem.F.plainAttrs_list PySem.F.slot_list_append PySem.F.type_list_append mt_append (pv 3) (pa_cons (pe_callB call_len_seq (by rfl) T.b_len PySem.boot_len (pa_cons (pv 4) pa_nil)) pa_nil)))
      (pss_one (ps_expr (pe_bm PySem.F.plainAttrs_list PySem.F.slot_list_extend PySem.F.type_list_extend mt_extend (pv 3) (pa_cons (pv 4) pa_nil)))))))
      (pss_one (ps_ret (pv 3))))))), ?_⟩)
  · obtain ⟨a, ns, rfl, _⟩ := h
    rfl
  · obtain ⟨a, ns, rfl, hs, hask, q⟩ := h
    obtain ⟨raw, er, r40, rin, ea, l7⟩ := asked_raw hask
    intro x dx nx nd ne
    refine ⟨x, dx, [], 3, rfl, upd_same, fun _ h => absurd h List.not_mem_nil, by decide, by decide, fun H1 A0 eA eX fr R0 bt => ⟨rfl, ?_⟩⟩
    have s1 : Same H H1 := Same.made nx nd bt
    have smx : Same H (upd (upd H dx (.own x)) x (.ins C.st dx [])) := fun b o e => by rw [upd_ne (ne_of_none e nx), upd_ne (ne_of_none e nd)]; exact e
    have fA : ∀ b o, H b = some o → b ∉ A0.M := fun b o e z => by
      rcases List.mem_cons.mp z with z | z
      · rw [z, eA, nx] at e
        cases e
      · rw [smx.free (fr b z)] at e
        cases e
    subst eA
    refine ⟨_, rfl, ?_⟩
    intro r dr nr ndr ner
    have s2 : Same H1 (upd (upd H1 dr (.own r)) r (.ins C.rd dr [])) := fun b o e => by rw [upd_ne (ne_of_none e nr), upd_ne (ne_of_none e ndr)]; exact e
    refine ⟨r, dr, a, rfl, upd_same, ⟨rfl, ?_⟩⟩
    rw [upd_upd]
    have s3 : Same H1 (upd (upd H1 dr (.own r)) r (.ins C.rd dr (rdF a 0))) := fun b o e => by rw [upd_ne (ne_of_none e nr), upd_ne (ne_of_none e ndr)]; exact e
    have hr3 : upd (upd H1 dr (.own r)) r (.ins C.rd dr (rdF a 0)) r = some (.ins C.rd dr (rdF a 0)) := upd_same
    refine ⟨Nat.zero_le _, fun pt hpt => ?_⟩
    obtain ⟨A, hA⟩ : ∃ A : StoA, A = ⟨A0.a, A0.cl, A0.od, A0.la, [pt, r]⟩ := ⟨_, rfl⟩
    have AM : A.M = A0.M := by rw [hA]
    have AXe : A.X = [pt, r] := by rw [hA]
    have Aa : A.a = A0.a := by rw [hA]
    have R3 : StoreAt C (upd (upd (upd H1 dr (.own r)) r (.ins C.rd dr (rdF a 0))) pt (.lst [])) (AX A) A [] (st0 3) := by
      rw [hA]
      refine ((R0.same s3).same (Same.new hpt)).renew fun y hy z => ?_
      simp only [List.mem_cons, List.not_mem_nil, or_false] at hy
      rcases hy with rfl | rfl
      · rw [upd_same] at z
        cases z
      · rw [Same.new hpt _ _ hr3] at z
        cases z
    rw [← Aa]
    have rA : r ∉ A.M := by rw [AM]; exact R0.out nr
    have pr : pt ∉ r :: A.M := fun z => by
      rcases List.mem_cons.mp z with z | z
      · rw [z, hr3] at hpt
        cases hpt
      · exact (R0.same s3).out hpt (AM ▸ z)
    have ar : ∀ b o, H b = some o → b ∉ r :: A.M := fun b o e z => by
      rcases List.mem_cons.mp z with z | z
      · rw [z, s1.free nr] at e
        cases e
      · exact fA b o e (AM ▸ z)
    have ar2 : ∀ b o, H b = some o → b ∉ pt :: r :: A.M := fun b o e z => by
      rcases List.mem_cons.mp z with z | z
      · rw [z, (s1.trans s3).free hpt] at e
        cases e
      · exact ar b o e z
    have Ag : Arg K (upd (upd (upd H1 dr (.own r)) r (.ins C.rd dr (rdF a 0))) pt (.lst [])) (pt :: r :: A.M) a (ns.map V.int) := Arg.of hs ((s1.trans s3).trans (Same.new hpt)) ar2
    refine ⟨fun m σ H' => ∃ (A1 : StoA) (L1 : List (Addr × Clause)) (s1 : Sm06.St) (tl : List Int) (f i : Nat) (raw1 : List (List (List Int))) (v : Option V), m = raw1.length ∧ σ = [some (.ref a), some (.ref A.a), some (.ref r), some (.ref pt), v] ∧ Lk A1 A ∧ StoreAt C H' (AX A1) A1 L1 s1 ∧ SOk s1 ∧ H' r = some (.ins C.rd dr (rdF a i)) ∧ r ∉ A1.M ∧ H' pt = some (.lst (tl.map V.int)) ∧ pt ∉ r :: A1.M ∧ Arg K H' (pt :: r :: A1.M) a (ns.map V.int) ∧ PyFlat.calls PySm06.shape f (ns.drop i) = some raw1 ∧ (∀ c ∈ raw1, PyInside.call PySm06.bound c = true) ∧ tl ++ outs s1 raw1 = PySm06.answers ns ∧ L1.length + 61 * raw1.length ≤ 2440 ∧ i ≤ ns.length,
      ⟨_, A, [], st0 3, [], ns.length, 0, raw, none, rfl, rfl, Lk.refl A, R3, st0_ok (by decide) (by decide), Same.new hpt _ _ hr3, rA, upd_same, pr, Ag, er, rin, ea.symm, by show 0 + _ ≤ _; omega, Nat.zero_le _⟩, ?_⟩
    rintro m σ H' ⟨A1, L1, s1, tl, f, i, raw1, v, rfl, rfl, eA, R1, ok1, hr1, rA1, hpt1, pn, Ag1, ec, rin1, eo, Ll, il⟩
    refine ⟨_, rfl, r, dr, _, rfl, hr1, rdF_none (by decide +kernel), r, dr, a, ns, i, rfl, hr1, Ag1.sq, _, rfl, ?_⟩
    by_cases c : i < ns.length
    · refine if_true_of (decide_eq_true c) ⟨fun σ' H'' => ∃ m', m' < raw1.length ∧ _, fun _ _ h => h, ?_⟩
      have dr' : ns.drop i = ns[i] :: ns.drop (i + 1) := List.drop_eq_getElem_cons c
      rw [dr'] at ec
      obtain ⟨f', cc, t, cs, rfl, ecc, ecs⟩ := calls_cons ec
      obtain ⟨cl, hat, hst⟩ := call_is ecc (rin1 cc List.mem_cons_self)
      rw [← dr'] at hat
      rw [List.length_cons] at Ll
      refine ⟨_, rfl, _, rfl, A1, L1, s1, r, dr, a, ns, cl, t, i, by rw [eA.a]; rfl, R1, ok1, by omega, hr1, rA1, by rw [eA.x, AXe]; simp, Ag1.sq, hat, fun H2 p A2 L2 j R2 ok2 eA2 Ll2 k2 rA2 pn2 hp0 hp hr2 ej jl => ?_⟩
      have hpt2 := k2.1 _ _ hpt1 pn
      have Ag2 := Ag1.keep k2.cons
      rw [outs_cons hst] at eo
      have tlen : tl.length + (1 + (Sm06.step s1 cl).2.length) ≤ 10000000 := by
        have := congrArg List.length eo
        rw [List.length_append, List.length_cons, List.length_append] at this
        omega
      refine ⟨_, rfl, Or.inl ⟨rfl, _, SqL.of hpt2.1⟩, _, rfl, p, _, rfl, Or.inl (SqL.of hp), pt, _, _, rfl, rfl, hpt2.1, ?_, ?_⟩
      · rw [List.length_map]
        exact Nat.lt_of_le_of_lt (by omega : _ ≤ 10000000) (by decide)
      have pp : p ≠ pt := fun e => by rw [← e, hp0] at hpt1; cases hpt1
      have hp3 : upd H2 pt (.lst (tl.map V.int ++ [.int (((Sm06.step s1 cl).2.map V.int).length : Nat)])) p = some (.lst ((Sm06.step s1 cl).2.map V.int)) := by rw [upd_ne pp]; exact hp
      refine ⟨_, rfl, Or.inl ⟨rfl, _, SqL.of upd_same⟩, _, rfl, pt, p, _, _, rfl, rfl, upd_same, hp3, ?_, ?_⟩
      · rw [List.length_append, List.length_map, List.length_map]
        show _ + 1 + _ ≤ sizeLine
        exact Nat.le_trans (by omega : _ ≤ 10000000) (by decide)
      rw [upd_upd]
      have eA3 := eA2.trans eA
      have ptA : pt ∈ A2.X := by rw [eA3.x, AXe]; simp
      have pnA : pt ∉ A2.M := fun z => hpt2.2 (List.mem_cons_of_mem _ z)
      have pnr : r ≠ pt := fun z => hpt2.2 (z ▸ List.mem_cons_self)
      refine ⟨cs.length, Nat.lt_succ_self _, A2, L2, (Sm06.step s1 cl).1, tl ++ (((Sm06.step s1 cl).2.length : Int) :: (Sm06.step s1 cl).2), f', j, cs, some (.ref p), rfl, rfl, eA3, R2.off ptA pnA, ok2, (upd_ne pnr).trans hr2, rA2, ?_, hpt2.2, ?_, by rw [ej]; exact ecs, fun c hc => rin1 c (List.mem_cons_of_mem _ hc), ?_, by omega, jl⟩
      · rw [upd_same, List.map_append, List.map_cons, List.length_map, List.append_assoc]
        rfl
      · rcases Ag2 with ⟨h | ⟨o, h⟩, n⟩ | h
        · refine .inl ⟨.inl ?_, n⟩
          have ne : a ≠ pt := fun z => n (by rw [z]; exact List.mem_cons_self)
          rw [upd_ne ne]
          exact h
        · refine .inl ⟨.inr ⟨o, ?_⟩, n⟩
          rw [upd_ne (ne_of h hpt2.1 (by intro z; cases z))]
          exact h
        · exact .inr h
      · rw [List.append_assoc, ← eo]
        rfl
    · refine if_false_of (decide_eq_false c) ?_
      have dn : ns.drop i = [] := List.drop_eq_nil_of_le (by omega)
      rw [dn] at ec
      have e0 := calls_nil ec
      subst e0
      have eo' : tl = PySm06.answers ns := by
        rw [← eo]
        show tl = tl ++ []
        rw [List.append_nil]
      exact ⟨_, rfl, q H' pt (by rw [← eo']; exact hpt1)⟩
end Kc
set_option Elab.async false
set_option maxRecDepth 100000
set_option maxHeartbeats 2000000
set_option linter.all false
namespace Kc
open PySem PySem.Spec PyProof.Rows L2
open Sm06 (Clause Trail)
variable {P : Program} {w : World} {K : PySem.W.Frag} {mg : Str → Option Value} {base : Heap} {C : Cs}
def spClause (C : Cs) : Sp := fun vs H Q _ => ∃ x dx li co, ∃ (nu he : Int), vs = [.ref x, .int nu, .int he, .ref li, .ref co] ∧ H x = some (.ins C.cl dx []) ∧ Q .non (upd H x (.ins C.cl dx (clF nu he li co)))
abbrev st_Clause___init__ : Stmt := inClass (top 12) 0
abbrev N_Clause___init__ : List Str := ["self", "number", "height", "literals", "came_of"]
theorem sc_Clause___init__ : FnScope N_Clause___init__ ["self", "number", "height", "literals", "came_of"] (defScope st_Clause___init__) := ⟨rfl, rfl, rfl, by decide +kernel, rfl, by decide +kernel, by decide +kernel⟩
theorem ok_Clause {f : Addr} {fd : FuncData} (F : Fun K "__init__" "Clause.__init__" st_Clause___init__ f fd) (T : Txt K mg C) : FnOk P w K mg base CX0 1 f fd ["self", "number", "height", "literals", "came_of"] (spClause C) := by
  refine F.ok sc_Clause___init__ (fun vs H Q E h => ?_) (fun cdv A outer s H vs Q E hr h => ⟨_, (pss_cons (ps_fld (pv 0) (pv 1) rfl)
      (pss_cons (ps_fld (pv 0) (pv 2) rfl)
      (pss_cons (ps_fld (pv 0) (pv 3) rfl)
      (pss_one (ps_fld (pv 0) (pv 4) rfl))))), ?_⟩)
  · obtain ⟨x, dx, li, co, nu, he, rfl, _⟩ := h
    rfl
  · obtain ⟨x, dx, li, co, nu, he, rfl, hx, q⟩ := h
    refine ⟨_, rfl, _, rfl, x, C.cl, dx, [], rfl, hx, T.clC, T.cl_number, (by show 0 < 1000; decide), ?_⟩
    refine ⟨_, rfl, _, rfl, x, C.cl, dx, _, rfl, upd_same, T.clC, T.cl_height, (by show 1 < 1000; decide), ?_⟩
    refine ⟨_, rfl, _, rfl, x, C.cl, dx, _, rfl, upd_same, T.clC, T.cl_literals, (by show 2 < 1000; decide), ?_⟩
    refine ⟨_, rfl, _, rfl, x, C.cl, dx, _, rfl, upd_same, T.clC, T.cl_came_of, (by show 3 < 1000; decide), ?_⟩
    rw [upd_upd, upd_upd, upd_upd, clF_new]
    exact q
/-- the state behind a new clause -/
def added (s : Sm06.St) (c : Clause) : Sm06.St := ⟨s.n, s.clauses ++ [c], s.next + 1, s.marks, s.order, s.phase⟩
def spAdd (C : Cs) (K : PySem.W.Frag) : Sp := fun vs H Q _ => ∃ N A L s p ns co came, ∃ (h : Nat) (lt : Bool), vs = [.ref (StoA.a A), .int h, .ref p, .ref co] ∧ StoreAt C H ((N ++ A.M) ++ A.X) A L s ∧ SqL K H p ((ns : List Int).map V.int) ∧ p ∉ A.M ∧ L.length ≤ 90000 ∧ H co = some (.lst ((came : List Nat).map fun x => V.int (x : Nat))) ∧ co ∉ (N ++ A.M) ++ A.X ∧ lt = decide (0 < came.length) ∧ came.length ≤ 1000 ∧
  ∀ H' b, StoreAt C H' ((N ++ A.M) ++ A.X) A (L ++ [(b, ⟨s.next, h, lt, byAbs ns, came⟩)]) (added s ⟨s.next, h, lt, byAbs ns, came⟩) → Keep A.M A.M H H' → Q (.int s.next) H'
abbrev st_add_clause : Stmt := top 14
abbrev N_add_clause : List Str := ["store", "height", "literals", "came_of", "number"]
theorem sc_add_clause : FnScope N_add_clause ["store", "height", "literals", "came_of"] (defScope st_add_clause) := ⟨rfl, rfl, rfl, by decide +kernel, rfl, by decide +kernel, by decide +kernel⟩
theorem ok_add_clause {f : Addr} {fd : FuncData} (F : Fun K "add_clause" "add_clause" st_add_clause f fd) (T : Txt K mg C) (m_Clause : Mak P w K mg base 1 "Clause" C.cl ["self", "number", "height", "literals", "came_of"] (spClause C)) : FnOk P w K mg base CX0 3 f fd ["store", "height", "literals", "came_of"] (spAdd C K) := by
  refine F.ok sc_add_clause (fun vs H Q E h => ?_) (fun cdv A outer s H vs Q E hr h => ⟨_, (pss_cons (ps_set (i := 4) sc_add_clause.nd rfl (Or.inl rfl) (pe_fld (pv 0) rfl))
      (pss_cons (ps_fldaug (pv 0) pe_int in_add)
      (pss_cons (ps_expr (pe_bm PySem.F.plainAttrs_list PySem.F.slot_list_append PySem.F.type_list_append mt_append (pe_fld (pv 0) rfl) (pa_cons (pe_mak m_Clause (hr.mono (by decide)) (by rfl) (pa_cons (pv 4) (pa_cons (pv 1) (pa_cons (pe_sortAbs hr T.b_sorted T.b_abs (pa_cons (pv 2) pa_nil)) (pa_cons (pv 3) pa_nil))))) pa_nil)))
      (pss_one (ps_ret (pv 4)))))), ?_⟩)
  · obtain ⟨N, A, L, s, p, ns, co, came, h, lt, rfl, _⟩ := h
    rfl
  · obtain ⟨N, A, L, s, p, ns, co, came, h, lt, rfl, R, hp, pn, L9, hco, con, elt, lca, q⟩ := h
    have coA : co ∉ A.M := fun z => con (List.mem_append_left _ (List.mem_append_right _ z))
    obtain ⟨dy, hb⟩ := R.ob
    obtain ⟨bs, hbs, fbs⟩ := R.la
    refine ⟨_, rfl, A.a, C.st, dy, _, _, rfl, hb, T.stC, T.st_next_number, stF_next_number, ?_⟩
    refine ⟨_, rfl, A.a, C.st, dy, _, _, rfl, hb, T.stC, T.st_next_number, stF_next_number, _, _, rfl, rfl, dy, _, hb, (by show 6 < 1000; decide), ?_⟩
    rw [stF_put_next_number, show ((s.next : Int) + 1) = ((s.next + 1 : Nat) : Int) by omega]
    have k1 : Keep A.M A.M H (upd H A.a (.ins C.st dy (stF s.n A.cl s.marks ((s.next + 1 : Nat) : Int) A.od A.la))) := Keep.put List.mem_cons_self
    have cl1 : upd H A.a (.ins C.st dy (stF s.n A.cl s.marks ((s.next + 1 : Nat) : Int) A.od A.la)) A.cl = some (.lst (L.map fun q => V.ref q.1)) := by
      rw [upd_ne (ndne R.nd 1 0)]
      exact R.cl
    refine ⟨_, rfl, A.a, C.st, dy, _, _, rfl, upd_same, T.stC, T.st_clauses, stF_clauses, Or.inl ⟨rfl, _, SqL.of cl1⟩, _, rfl, _, rfl, _, rfl, p, ns, rfl, SqL.keep hp k1 pn, fun li hli => ⟨_, rfl, ?_⟩⟩
    intro x dx hx hdx ne
    have hH1 : upd H A.a (.ins C.st dy (stF s.n A.cl s.marks ((s.next + 1 : Nat) : Int) A.od A.la)) A.a = some (.ins C.st dy (stF s.n A.cl s.marks ((s.next + 1 : Nat) : Int) A.od A.la)) := upd_same
    have od1 : upd H A.a (.ins C.st dy (stF s.n A.cl s.marks ((s.next + 1 : Nat) : Int) A.od A.la)) A.od = _ := (upd_ne (ndne R.nd 2 0)).trans R.od
    have la1 : upd H A.a (.ins C.st dy (stF s.n A.cl s.marks ((s.next + 1 : Nat) : Int) A.od A.la)) A.la = _ := (upd_ne (ndne R.nd 3 0)).trans hbs
    generalize hG : upd H A.a (.ins C.st dy (stF s.n A.cl s.marks ((s.next + 1 : Nat) : Int) A.od A.la)) = H1 at k1 cl1 hli hx hdx hH1 od1 la1
    have lx : x ≠ li := fun e => by rw [e, upd_same] at hx; cases hx
    have ldx : dx ≠ li := fun e => by rw [e, upd_same] at hdx; cases hdx
    have x1 : H1 x = none := by rw [upd_ne lx] at hx; exact hx
    have dx1 : H1 dx = none := by rw [upd_ne ldx] at hdx; exact hdx
    have sm : Same H1 (upd (upd (upd H1 li (.lst ((byAbs ns).map V.int))) dx (.own x)) x (.ins C.cl dx (clF s.next h li co))) := fun b o e => by
      rw [upd_ne (ne_of_none e x1), upd_ne (ne_of_none e dx1), upd_ne (ne_of_none e hli)]
      exact e
    refine ⟨x, dx, li, co, _, _, rfl, upd_same, rfl, ?_⟩
    rw [upd_upd]
    refine ⟨A.cl, _, _, rfl, rfl, sm _ _ cl1, by rw [List.length_map]; exact small5 (by omega), ?_⟩
    refine ⟨_, rfl, ?_⟩
    have mem : ∀ y ∈ A.M, y ∈ N ++ A.M := fun y hy => List.mem_append_right _ hy
    have kN1 : Keep (N ++ A.M) (N ++ A.M) H H1 := by rw [← hG]; exact Keep.put (mem _ List.mem_cons_self)
    have kN : Keep (N ++ A.M) (N ++ A.M) H (upd (upd (upd (upd H1 li (.lst ((byAbs ns).map V.int))) dx (.own x)) x (.ins C.cl dx (clF s.next h li co))) A.cl (.lst ((L.map fun q => V.ref q.1) ++ [.ref x]))) := (kN1.trans (Keep.same sm)).trans (Keep.put (mem _ (List.mem_cons_of_mem _ List.mem_cons_self)))
    have out : ∀ y, H1 y = none → y ∉ (N ++ A.M) ++ A.X := fun y hy z => R.al y z (k1.2 y hy)
    have xcl : x ≠ A.cl := fun e => by rw [e, cl1] at x1; cases x1
    have lcl : li ≠ A.cl := fun e => by rw [e, cl1] at hli; cases hli
    refine q _ x ⟨⟨dy, ?_⟩, ?_, ?_, ?_, ⟨bs, ?_, fbs⟩, fun r hr => ?_, R.nd, R.sub, fun y hy z => R.al y hy (kN.2 y z)⟩ ((k1.trans (Keep.same sm)).trans (Keep.put (List.mem_cons_of_mem _ List.mem_cons_self)))
    · rw [upd_ne (ndne R.nd 0 1)]
      exact sm _ _ hH1
    · rw [upd_same, List.map_append]
      rfl
    · show s.clauses ++ _ = _
      rw [R.cs, List.map_append]
      rfl
    · rw [upd_ne (ndne R.nd 2 1)]
      exact sm _ _ od1
    · rw [upd_ne (ndne R.nd 3 1)]
      exact sm _ _ la1
    · rcases List.mem_append.mp hr with hr | hr
      · exact (R.each r hr).keepX kN
      · rw [List.mem_singleton] at hr
        subst hr
        have hco9 := kN.1 _ _ hco fun z => con (List.mem_append_left _ z)
        refine ⟨dx, li, co, ?_, ?_, out x x1, out li hli, hco9.1, con, elt, lca⟩
        · rw [upd_ne xcl, upd_same]
        · rw [upd_ne lcl, upd_ne (Ne.symm lx), upd_ne (Ne.symm ldx), upd_same]
theorem byAbs_up {ns : List Int} (nd : ns.Nodup) (one : ∀ a ∈ ns, ∀ b ∈ ns, a.natAbs = b.natAbs → a = b) : (byAbs ns).Pairwise fun a b => a.natAbs < b.natAbs := by
  have e : ∀ x : Int, (if x < 0 then -x else x) = ((x.natAbs : Nat) : Int) := abs_ix
  have h1 : (byAbs ns).Pairwise fun a b => decide ((if a < 0 then -a else a) ≤ (if b < 0 then -b else b)) = true := List.pairwise_mergeSort (fun a b c h1 h2 => by
    rw [decide_eq_true_iff] at h1 h2 ⊢
    omega) (fun a b => by
    rw [Bool.or_eq_true, decide_eq_true_iff, decide_eq_true_iff]
    omega) ns
  have pm : (byAbs ns).Perm ns := List.mergeSort_perm ns _
  have nd2 : (byAbs ns).Nodup := pm.nodup_iff.mpr nd
  have both := h1.and nd2
  refine List.Pairwise.imp_of_mem (fun {a b} ha hb h => ?_) both
  have h2 := of_decide_eq_true h.1
  rw [e, e] at h2
  have : a.natAbs ≠ b.natAbs := fun z => h.2 (one a (pm.mem_iff.mp ha) b (pm.mem_iff.mp hb) z)
  omega
theorem byAbs_mem {ns : List Int} {z : Int} : z ∈ byAbs ns ↔ z ∈ ns := (List.mergeSort_perm ns _).mem_iff
theorem joined_lits {n : Nat} {ls : List Int} (h : ls.all (Sm06.isLit n) = true) (pl : Sm06.plain ls = true) : Lits n (Sm06.joined [] ls) ∧ Sm06.joined [] ls = byAbs (onceK ls) := by
  have rg : ∀ x ∈ ls, 1 ≤ x.natAbs ∧ x.natAbs ≤ n := fun x hx => by
    have := List.all_eq_true.mp h x hx
    unfold Sm06.isLit at this
    rw [Bool.and_eq_true, decide_eq_true_iff, decide_eq_true_iff] at this
    exact this
  have one : ∀ a ∈ ls, ∀ b ∈ ls, a.natAbs = b.natAbs → a = b := fun a ha b hb e => by
    rcases Int.natAbs_eq_natAbs_iff.mp e with q | q
    · exact q
    · exfalso
      unfold Sm06.plain at pl
      have := List.all_eq_true.mp pl b hb
      rw [Bool.not_eq_true', Bool.eq_false_iff] at this
      exact this (List.contains_iff_mem.mpr (by rw [show 0 - b = a by omega]; exact ha))
  have up := joined_up (a := []) (b := ls) List.Pairwise.nil (by simpa using one)
  have m1 : ∀ z, z ∈ Sm06.joined [] ls ↔ z ∈ ls := fun z => by rw [mem_joined]; simp
  have m2 : ∀ z, z ∈ byAbs (onceK ls) ↔ z ∈ ls := fun z => by
    rw [byAbs_mem]
    unfold onceK
    rw [onceK_mem]
    simp
  have nd : (onceK ls).Nodup := onceK_nodup List.nodup_nil
  refine ⟨⟨up, fun x hx => rg x ((m1 x).mp hx)⟩, up_unique up (byAbs_up nd fun a ha b hb => ?_) fun z => (m1 z).trans (m2 z).symm⟩
  unfold onceK at ha hb
  rw [onceK_mem] at ha hb
  exact one a (by simpa using ha) b (by simpa using hb)
def spAClause (C : Cs) (K : PySem.W.Frag) : Sp := fun vs H Q _ => ∃ A L s p ls, vs = [.ref (StoA.a A), .ref p] ∧ StoreAt C H (AX A) A L s ∧ SOk s ∧ SqL K H p ((ls : List Int).map V.int) ∧ p ∉ A.M ∧ ls.length ≤ 1000 ∧ L.length ≤ 80000 ∧ Post C H A L s (.clause ls) Q
abbrev st_answer_clause : Stmt := top 45
abbrev N_answer_clause : List Str := ["store", "literals"]
theorem sc_answer_clause : FnScope N_answer_clause ["store", "literals"] (defScope st_answer_clause) := ⟨rfl, rfl, rfl, by decide +kernel, rfl, by decide +kernel, by decide +kernel⟩
theorem ok_answer_clause {f : Addr} {fd : FuncData} (F : Fun K "answer_clause" "answer_clause" st_answer_clause f fd) (T : Txt K mg C) (c_has_wrong_literal : Cal P w K mg base 1 "has_wrong_literal" ["store", "literals"] (spWrong C K)) (c_is_told_both_ways : Cal P w K mg base 1 "is_told_both_ways" ["literals"] (spBoth K)) (c_given_clauses : Cal P w K mg base 2 "given_clauses" ["store"] (spPick C fun c => !c.learnt)) (c_each_once : Cal P w K mg base 1 "each_once" ["literals"] (spOnce K)) (c_add_clause : Cal P w K mg base 3 "add_clause" ["store", "height", "literals", "came_of"] (spAdd C K)) : FnOk P w K mg base CX0 4 f fd ["store", "literals"] (spAClause C K) := by
  refine F.ok sc_answer_clause (fun vs H Q E h => ?_) (fun cdv A outer s H vs Q E hr h => ⟨_, (pss_cons (ps_if (pt_val (pe_cal c_has_wrong_literal (hr.mono (by decide)) (by rfl) (pa_cons (pv 0) (pa_cons (pv 1) pa_nil)))) (pss_one (ps_ret (pe_lst (pa_cons (pe_un un_neg pe_int) pa_nil)))) pss_nil)
      (pss_cons (ps_if (pt_val (pe_cal c_is_told_both_ways (hr.mono (by decide)) (by rfl) (pa_cons (pv 1) pa_nil))) (pss_one (ps_ret (pe_lst (pa_cons (pe_un un_neg pe_int) pa_nil)))) pss_nil)
      (pss_cons (ps_if (pt_cmpR op_ge (pe_callB call_len_seq (by rfl) T.b_len PySem.boot_len (pa_cons (pe_cal c_given_clauses (hr.mono (by decide)) (by rfl) (pa_cons (pv 0) pa_nil)) pa_nil)) (pe_konst T.g_MOST_GIVEN rfl) (nomark _)) (pss_one (ps_ret (pe_lst (pa_cons (pe_un un_neg pe_int) pa_nil)))) pss_nil)
      (pss_one (ps_ret (pe_lst (pa_cons (pe_cal c_add_clause (hr.mono (by decide)) (by rfl) (pa_cons (pv 0) (pa_cons (pe_fld (pv 0) rfl) (pa_cons (pe_cal c_each_once (hr.mono (by decide)) (by rfl) (pa_cons (pv 1) pa_nil)) (pa_cons (pe_lst pa_nil) pa_nil))))) pa_nil))))))), ?_⟩)
  · obtain ⟨A, L, s, p, ls, rfl, _⟩ := h
    rfl
  · obtain ⟨A, L, s, p, ls, rfl, R, ok, hp, pn, l1, L8, q⟩ := h
    have st : ∀ x, Sm06.step s (.clause ls) = x ↔ (if ls.all (Sm06.isLit s.n) = false then (s, [-2]) else if Sm06.plain ls = false then (s, [-1]) else if 50 ≤ (s.clauses.filter fun c => !c.learnt).length then (s, [-5]) else (added s ⟨s.next, s.marks, false, Sm06.joined [] ls, []⟩, [(s.next : Int)])) = x := fun x => Iff.rfl
    refine ⟨_, rfl, _, rfl, AX A, A, L, s, p, ls, rfl, R, hp, l1, fun H1 s1 => ⟨_, rfl, ?_⟩⟩
    cases c : ls.all (Sm06.isLit s.n) with
    | false => exact if_true_of rfl ⟨_, rfl, (by show 1 ≤ sizeLine; decide), fun p hp => post_same q R ok ((st _).mpr (if_pos c)) (s1.trans (Same.new hp)) (s1.free hp) upd_same⟩
    | true =>
      rw [c] at st
      refine if_false_of rfl ⟨_, rfl, p, ls, rfl, s1.seq hp, l1, fun H2 s2 => ⟨_, rfl, ?_⟩⟩
      have s12 := s1.trans s2
      cases c2 : Sm06.plain ls with
      | false => exact if_true_of rfl ⟨_, rfl, (by show 1 ≤ sizeLine; decide), fun p hp => post_same q R ok ((st _).mpr (by rw [if_neg (by decide), if_pos c2])) (s12.trans (Same.new hp)) (s12.free hp) upd_same⟩
      | true =>
        rw [c2] at st
        refine if_false_of rfl ⟨_, rfl, AX A, A, L, s, rfl, R.same s12, by omega, fun H3 p3 s3 hp3 h3 => ?_⟩
        have s13 := s12.trans s3
        have gl : (s.clauses.filter fun c => !c.learnt).length = (L.filter fun q => !q.2.learnt).length := by
          rw [R.cs, List.filter_map, List.length_map]
          rfl
        refine ⟨p3, _, rfl, Or.inl (SqL.of h3), _, _, rfl, rfl, _, rfl, ite_z (fun c3 => ?_) fun c3 => ?_⟩
        · rw [List.length_map] at c3
          dsimp only at c3
          exact ⟨_, rfl, (by show 1 ≤ sizeLine; decide), fun p hp => post_same q R ok ((st _).mpr (by rw [if_neg (by decide), if_neg (by decide), if_pos (by omega)])) (s13.trans (Same.new hp)) (s13.free hp) upd_same⟩
        · rw [List.length_map] at c3
          dsimp only at c3
          obtain ⟨jl, je⟩ := joined_lits c c2
          have es : Sm06.step s (.clause ls) = (added s ⟨s.next, s.marks, false, Sm06.joined [] ls, []⟩, [(s.next : Int)]) := (st _).mpr (by rw [if_neg (by decide), if_neg (by decide), if_neg (by omega)])
          obtain ⟨dy, hb⟩ := R.ob
          refine ⟨_, rfl, _, rfl, A.a, C.st, dy, _, _, rfl, s13 _ _ hb, T.stC, T.st_marks, stF_marks, _, rfl, p, ls, rfl, s13.seq hp, l1, fun H4 p4 s4 hp4 h4 => ⟨Nat.zero_le _, fun co hco => ?_⟩⟩
          have s14 := (s13.trans s4).trans (Same.new (o := .lst []) hco)
          have con : co ∉ AX A := fun z => R.al co z ((s13.trans s4).free hco)
          refine ⟨[], A, L, s, p4, onceK ls, co, [], s.marks, false, rfl, R.same s14, SqL.of (Same.new hco _ _ h4), (R.same s13).out hp4, by omega, upd_same, con, rfl, Nat.zero_le _, fun H5 b R5 k5 => ⟨(by show 1 ≤ sizeLine; decide), fun p hp => ?_⟩⟩
          have k := (Keep.same (M := A.M) s14).trans k5
          have R5' := R5
          rw [← je] at R5'
          refine q _ p A (L ++ [(b, ⟨s.next, s.marks, false, Sm06.joined [] ls, []⟩)]) ?_ ?_ (Lk.refl A) (by rw [List.length_append, List.length_singleton]; omega) (k.trans (Keep.same (Same.new hp))) (R5'.out hp) (k.2 p hp) ?_
          · rw [es]
            exact R5'.same (Same.new hp)
          · rw [es]
            refine ⟨ok.n1, ok.n12, fun c hc => ?_, ok.ord, ok.ol, ok.ph⟩
            rcases List.mem_append.mp hc with hc | hc
            · exact ok.lits c hc
            · rw [List.mem_singleton] at hc
              rw [hc]
              exact jl
          · rw [es, upd_same]
            rfl
end Kc
set_option Elab.async false
set_option maxRecDepth 100000
set_option maxHeartbeats 2000000
set_option linter.all false
namespace Kc
open PySem PySem.Spec PyProof.Rows L2
open Sm06 (Clause Trail)
variable {P : Program} {w : World} {K : PySem.W.Frag} {mg : Str → Option Value} {base : Heap} {C : Cs}
theorem SettAt.keepA {H H' : Hp} {M M' : List Addr} {B : SetA} {st : Addr} {L L' : List (Addr × Clause)} {n : Nat} {t : Trail} {level : Nat} {N N' : List Addr} (h : SettAt C H M B st L n t level) (k : Keep N N' H H') (out : ∀ y ∈ B.M, y ∉ N) (sub : ∀ y ∈ B.M, y ∈ M') (hL : ∀ p ∈ L, p ∈ L') : SettAt C H' M' B st L' n t level where
  ob := let ⟨dx, h1⟩ := h.ob; ⟨dx, (k.1 _ _ h1 (out _ (by simp))).1⟩
  tr := (k.1 _ _ h.tr (out _ (by simp))).1
  va := let ⟨bs, h1, h2⟩ := h.va; ⟨bs, (k.1 _ _ h1 (out _ (by simp))).1, h2⟩
  le := let ⟨bs, h1, h2⟩ := h.le; ⟨bs, (k.1 _ _ h1 (out _ (by simp))).1, h2⟩
  wh := let ⟨bs, h1, h2, h3⟩ := h.wh; ⟨bs, (k.1 _ _ h1 (out _ (by simp))).1, h2, fun x hx => let ⟨v, e1, e2⟩ := h3 x hx; ⟨v, e1, whyV_mono hL e2⟩⟩
  nd := h.nd
  sub := sub
theorem Wd.phase {H : Hp} {B : SetA} {A : StoA} {L : List (Addr × Clause)} {s s' : Sm06.St} {t : Trail} {level : Nat} (W : Wd C H B A L s t level) (e1 : s'.n = s.n) (e2 : s'.clauses = s.clauses) (e3 : s'.next = s.next) (e4 : s'.marks = s.marks) (e5 : s'.order = s.order) (e6 : ∀ v, v ∈ s'.phase ↔ v ∈ s.phase) : Wd C H B A L s' t level := by
  refine ⟨?_, by rw [e1]; exact W.set, W.nd, by rw [e1, e2]; exact W.good, W.lev, ⟨by rw [e1]; exact W.ok.n1, by rw [e1]; exact W.ok.n12, by rw [e1, e2]; exact W.ok.lits, by rw [e1, e5]; exact W.ok.ord, by rw [e1, e5]; exact W.ok.ol, fun v hv => by rw [e1]; exact W.ok.ph v ((e6 v).mp hv)⟩, ?_⟩
  · have e : rest B s' = rest B s := by
      unfold rest
      rw [e1, e2, e3, e4, e5]
    rw [e]
    exact W.sto
  · rw [e1]
    refine W.la.iff fun v => ?_
    by_cases c : ∃ x ∈ t, x.lit.natAbs = v
    · obtain ⟨x, hx, rfl⟩ := c
      rw [kept_in W.good hx, kept_in W.good hx]
    · rw [kept_out fun x hx e => c ⟨x, hx, e⟩, kept_out fun x hx e => c ⟨x, hx, e⟩]
      exact e6 v
theorem backTo_congr {level : Nat} {t : Trail} {a b : List Int} (h : ∀ l ∈ a, Sm06.levelOf t l ≤ level) (e : ∀ l, l ∈ a ↔ l ∈ b) : Sm06.backTo level t a = Sm06.backTo level t b := by
  have key : ∀ ls : List Int, (∀ l ∈ ls, Sm06.levelOf t l ≤ level) → (∀ l ∈ ls, Sm06.levelOf t l < level → Sm06.levelOf t l ≤ Sm06.backTo level t ls) ∧ (Sm06.backTo level t ls = 0 ∨ ∃ l ∈ ls, Sm06.levelOf t l < level ∧ Sm06.levelOf t l = Sm06.backTo level t ls) := fun ls hl => by
    have eq : Sm06.backTo level t ls = (ls.filter fun z => Sm06.levelOf t z != level).foldl (fun m z => max m (Sm06.levelOf t z)) 0 := backTo_go ls 0
    obtain ⟨h1, _, h3⟩ := maxl_go (f := fun z => Sm06.levelOf t z) (ls.filter fun z => Sm06.levelOf t z != level) 0
    rw [← eq] at h1 h3
    refine ⟨fun l hm lt => h1 l (List.mem_filter.mpr ⟨hm, by simp; omega⟩), ?_⟩
    rcases h3 with h3 | ⟨l, hm, he⟩
    · exact Or.inl h3
    · rw [List.mem_filter] at hm
      have h4 := hl l hm.1
      have h5 : Sm06.levelOf t l ≠ level := by simpa using hm.2
      exact Or.inr ⟨l, hm.1, by omega, he.symm⟩
  obtain ⟨k1, k2⟩ := key a h
  exact (backTo_is (fun l hl => h l ((e l).mpr hl)) (fun l hl lt => k1 l ((e l).mpr hl) lt) (k2.imp id fun ⟨l, hl, q⟩ => ⟨l, (e l).mp hl, q⟩)).symm
theorem met_rev {cs : List Clause} {v : Nat} : (metN cs.reverse).contains v = (metN cs).contains v := by
  rw [Bool.eq_iff_iff, List.contains_iff_mem, List.contains_iff_mem]
  unfold metN
  simp
/-- the state that is learnt, told by what went out -/
theorem learn_is {s : Sm06.St} {t : Trail} {level : Nat} {c : Clause} {xs1 xs2 : List Int} {U1 U2 : List Clause} {m : Nat} (e1 : ∀ u, Sm06.apart level t ⟨Sm06.joined [] c.lits, u⟩ = ⟨xs1, U1.reverse ++ u⟩) (e2 : ∀ u, Sm06.grounded t ⟨xs1, u⟩ = ⟨xs2, U2.reverse ++ u⟩) (hm1 : ∃ d ∈ c :: (U1 ++ U2), d.height = m) (hm2 : ∀ d ∈ c :: (U1 ++ U2), d.height ≤ m) :
    Sm06.learn s level t c = (⟨s.n, s.clauses ++ [⟨s.next, m, true, xs2, (c :: (U1 ++ U2)).map fun d => d.num⟩], s.next + 1, s.marks, s.order.filter (metN (c :: (U1 ++ U2))).contains ++ s.order.filter (fun v => !(metN (c :: (U1 ++ U2))).contains v), s.phase⟩, Sm06.backTo level t xs2) := by
  have ec : Sm06.causeOf level t c = ⟨xs2, (c :: (U1 ++ U2)).reverse⟩ := by
    unfold Sm06.causeOf
    rw [e1, e2]
    simp
  have eh : Sm06.height (c :: (U1 ++ U2)).reverse = m := height_is (by
    obtain ⟨d, hd, e⟩ := hm1
    exact ⟨d, List.mem_reverse.mpr hd, e⟩) fun d hd => hm2 d (List.mem_reverse.mp hd)
  have em : ∀ v, (((c :: (U1 ++ U2)).reverse.flatMap fun c => c.lits.map Int.natAbs) : List Nat).contains v = (metN (c :: (U1 ++ U2))).contains v := fun v => met_rev
  unfold Sm06.learn
  rw [ec]
  dsimp only
  rw [eh, List.reverse_reverse]
  refine congrArg (fun o => ((⟨s.n, _, _, _, o, _⟩ : Sm06.St), _)) ?_
  refine congr (congrArg _ (List.filter_congr fun v _ => em v)) (List.filter_congr fun v _ => by rw [em v])
theorem filt_len {p : Nat → Bool} : ∀ {l : List Nat}, (l.filter p ++ l.filter fun v => !p v).length = l.length
  | [] => rfl
  | x :: l => by
    have ih := filt_len (p := p) (l := l)
    rw [List.length_append] at ih ⊢
    rw [List.filter_cons, List.filter_cons, List.length_cons]
    cases p x with
    | true =>
      simp only [if_true, Bool.not_true, Bool.false_eq_true, if_false, List.length_cons]
      omega
    | false =>
      simp only [Bool.false_eq_true, if_false, Bool.not_false, if_true, List.length_cons]
      omega
theorem Keep.app {M M' N : List Addr} {H H' : Hp} (k : Keep M M' H H') : Keep (N ++ M) (N ++ M') H H' := ⟨fun b o e n => by
  rw [List.mem_append, not_or] at n ⊢
  obtain ⟨h1, h2⟩ := k.1 b o e n.2
  exact ⟨h1, n.1, h2⟩, k.2⟩
/-- the order is another list -/
theorem StoreAt.ord {H H' : Hp} {N : List Addr} {A : StoA} {L : List (Addr × Clause)} {s s' : Sm06.St} {od dx : Addr} (R : StoreAt C H ((N ++ A.M) ++ A.X) A L s) (hod : H od = none) (h1 : H' od = some (.lst (s'.order.map fun v => V.int (v : Nat)))) (ho : H' A.a = some (.ins C.st dx (stF s.n A.cl s.marks s.next od A.la))) (bt : But A.a H H') (e1 : s'.n = s.n) (e2 : s'.clauses = s.clauses) (e3 : s'.next = s.next) (e4 : s'.marks = s.marks) (e6 : s'.phase = s.phase) :
    StoreAt C H' ((N ++ StoA.M ⟨A.a, A.cl, od, A.la, A.X⟩) ++ A.X) ⟨A.a, A.cl, od, A.la, A.X⟩ L s' ∧ Keep A.M (StoA.M ⟨A.a, A.cl, od, A.la, A.X⟩) H H' := by
  have k : Keep A.M (StoA.M ⟨A.a, A.cl, od, A.la, A.X⟩) H H' := by
    refine ⟨fun b o h nb => ⟨bt b o h fun z => nb (by rw [z]; exact List.mem_cons_self), fun z => ?_⟩, fun b h => bt.free ho h⟩
    simp only [StoA.M, List.mem_cons, List.not_mem_nil, or_false, not_or] at nb z
    rcases z with z | z | z | z
    · exact nb.1 z
    · exact nb.2.1 z
    · rw [z, hod] at h
      cases h
    · exact nb.2.2.2 z
  obtain ⟨bs, hb, h2, h3⟩ := R.la
  have n1 : A.cl ≠ od := ne_of_none R.cl hod
  have n2 : A.la ≠ od := ne_of_none hb hod
  have n3 : A.a ≠ od := let ⟨_, h⟩ := R.ob; ne_of_none h hod
  refine ⟨⟨⟨dx, by rw [e1, e3, e4]; exact ho⟩, bt _ _ R.cl (ndne R.nd 1 0), e2.trans R.cs, h1, ⟨bs, bt _ _ hb (ndne R.nd 3 0), by rw [e1]; exact h2, by rw [e1, e6]; exact h3⟩, fun p hp => (R.each p hp).keepX k.app, ?_, fun x hx => List.mem_append_left _ (List.mem_append_right _ hx), fun y hy z => ?_⟩, k⟩
  · simp only [StoA.M, List.nodup_cons, List.mem_cons, List.not_mem_nil, or_false, not_or]
    exact ⟨⟨ndne R.nd 0 1, n3, ndne R.nd 0 3⟩, ⟨n1, ndne R.nd 1 3⟩, Ne.symm n2, not_false, List.nodup_nil⟩
  · have key : y = od ∨ y ∈ (N ++ A.M) ++ A.X := by
      simp only [StoA.M, List.mem_append, List.mem_cons, List.not_mem_nil, or_false] at hy ⊢
      rcases hy with (h | h | h | h | h) | h
      · exact Or.inr (Or.inl (Or.inl h))
      · exact Or.inr (Or.inl (Or.inr (Or.inl h)))
      · exact Or.inr (Or.inl (Or.inr (Or.inr (Or.inl h))))
      · exact Or.inl h
      · exact Or.inr (Or.inl (Or.inr (Or.inr (Or.inr (Or.inr h)))))
      · exact Or.inr (Or.inr h)
    rcases key with e | hy
    · rw [e, h1] at z
      cases z
    · exact R.al y hy (bt.free ho z)
end Kc
set_option Elab.async false
set_option maxRecDepth 100000
set_option maxHeartbeats 2000000
set_option linter.all false
namespace Kc
open PySem PySem.Spec PyProof.Rows L2
open Sm06 (Clause Trail)
variable {P : Program} {w : World} {K : PySem.W.Frag} {mg : Str → Option Value} {base : Heap} {C : Cs}
abbrev st_learn : Stmt := top 26
abbrev N_learn : List Str := ["settings", "broken", "kept", "literal", "came", "literals", "height", "clause"]
theorem sc_learn : FnScope N_learn ["settings", "broken"] (defScope st_learn) := ⟨rfl, rfl, rfl, by decide +kernel, rfl, by decide +kernel, by decide +kernel⟩
theorem ok_learn {f : Addr} {fd : FuncData} (F : Fun K "learn" "learn" st_learn f fd) (T : Txt K mg C) (c_swap_out_at : Cal P w K mg base 2 "swap_out_at" ["settings", "kept", "level", "may_stay"] (spSwapAt C)) (c_add_clause : Cal P w K mg base 3 "add_clause" ["store", "height", "literals", "came_of"] (spAdd C K)) (c_bring_to_front : Cal P w K mg base 1 "bring_to_front" ["store", "clauses"] (spFront C K)) (c_undo_above : Cal P w K mg base 1 "undo_above" ["settings", "level"] (spUndo C)) (c_level_to_go_back_to : Cal P w K mg base 1 "level_to_go_back_to" ["settings", "literals"] (spBack C K)) : FnOk P w K mg base CX0 4 f fd ["settings", "broken"] (spLearn C) := by
  refine F.ok sc_learn (fun vs H Q E h => ?_) (fun cdv A outer s H vs Q E hr h => ⟨_, (pss_cons (ps_set (i := 2) sc_learn.nd rfl (Or.inl rfl) pe_dnewK)
      (pss_cons (ps_for PassesOwn.never rfl (pi_list (pe_fld (pv 1) rfl)) (pg_name (i := 3) sc_learn.nd rfl (Or.inl rfl)) (pss_one (ps_dput (hu_of hr) (pv 2) (pv 3) pe_bl rfl)))
      (pss_cons (ps_set (i := 4) sc_learn.nd rfl (Or.inl rfl) (pe_lst (pa_cons (pv 1) pa_nil)))
      (pss_cons (ps_expr (pe_bm PySem.F.plainAttrs_list PySem.F.slot_list_extend PySem.F.type_list_extend mt_extend (pv 4) (pa_cons (pe_cal c_swap_out_at (hr.mono (by decide)) (by rfl) (pa_cons (pv 0) (pa_cons (pv 2) (pa_cons (pe_fld (pv 0) rfl) (pa_cons pe_int pa_nil))))) pa_nil)))
      (pss_cons (ps_expr (pe_bm PySem.F.plainAttrs_list PySem.F.slot_list_extend PySem.F.type_list_extend mt_extend (pv 4) (pa_cons (pe_cal c_swap_out_at (hr.mono (by decide)) (by rfl) (pa_cons (pv 0) (pa_cons (pv 2) (pa_cons pe_int (pa_cons pe_int pa_nil))))) pa_nil)))
      (pss_cons (ps_set (i := 5) sc_learn.nd rfl (Or.inl rfl) (pe_callTy (call_list_dK rfl) (by rfl) T.b_list (by decide +kernel) (pa_cons (pv 2) pa_nil)))
      (pss_cons (ps_set (i := 6) sc_learn.nd rfl (Or.inl rfl) (pe_callB (cr_max rfl) (by rfl) T.b_max (by decide +kernel) (pa_cons (pe_lc (own := [("clause", 7)]) (g := gName 7) rfl sc_learn.nd (pi_list (pv 4)) (blkOk_by (own := [("clause", 7)]) (N := N_learn) (sc := defScope st_learn) (by decide +kernel)) (fun _ _ _ _ _ => pg_name (i := 7) sc_learn.nd rfl (Or.inl rfl)) (fun _ _ _ _ _ => by exact pts_nil) (fun _ _ _ _ _ => by exact (pe_fldK K (pv 7) rfl))) pa_nil)))
      (pss_cons (ps_expr (pe_cal c_add_clause (hr.mono (by decide)) (by rfl) (pa_cons (pe_fld (pv 0) rfl) (pa_cons (pv 6) (pa_cons (pv 5) (pa_cons (pe_lc (own := [("clause", 7)]) (g := gName 7) rfl sc_learn.nd (pi_list (pv 4)) (blkOk_by (own := [("clause", 7)]) (N := N_learn) (sc := defScope st_learn) (by decide +kernel)) (fun _ _ _ _ _ => pg_name (i := 7) sc_learn.nd rfl (Or.inl rfl)) (fun _ _ _ _ _ => by exact pts_nil) (fun _ _ _ _ _ => by exact (pe_fldK K (pv 7) rfl))) pa_nil))))))
      (pss_cons (ps_expr (pe_cal c_bring_to_front (hr.mono (by decide)) (by rfl) (pa_cons (pe_fld (pv 0) rfl) (pa_cons (pv 4) pa_nil))))
      (pss_one (ps_expr (pe_cal c_undo_above (hr.mono (by decide)) (by rfl) (pa_cons (pv 0) (pa_cons (pe_cal c_level_to_go_back_to (hr.mono (by decide)) (by rfl) (pa_cons (pv 0) (pa_cons (pv 5) pa_nil))) pa_nil)))))))))))))), ?_⟩)
  · obtain ⟨B, A, L, s, t, level, b, c, rfl, _⟩ := h
    rfl
  · obtain ⟨B, A, L, s, t, level, b, c, rfl, zt, W, hb, hno, l0, L9, q⟩ := h
    have gt : Good true s.n s.clauses t := zt ▸ W.good
    obtain ⟨dy, li, co, h1, h2, _⟩ := W.sto.each _ hb
    have cl := W.lits _ hb
    have c12 : c.lits.length ≤ 12 := Nat.le_trans cl.len W.ok.n12
    have n12 := W.ok.n12
    have hL : ∀ {H' : Hp}, Same H H' → ∀ p ∈ L, ClauseAt C H' (MX B A) p.1 p.2 ∧ Lits s.n p.2.lits := fun sm p hp => ⟨(W.sto.each p hp).keep (Keep.same sm), W.lits p hp⟩
    -- kept = {}; its own literals
    intro d hd
    have smd : ∀ o, Same H (upd H d o) := fun o => Same.new hd
    refine ⟨_, rfl, b, C.cl, dy, _, _, rfl, smd _ _ _ h1, T.clC, T.cl_literals, clF_literals, li, rfl, ⟨_, SqL.of (smd _ _ _ h2)⟩, for_list (K := K) (a := li) (xs := c.lits.map V.int) (fun i σ H' => ∃ v : Option V, σ = [some (.ref B.a), some (.ref b), some (.ref d), v, none, none, none, none] ∧ H' = upd H d (.dK (sk (onceK (c.lits.take i))))) ⟨none, rfl, rfl⟩ (fun i σ H' _ ⟨_, _, e⟩ => by rw [e]; exact SqL.of (smd _ _ _ h2)) ?_ ?_⟩
    · rintro i y σ H' hi ⟨v, rfl, rfl⟩
      obtain ⟨l, hz, rfl⟩ := get_of_map hi
      have tk : onceK (c.lits.take (i + 1)) = addK (onceK (c.lits.take i)) l := by
        unfold onceK
        rw [List.take_add_one, hz, List.foldl_append]
        rfl
      refine ⟨_, rfl, _, rfl, d, _, rfl, DPut.k (k := Sum.inl l) upd_same ?_, ?_⟩
      · rw [sk_len]
        refine small1000 (Nat.le_trans onceK_len ?_)
        rw [List.length_take]
        simp only [List.length_nil]
        omega
      · rw [upd_upd, sk_put]
        exact ⟨some (.int l), rfl, by rw [tk]⟩
    rintro σ H' ⟨v, rfl, rfl⟩
    rw [List.length_map, List.take_length]
    have hd1 : upd H d (.dK (sk (onceK c.lits))) d = some (.dK (sk (onceK c.lits))) := upd_same
    have sm1 := smd (.dK (sk (onceK c.lits)))
    generalize upd H d (.dK (sk (onceK c.lits))) = H1 at hd1 sm1
    have nk0 : (onceK c.lits).Nodup := onceK_nodup List.nodup_nil
    have mk0 : ∀ l, l ∈ Sm06.joined [] c.lits ↔ l ∈ onceK c.lits := fun l => by
      rw [mem_joined]
      unfold onceK
      rw [onceK_mem]
    have N0 : Neg t (Sm06.joined [] c.lits) := ⟨joined_up List.Pairwise.nil (fun a ha z hz e => cl.inj (by simpa using ha) (by simpa using hz) e), fun l hl => hno l (by simpa using mem_joined.mp hl)⟩
    -- came = [broken]
    refine ⟨_, rfl, (by show 1 ≤ sizeLine; decide), fun pc hpc => ?_⟩
    have sm2 : Same H (upd H1 pc (.lst [.ref b])) := sm1.trans (Same.new hpc)
    have hd2 := Same.new (o := .lst [.ref b]) hpc _ _ hd1
    have pc2 : upd H1 pc (.lst [.ref b]) pc = some (.lst [.ref b]) := upd_same
    have pcH : H pc = none := sm1.free hpc
    generalize upd H1 pc (.lst [.ref b]) = H2 at sm2 hd2 pc2
    obtain ⟨dx, ha⟩ := W.set.ob
    refine ⟨_, rfl, Or.inl ⟨rfl, _, SqL.of pc2⟩, _, rfl, _, rfl, _, rfl, B.a, C.se, dx, _, _, rfl, sm2 _ _ ha, T.seC, T.se_level, seF_level, MX B A, B, A.a, L, s.n, s.clauses, t, level, d, onceK c.lits, Sm06.joined [] c.lits, Sm06.apart level t, level, 1, rfl, W.set.same sm2, hL sm2, n12, gt, sw_apart gt W.lev, hd2, nk0, N0, mk0, fun H3 p3 U1 ks1 xs1 hp3 hU1 UL1 Ul1 hd3 nk1 N1 mk1 eG1 bt3 => ?_⟩
    have tl := W.good.len
    have pcd : pc ≠ d := ne_of pc2 hd2 (by intro z; cases z)
    have pc3 := bt3 _ _ pc2 pcd
    refine ⟨pc, p3, _, _, rfl, rfl, pc3, hU1, ?_, ?_⟩
    · rw [List.length_map]
      show 1 + _ ≤ sizeLine
      exact Nat.le_of_lt (small1000 (by omega))
    have pc4 : upd H3 pc (.lst ([V.ref b] ++ U1.map fun q => V.ref q.1)) pc = some (.lst ([V.ref b] ++ U1.map fun q => V.ref q.1)) := upd_same
    have hd4 : upd H3 pc (.lst ([V.ref b] ++ U1.map fun q => V.ref q.1)) d = some (.dK (sk ks1)) := by rw [upd_ne (Ne.symm pcd)]; exact hd3
    have sm4 : Same H (upd H3 pc (.lst ([V.ref b] ++ U1.map fun q => V.ref q.1))) := fun x o e => by
      rw [upd_ne (ne_of_none e pcH)]
      exact bt3 x o (sm2 x o e) (ne_of_none e hd)
    generalize upd H3 pc (.lst ([V.ref b] ++ U1.map fun q => V.ref q.1)) = H4 at pc4 hd4 sm4
    refine ⟨_, rfl, Or.inl ⟨rfl, _, SqL.of pc4⟩, _, rfl, _, rfl, MX B A, B, A.a, L, s.n, s.clauses, t, level, d, ks1, xs1, Sm06.grounded t, 0, 0, rfl, W.set.same sm4, hL sm4, n12, gt, sw_ground gt, hd4, nk1, N1, mk1, fun H5 p5 U2 ks2 xs2 hp5 hU2 UL2 Ul2 hd5 nk2 N2 mk2 eG2 bt5 => ?_⟩
    have pc5 := bt5 _ _ pc4 pcd
    refine ⟨pc, p5, _, _, rfl, rfl, pc5, hU2, ?_, ?_⟩
    · rw [List.length_append, List.length_map, List.length_map]
      show 1 + _ + _ ≤ sizeLine
      exact Nat.le_of_lt (small1000 (by omega))
    have eU : ([V.ref b] ++ U1.map fun q => V.ref q.1) ++ U2.map (fun q => V.ref q.1) = ((b, c) :: (U1 ++ U2)).map fun q => V.ref q.1 := by
      rw [List.map_cons, List.map_append]
      rfl
    rw [eU]
    have UL : ∀ p ∈ (b, c) :: (U1 ++ U2), p ∈ L := fun p hp => by
      rcases List.mem_cons.mp hp with e | hp
      · rw [e]
        exact hb
      · exact (List.mem_append.mp hp).elim (UL1 p) (UL2 p)
    have Ull : ((b, c) :: (U1 ++ U2)).length ≤ 100 := by
      rw [List.length_cons, List.length_append]
      omega
    have pc6 : upd H5 pc (.lst (((b, c) :: (U1 ++ U2)).map fun q => V.ref q.1)) pc = some (.lst (((b, c) :: (U1 ++ U2)).map fun q => V.ref q.1)) := upd_same
    have hd6 : upd H5 pc (.lst (((b, c) :: (U1 ++ U2)).map fun q => V.ref q.1)) d = some (.dK (sk ks2)) := by rw [upd_ne (Ne.symm pcd)]; exact hd5
    have sm6 : Same H (upd H5 pc (.lst (((b, c) :: (U1 ++ U2)).map fun q => V.ref q.1))) := fun x o e => by
      rw [upd_ne (ne_of_none e pcH)]
      exact bt5 x o (sm4 x o e) (ne_of_none e hd)
    generalize upd H5 pc (.lst (((b, c) :: (U1 ++ U2)).map fun q => V.ref q.1)) = H6 at pc6 hd6 sm6
    have kno2 : ∀ l ∈ ks2, Sm06.isNot t l = true := fun l hl => N2.no l ((mk2 l).mpr hl)
    have k12 := neg_len W.good nk2 kno2
    -- literals = list(kept)
    refine ⟨_, rfl, d, _, rfl, hd6, fun pl hpl => ?_⟩
    rw [sk_keys]
    have sm7 : Same H (upd H6 pl (.lst (ks2.map V.int))) := sm6.trans (Same.new hpl)
    have pl7 : upd H6 pl (.lst (ks2.map V.int)) pl = some (.lst (ks2.map V.int)) := upd_same
    have pc7 := Same.new (o := .lst (ks2.map V.int)) hpl _ _ pc6
    have plH : H pl = none := sm6.free hpl
    generalize upd H6 pl (.lst (ks2.map V.int)) = H7 at sm7 pl7 pc7
    -- height = max([clause.height ..])
    refine ⟨_, rfl, pc, rfl, ⟨_, SqL.of pc7⟩, fun D hD => lc_list (K := K) (a := pc) (xs := ((b, c) :: (U1 ++ U2)).map fun q => V.ref q.1) (fun i H' => H' = upd H7 D (.lst (((((b, c) :: (U1 ++ U2)).take i).map fun q => ((q.2.height : Nat) : Int)).map V.int))) rfl (fun i H' _ e => ?_) ?_ ?_⟩
    · rw [e]
      exact SqL.of (Same.new hD _ _ pc7)
    · rintro i y H' hi rfl
      obtain ⟨u, hz, rfl⟩ := get_of_map hi
      have hm := List.mem_of_getElem? hz
      obtain ⟨dz, lz, cz, z1, _⟩ := W.sto.each u (UL u hm)
      have tk : ((b, c) :: (U1 ++ U2)).take (i + 1) = ((b, c) :: (U1 ++ U2)).take i ++ [u] := by rw [List.take_add_one, hz]; rfl
      refine ⟨rfl, _, rfl, u.1, C.cl, dz, _, _, rfl, Same.new hD _ _ (sm7 _ _ z1), T.clC, T.cl_height, clF_height, _, upd_same, ?_, ?_⟩
      · rw [List.length_map, List.length_map, List.length_take]
        exact small1000 (by omega)
      · rw [upd_upd, tk, List.map_append, List.map_append]
        rfl
    · rintro H' rfl
      rw [List.length_map, List.take_length]
      refine ⟨D, _, rfl, SqL.of upd_same, by rw [List.length_map]; exact Nat.succ_pos _, fun m hm hle => ?_⟩
      obtain ⟨u, hu, em⟩ := List.mem_map.mp hm
      have hmax : ∀ z ∈ (b, c) :: (U1 ++ U2), z.2.height ≤ u.2.height := fun z hz => by
        have := hle _ (List.mem_map_of_mem (f := fun q : Addr × Clause => ((q.2.height : Nat) : Int)) hz)
        rw [← em] at this
        exact Int.ofNat_le.mp this
      rw [← em]
      have sm8 : Same H (upd H7 D (.lst ((((b, c) :: (U1 ++ U2)).map fun q => ((q.2.height : Nat) : Int)).map V.int))) := sm7.trans (Same.new hD)
      have pl8 := Same.new (o := .lst ((((b, c) :: (U1 ++ U2)).map fun q => ((q.2.height : Nat) : Int)).map V.int)) hD _ _ pl7
      have pc8 := Same.new (o := .lst ((((b, c) :: (U1 ++ U2)).map fun q => ((q.2.height : Nat) : Int)).map V.int)) hD _ _ pc7
      generalize upd H7 D (.lst ((((b, c) :: (U1 ++ U2)).map fun q => ((q.2.height : Nat) : Int)).map V.int)) = H8 at sm8 pl8 pc8
      -- add_clause(settings.store, height, literals, [clause.number ..])
      refine ⟨_, rfl, B.a, C.se, dx, _, _, rfl, sm8 _ _ ha, T.seC, T.se_store, seF_store, _, rfl, _, rfl, _, rfl, pc, rfl, ⟨_, SqL.of pc8⟩, fun D2 hD2 => lc_list (K := K) (a := pc) (xs := ((b, c) :: (U1 ++ U2)).map fun q => V.ref q.1) (fun i H' => H' = upd H8 D2 (.lst (((((b, c) :: (U1 ++ U2)).take i).map fun q => q.2.num).map fun x => V.int (x : Nat)))) rfl (fun i H' _ e => ?_) ?_ ?_⟩
      · rw [e]
        exact SqL.of (Same.new hD2 _ _ pc8)
      · rintro i y H' hi rfl
        obtain ⟨u, hz, rfl⟩ := get_of_map hi
        have hm := List.mem_of_getElem? hz
        obtain ⟨dz, lz, cz, z1, _⟩ := W.sto.each u (UL u hm)
        have tk : ((b, c) :: (U1 ++ U2)).take (i + 1) = ((b, c) :: (U1 ++ U2)).take i ++ [u] := by rw [List.take_add_one, hz]; rfl
        refine ⟨rfl, _, rfl, u.1, C.cl, dz, _, _, rfl, Same.new hD2 _ _ (sm8 _ _ z1), T.clC, T.cl_number, clF_number, _, upd_same, ?_, ?_⟩
        · rw [List.length_map, List.length_map, List.length_take]
          exact small1000 (by omega)
        · rw [upd_upd, tk, List.map_append, List.map_append]
          rfl
      rintro H' rfl
      rw [List.length_map, List.take_length]
      have ups : ((b, c) :: (U1 ++ U2)).map (·.2) = c :: (U1.map (·.2) ++ U2.map (·.2)) := by
        rw [List.map_cons, List.map_append]
      have ecm : (((b, c) :: (U1 ++ U2)).map fun q => q.2.num) = (c :: (U1.map (·.2) ++ U2.map (·.2))).map fun d => d.num := by
        rw [← ups, List.map_map]
        rfl
      rw [ecm]
      have lcm : ((c :: (U1.map (·.2) ++ U2.map (·.2))).map fun d => d.num).length ≤ 1000 := by
        rw [← ecm, List.length_map]
        omega
      have D2H : H D2 = none := sm8.free hD2
      have con : D2 ∉ MX B A := fun z => W.sto.al D2 z D2H
      have hco : upd H8 D2 (.lst (((c :: (U1.map (·.2) ++ U2.map (·.2))).map fun d => d.num).map fun x => V.int (x : Nat))) D2 = some (.lst (((c :: (U1.map (·.2) ++ U2.map (·.2))).map fun d => d.num).map fun x => V.int (x : Nat))) := upd_same
      replace sm8 := sm8.trans (Same.new (o := .lst (((c :: (U1.map (·.2) ++ U2.map (·.2))).map fun d => d.num).map fun x => V.int (x : Nat))) hD2)
      replace pl8 := Same.new (o := .lst (((c :: (U1.map (·.2) ++ U2.map (·.2))).map fun d => d.num).map fun x => V.int (x : Nat))) hD2 _ _ pl8
      replace pc8 := Same.new (o := .lst (((c :: (U1.map (·.2) ++ U2.map (·.2))).map fun d => d.num).map fun x => V.int (x : Nat))) hD2 _ _ pc8
      generalize upd H8 D2 (.lst (((c :: (U1.map (·.2) ++ U2.map (·.2))).map fun d => d.num).map fun x => V.int (x : Nat))) = H8b at sm8 pl8 pc8 hco
      have R8 := W.sto.same sm8
      have pcA : pc ∉ A.M := W.sto.out pcH
      have plA : pl ∉ A.M := W.sto.out plH
      refine ⟨B.M, A, L, rest B s, pl, ks2, D2, (c :: (U1.map (·.2) ++ U2.map (·.2))).map fun d => d.num, u.2.height, true, rfl, R8, SqL.of pl8, plA, L9, hco, con, (decide_eq_true (Nat.succ_pos _)).symm, lcm, fun H9 bn R9 k9 => ?_⟩
      -- the learnt clause
      have ex : byAbs ks2 = xs2 := up_unique (byAbs_up nk2 fun x hx y hy e => one_way W.good (kno2 x hx) (kno2 y hy) e) N2.up fun z => byAbs_mem.trans (mk2 z).symm
      rw [ex] at R9
      have el := learn_is (s := now s t) (c := c) (m := u.2.height) eG1 eG2 (by
        rw [← ups]
        exact ⟨u.2, List.mem_map_of_mem hu, rfl⟩) (by
        rw [← ups]
        intro z hz
        obtain ⟨y, hy, rfl⟩ := List.mem_map.mp hz
        exact hmax y hy)
      have R9' := R9
      have lx2 : Lits s.n xs2 := ⟨N2.up, fun x hx => by
        obtain ⟨y, hy, ey⟩ := isNot_iff.mp (N2.no x hx)
        have := W.good.range y hy
        omega⟩
      have pos := W.ok.now (n := 0) W.good
      have ok9 : SOk (added (now s t) ⟨s.next, u.2.height, true, xs2, (c :: (U1.map (·.2) ++ U2.map (·.2))).map fun d => d.num⟩) := ⟨pos.n1, pos.n12, fun z hz => by
        rcases List.mem_append.mp hz with hz | hz
        · exact pos.lits z hz
        · rw [List.mem_singleton] at hz
          rw [hz]
          exact lx2, pos.ord, pos.ol, pos.ph⟩
      have BA : ∀ y ∈ B.M, y ∉ A.M := fun y hy z => (List.nodup_append.mp W.nd).2.2 y hy y z rfl
      have k89 := (Keep.same (M := A.M) sm8).trans k9
      have Lup : ∀ p ∈ L, p ∈ L ++ [(bn, (⟨s.next, u.2.height, true, xs2, (c :: (U1.map (·.2) ++ U2.map (·.2))).map fun d => d.num⟩ : Clause))] := fun p hp => List.mem_append_left _ hp
      have S9 : SettAt C H9 (MX B A) B A.a (L ++ [(bn, ⟨s.next, u.2.height, true, xs2, (c :: (U1.map (·.2) ++ U2.map (·.2))).map fun d => d.num⟩)]) s.n t level := W.set.keepA k89 BA W.set.sub Lup
      obtain ⟨dx9, ha9⟩ := S9.ob
      have pc9 := (k9.1 _ _ pc8 pcA).1
      have pl9 := (k9.1 _ _ pl8 plA).1
      refine ⟨_, rfl, B.a, C.se, dx9, _, _, rfl, ha9, T.seC, T.se_store, seF_store, _, rfl, MX B A, A, _, _, pc, (b, c) :: (U1 ++ U2), rfl, R9', (by show s.order.length ≤ 12; rw [W.ok.ol]; exact n12), SqL.of pc9, fun z hz => ⟨R9'.each z (Lup z (UL z hz)), Nat.le_trans (W.lits z (UL z hz)).len n12⟩, by omega, fun H10 od dz hod hod2 ho10 bt10 => ?_⟩
      rw [ups] at hod2
      obtain ⟨R10, k10⟩ := R9'.ord (s' := rest B (Sm06.learn (now s t) level t c).1) hod (by show H10 od = some (.lst ((Sm06.learn (now s t) level t c).1.order.map _)); rw [el]; exact hod2) ho10 bt10 (by show (Sm06.learn (now s t) level t c).1.n = _; rw [el]; rfl) (by show (Sm06.learn (now s t) level t c).1.clauses = _; rw [el]; rfl) (by show (Sm06.learn (now s t) level t c).1.next = _; rw [el]; rfl) (by show (Sm06.learn (now s t) level t c).1.marks = _; rw [el]; rfl) rfl
      have en : (Sm06.learn (now s t) level t c).1.n = s.n := by rw [el]; rfl
      have ecl : (Sm06.learn (now s t) level t c).1.clauses = s.clauses ++ [⟨s.next, u.2.height, true, xs2, (c :: (U1.map (·.2) ++ U2.map (·.2))).map fun d => d.num⟩] := by rw [el]; rfl
      have eph : (Sm06.learn (now s t) level t c).1.phase = Sm06.kept t s.phase := by rw [el]; rfl
      have ebk : (Sm06.learn (now s t) level t c).2 = Sm06.backTo level t ks2 := by
        rw [el]
        refine backTo_congr (fun l hl => ?_) mk2
        obtain ⟨y, hy, ey⟩ := isNot_iff.mp (N2.no l hl)
        rw [levelOf_mem W.good hy (by omega)]
        exact W.lev y hy
      have g10 : Good B.z s.n (s.clauses ++ [⟨s.next, u.2.height, true, xs2, (c :: (U1.map (·.2) ++ U2.map (·.2))).map fun d => d.num⟩]) t := W.good.mono fun z hz => List.mem_append_left _ hz
      have S10 := S9.keepA (M' := MX B ⟨A.a, A.cl, od, A.la, A.X⟩) k10 BA (fun y hy => List.mem_append_left _ (List.mem_append_left _ hy)) fun p hp => hp
      have plA9 : pl ∉ A.M := plA
      have pl10 := (k10.1 _ _ pl9 plA9).1
      have lev10 : ∀ x ∈ t, x.level ≤ level := W.lev
      refine ⟨_, rfl, _, rfl, _, rfl, _, B, A.a, _, s.n, _, t, level, pl, ks2, rfl, S10, zt ▸ g10, W.lev, SqL.of pl10, kno2, by omega, fun H11 s11 => ?_⟩
      have nd10 : (MM B ⟨A.a, A.cl, od, A.la, A.X⟩).Nodup := by
        rw [List.nodup_append]
        refine ⟨S10.nd, R10.nd, fun y hy z hz e => ?_⟩
        subst e
        obtain ⟨o, ho⟩ := Option.ne_none_iff_exists'.mp (W.sto.al y (List.mem_append_left _ (List.mem_append_left _ hy)))
        have q9 := k89.1 _ _ ho (BA y hy)
        exact (k10.1 _ _ q9.1 q9.2).2 hz
      have W11 : Wd C H11 B ⟨A.a, A.cl, od, A.la, A.X⟩ (L ++ [(bn, ⟨s.next, u.2.height, true, xs2, (c :: (U1.map (·.2) ++ U2.map (·.2))).map fun d => d.num⟩)]) (Sm06.learn (now s t) level t c).1 t level := by
        refine ⟨R10.same s11, by rw [en]; exact S10.same s11, nd10, by rw [en, ecl]; exact g10, W.lev, ?_, ?_⟩
        · refine ⟨by rw [en]; exact pos.n1, by rw [en]; exact pos.n12, by rw [en, ecl]; exact ok9.lits, fun v hv => ?_, ?_, by rw [en, eph]; exact pos.ph⟩
          · rw [en]
            rw [el] at hv
            rcases List.mem_append.mp hv with hv | hv
            · exact pos.ord v (List.mem_filter.mp hv).1
            · exact pos.ord v (List.mem_filter.mp hv).1
          · rw [en, el]
            exact filt_len.trans pos.ol
        · rw [en, eph]
          exact ((W.la.keep (k89.trans k10) (BA _ (by simp))).same s11).iff fun v => kept_back W.good W.good fun _ h => h
      refine ⟨B, _, _, _, t, level, Sm06.backTo level t ks2, rfl, W11, fun H12 W12 k12 => ?_⟩
      rw [← ebk] at W12
      refine q H12 _ _ (W12.phase rfl rfl rfl rfl rfl fun v => ?_) ⟨rfl, rfl⟩ (by rw [List.length_append]; rfl) ?_
      · show v ∈ (Sm06.learn (now s t) level t c).1.phase ↔ v ∈ Sm06.kept t (Sm06.learn (now s t) level t c).1.phase
        rw [eph]
        exact (kept_back W.good W.good fun _ h => h).symm
      · exact (((k89.trans k10).app).trans (Keep.same s11)).trans k12
end Kc
set_option Elab.async false
set_option maxRecDepth 100000
set_option maxHeartbeats 2000000
set_option linter.all false
namespace Kc
open PySem PySem.Spec PyProof.Rows L2
open Sm06 (Clause Trail)
variable {P : Program} {w : World} {K : PySem.W.Frag} {mg : Str → Option Value} {base : Heap} {C : Cs}
def spNumC (C : Cs) (cc : Nat → Sm06.Call) : Sp := fun vs H Q _ => ∃ A L s, ∃ n : Nat, vs = [.ref (StoA.a A), .int n] ∧ StoreAt C H (AX A) A L s ∧ SOk s ∧ L.length ≤ 90000 ∧ Post C H A L s (cc n) Q
theorem find_pick {α : Type} {p r : α → Bool} : ∀ {l : List α}, (l.filter p).find? r = l.find? fun a => r a && p a
  | [] => rfl
  | x :: l => by
    rw [List.filter_cons, List.find?_cons]
    cases c : p x with
    | true =>
      rw [if_pos rfl, List.find?_cons, Bool.and_true]
      cases r x with
      | true => rfl
      | false => exact find_pick (l := l)
    | false =>
      rw [if_neg (by decide), Bool.and_false]
      exact find_pick (l := l)
def cameL : Option Clause → List Int
  | none => [-3]
  | some c => (c.came.length : Int) :: Sm06.ints c.came
abbrev st_answer_came : Stmt := top 51
abbrev N_answer_came : List Str := ["store", "number", "clause"]
theorem sc_answer_came : FnScope N_answer_came ["store", "number"] (defScope st_answer_came) := ⟨rfl, rfl, rfl, by decide +kernel, rfl, by decide +kernel, by decide +kernel⟩
theorem ok_answer_came {f : Addr} {fd : FuncData} (F : Fun K "answer_came" "answer_came" st_answer_came f fd) (T : Txt K mg C) (c_learnt_clauses : Cal P w K mg base 2 "learnt_clauses" ["store"] (spPick C fun c => c.learnt)) : FnOk P w K mg base CX0 3 f fd ["store", "number"] (spNumC C .came) := by
  refine F.ok sc_answer_came (fun vs H Q E h => ?_) (fun cdv A outer s H vs Q E hr h => ⟨_, (pss_cons (ps_for PassesOwn.never rfl (pi_list (pe_cal c_learnt_clauses (hr.mono (by decide)) (by rfl) (pa_cons (pv 0) pa_nil))) (pg_name (i := 2) sc_answer_came.nd rfl (Or.inl rfl)) (pss_one (ps_if (pt_cmpR op_eq (pe_fld (pv 2) rfl) (pv 1) (nomark _)) (pss_one (ps_ret (pe_op op_cat (pe_lst (pa_cons (pe_callB call_len_seq (by rfl) T.b_len PySem.boot_len (pa_cons (pe_fld (pv 2) rfl) pa_nil)) pa_nil)) (pe_fld (pv 2) rfl)))) pss_nil)))
      (pss_one (ps_ret (pe_lst (pa_cons (pe_un un_neg pe_int) pa_nil))))), ?_⟩)
  · obtain ⟨A, L, s, n, rfl, _⟩ := h
    rfl
  · obtain ⟨A, L, s, n, rfl, R, ok, L9, q⟩ := h
    have es : Sm06.step s (.came n) = (s, cameL (s.clauses.find? fun c => c.num == n && c.learnt)) := rfl
    have fnd : (s.clauses.find? fun c => c.num == n && c.learnt) = ((L.filter fun q => q.2.learnt).find? fun q => q.2.num == n).map (·.2) := by
      rw [R.cs, List.find?_map, find_pick]
      rfl
    rw [fnd] at es
    refine ⟨_, rfl, AX A, A, L, s, rfl, R, by omega, fun H1 p1 s1 hp1 h1 => ?_⟩
    refine ⟨p1, rfl, ⟨_, SqL.of h1⟩, for_list (K := K) (a := p1) (xs := (L.filter fun q => q.2.learnt).map fun q => V.ref q.1) (fun i σ H' => ∃ v : Option V, σ = [some (.ref A.a), some (.int n), v] ∧ H' = H1 ∧ ((L.filter fun q => q.2.learnt).take i).find? (fun q => q.2.num == n) = none) ⟨none, rfl, rfl, rfl⟩ (fun i σ H' _ ⟨_, _, e, _⟩ => e ▸ SqL.of h1) ?_ ?_⟩
    · rintro i y σ H' hi ⟨v, rfl, rfl, no⟩
      obtain ⟨p, hz, rfl⟩ := get_of_map hi
      have hm : p ∈ L := (List.mem_filter.mp (List.mem_of_getElem? hz)).1
      have tk : (L.filter fun q => q.2.learnt).take (i + 1) = (L.filter fun q => q.2.learnt).take i ++ [p] := by rw [List.take_add_one, hz]; rfl
      obtain ⟨dx, li, co, c1, c2, _, _, c3, _, _, lc⟩ := (R.each p hm).keep (Keep.same s1)
      refine ⟨_, rfl, p.1, C.cl, dx, _, _, rfl, c1, T.clC, T.cl_number, clF_number, _, rfl, rfl, _, rfl, ?_⟩
      by_cases c : p.2.num = n
      · have ff := find_take' (p := fun q : Addr × Clause => q.2.num == n) hz no (by simp [c])
        rw [ff] at es
        refine if_true_of (decide_eq_true (by rw [c])) ?_
        refine ⟨_, rfl, p.1, C.cl, dx, _, _, rfl, c1, T.clC, T.cl_came_of, clF_came_of, co, _, rfl, Or.inl (SqL.of c3), (by show 1 ≤ sizeLine; decide), fun p2 hp2 => ?_⟩
        refine ⟨_, rfl, p.1, C.cl, dx, _, _, rfl, Same.new hp2 _ _ c1, T.clC, T.cl_came_of, clF_came_of, p2, co, _, _, rfl, rfl, upd_same, Same.new hp2 _ _ c3, ?_, fun p3 hp3 => ?_⟩
        · rw [List.length_map]
          exact Nat.le_of_lt (small5 (by show 1 + _ ≤ _; omega))
        · have sm := (s1.trans (Same.new (o := .lst [.int ((p.2.came.map fun x => V.int (x : Nat)).length : Nat)]) hp2))
          refine post_same q R ok es (sm.trans (Same.new hp3)) (sm.free hp3) ?_
          rw [upd_same]
          refine congrArg (fun z => some (HO.lst z)) ?_
          show V.int ((p.2.came.map fun x => V.int (x : Nat)).length : Nat) :: (p.2.came.map fun x => V.int (x : Nat)) = ((p.2.came.length : Int) :: Sm06.ints p.2.came).map V.int
          unfold Sm06.ints
          rw [List.length_map, List.map_cons, List.map_map]
          rfl
      · refine if_false_of (decide_eq_false (by intro z; exact c (Int.ofNat.inj (V.int.inj z)))) ⟨some (.ref p.1), rfl, rfl, ?_⟩
        rw [tk, List.find?_append, no, List.find?_cons, show (p.2.num == n) = false by simpa using c]
        rfl
    · rintro σ H' ⟨v, rfl, rfl, no⟩
      rw [List.length_map, List.take_length] at no
      rw [no] at es
      exact ⟨_, rfl, (by show 1 ≤ sizeLine; decide), fun p hp => post_same q R ok es (s1.trans (Same.new hp)) (s1.free hp) upd_same⟩
/-- a store whose clauses are some of those it had -/
theorem StoreAt.filt {H H2 : Hp} {A : StoA} {L : List (Addr × Clause)} {s s' : Sm06.St} {f : Addr × Clause → Bool} {cl dz : Addr} (R1 : StoreAt C H (AX A) A L s) (hcl : H cl = none) (hcl2 : H2 cl = some (.lst ((L.filter f).map fun q => V.ref q.1))) (ho : H2 A.a = some (.ins C.st dz (stF s.n cl s.marks s.next A.od A.la))) (bt : But A.a H H2) (e1 : s'.n = s.n) (e2 : s'.clauses = (L.filter f).map (·.2)) (e3 : s'.next = s.next) (e4 : s'.marks = s.marks) (e5 : s'.order = s.order) (e6 : s'.phase = s.phase) :
    StoreAt C H2 (AX ⟨A.a, cl, A.od, A.la, A.X⟩) ⟨A.a, cl, A.od, A.la, A.X⟩ (L.filter f) s' ∧ Keep A.M (StoA.M ⟨A.a, cl, A.od, A.la, A.X⟩) H H2 := by
  obtain ⟨da, ha⟩ := R1.ob
  have cne : cl ≠ A.a := fun e => by rw [e, ha] at hcl; cases hcl
  have k2 : Keep A.M (StoA.M ⟨A.a, cl, A.od, A.la, A.X⟩) H H2 := by
    refine ⟨fun b o h nb => ⟨bt b o h fun z => nb (z ▸ List.mem_cons_self), fun z => ?_⟩, fun b h => bt.free ho h⟩
    simp only [StoA.M, List.mem_cons, List.not_mem_nil, or_false, not_or] at nb z
    rcases z with z | z | z | z
    · exact nb.1 z
    · rw [z, hcl] at h
      cases h
    · exact nb.2.2.1 z
    · exact nb.2.2.2 z
  obtain ⟨bs, h1, h2, h3⟩ := R1.la
  refine ⟨⟨⟨dz, by rw [e1, e3, e4]; exact ho⟩, hcl2, e2, by rw [e5]; exact bt _ _ R1.od (ndne R1.nd 2 0), ⟨bs, bt _ _ h1 (ndne R1.nd 3 0), by rw [e1]; exact h2, by rw [e1, e6]; exact h3⟩, fun p hp => (R1.each p (List.mem_filter.mp hp).1).keepX k2, ?_, fun x hx => List.mem_append_left _ hx, ?_⟩, k2⟩
  · have n1 : A.od ≠ cl := ne_of_none R1.od hcl
    have n2 : A.la ≠ cl := ne_of_none h1 hcl
    simp only [StoA.M, List.nodup_cons, List.mem_cons, List.not_mem_nil, or_false, not_or]
    exact ⟨⟨Ne.symm cne, ndne R1.nd 0 2, ndne R1.nd 0 3⟩, ⟨Ne.symm n1, Ne.symm n2⟩, ndne R1.nd 2 3, not_false, List.nodup_nil⟩
  · intro y hy z
    have key : y = cl ∨ y ∈ AX A := by
      simp only [AX, StoA.M, List.cons_append, List.nil_append, List.mem_cons] at hy ⊢
      rcases hy with h | h | h | h | h
      · exact Or.inr (Or.inl h)
      · exact Or.inl h
      · exact Or.inr (Or.inr (Or.inr (Or.inl h)))
      · exact Or.inr (Or.inr (Or.inr (Or.inr (Or.inl h))))
      · exact Or.inr (Or.inr (Or.inr (Or.inr (Or.inr h))))
    rcases key with rfl | hy
    · rw [hcl2] at z
      cases z
    · exact R1.al y hy (bt.free ho z)
abbrev st_answer_forget : Stmt := top 52
abbrev N_answer_forget : List Str := ["store", "length", "before"]
theorem sc_answer_forget : FnScope N_answer_forget ["store", "length"] (defScope st_answer_forget) := ⟨rfl, rfl, rfl, by decide +kernel, rfl, by decide +kernel, by decide +kernel⟩
theorem ok_answer_forget {f : Addr} {fd : FuncData} (F : Fun K "answer_forget" "answer_forget" st_answer_forget f fd) (T : Txt K mg C) (c_drop_learnt_longer_than : Cal P w K mg base 2 "drop_learnt_longer_than" ["store", "length"] (spDropL C)) : FnOk P w K mg base CX0 3 f fd ["store", "length"] (spNumC C .forget) := by
  refine F.ok sc_answer_forget (fun vs H Q E h => ?_) (fun cdv A outer s H vs Q E hr h => ⟨_, (pss_cons (ps_set (i := 2) sc_answer_forget.nd rfl (Or.inl rfl) (pe_callB call_len_seq (by rfl) T.b_len PySem.boot_len (pa_cons (pe_fld (pv 0) rfl) pa_nil)))
      (pss_cons (ps_expr (pe_cal c_drop_learnt_longer_than (hr.mono (by decide)) (by rfl) (pa_cons (pv 0) (pa_cons (pv 1) pa_nil))))
      (pss_one (ps_ret (pe_lst (pa_cons (pe_op op_sub (pv 2) (pe_callB call_len_seq (by rfl) T.b_len PySem.boot_len (pa_cons (pe_fld (pv 0) rfl) pa_nil))) pa_nil)))))), ?_⟩)
  · obtain ⟨A, L, s, n, rfl, _⟩ := h
    rfl
  · obtain ⟨A, L, s, n, rfl, R, ok, L9, q⟩ := h
    obtain ⟨dy, hb⟩ := R.ob
    have es : Sm06.step s (.forget n) = (⟨s.n, s.clauses.filter fun c => !c.learnt || decide (c.lits.length ≤ n), s.next, s.marks, s.order, s.phase⟩, [((s.clauses.length - (s.clauses.filter fun c => !c.learnt || decide (c.lits.length ≤ n)).length : Nat) : Int)]) := rfl
    have ef : (L.filter fun q => !q.2.learnt || decide (q.2.lits.length ≤ n)).map (·.2) = s.clauses.filter fun c => !c.learnt || decide (c.lits.length ≤ n) := by
      rw [R.cs, List.filter_map]
      rfl
    refine ⟨_, rfl, A.a, C.st, dy, _, _, rfl, hb, T.stC, T.st_clauses, stF_clauses, A.cl, _, rfl, Or.inl (SqL.of R.cl), ?_⟩
    refine ⟨_, rfl, _, rfl, AX A, A, L, s, n, rfl, R, by omega, fun H2 cl dz hcl hcl2 ho bt => ?_⟩
    obtain ⟨R2, k2⟩ := R.filt (s' := ⟨s.n, s.clauses.filter fun c => !c.learnt || decide (c.lits.length ≤ n), s.next, s.marks, s.order, s.phase⟩) hcl hcl2 ho bt rfl ef.symm rfl rfl rfl rfl
    refine ⟨_, rfl, _, rfl, A.a, C.st, dz, _, _, rfl, ho, T.stC, T.st_clauses, stF_clauses, cl, _, rfl, Or.inl (SqL.of hcl2), _, _, rfl, rfl, (by show 1 ≤ sizeLine; decide), fun p hp => ?_⟩
    have Lf := List.length_filter_le (fun q : Addr × Clause => !q.2.learnt || decide (q.2.lits.length ≤ n)) L
    refine q _ p ⟨A.a, cl, A.od, A.la, A.X⟩ (L.filter fun q => !q.2.learnt || decide (q.2.lits.length ≤ n)) ?_ ?_ ⟨rfl, rfl⟩ (by omega) (k2.trans (Keep.same (Same.new hp))) (R2.out hp) (k2.2 p hp) ?_
    · rw [es]
      exact R2.same (Same.new hp)
    · rw [es]
      exact ⟨ok.n1, ok.n12, fun c hc => ok.lits c (List.mem_filter.mp hc).1, ok.ord, ok.ol, ok.ph⟩
    · rw [es, upd_same, ← ef, R.cs, List.length_map, List.length_map, List.length_map, List.length_map]
      refine congrArg (fun z => some (HO.lst [V.int z])) ?_
      omega
def spMarkO (s : Sm06.St) (v : Nat) : Int := if s.phase.contains v = true then (v : Int) else 0 - (v : Int)
abbrev st_answer_order : Stmt := top 54
abbrev N_answer_order : List Str := ["store", "variable"]
theorem sc_answer_order : FnScope N_answer_order ["store"] (defScope st_answer_order) := ⟨rfl, rfl, rfl, by decide +kernel, rfl, by decide +kernel, by decide +kernel⟩
theorem ok_answer_order {f : Addr} {fd : FuncData} (F : Fun K "answer_order" "answer_order" st_answer_order f fd) (T : Txt K mg C) : FnOk P w K mg base CX0 1 f fd ["store"] (spMark C .order) := by
  refine F.ok sc_answer_order (fun vs H Q E h => ?_) (fun cdv A outer s H vs Q E hr h => ⟨_, (pss_one (ps_ret (pe_op op_cat (pe_lst (pa_cons (pe_fld (pv 0) rfl) pa_nil)) (pe_lc (own := [("variable", 1)]) (g := gName 1) rfl sc_answer_order.nd (pi_list (pe_fld (pv 0) rfl)) (blkOk_by (own := [("variable", 1)]) (N := N_answer_order) (sc := defScope st_answer_order) (by decide +kernel)) (fun _ _ _ _ _ => pg_name (i := 1) sc_answer_order.nd rfl (Or.inl rfl)) (fun _ _ _ _ _ => by exact pts_nil) (fun _ _ _ _ _ => by exact (pe_ifExp (pt_val (pe_ix (ix_listK K) (pe_fldK K (pv 0) rfl) (pv 1) (fun _ _ => rfl))) (pv 1) (pe_un un_neg (pv 1)))))))), ?_⟩)
  · obtain ⟨A, L, s, rfl, _⟩ := h
    rfl
  · obtain ⟨A, L, s, rfl, R, ok, L9, q⟩ := h
    obtain ⟨dy, hb⟩ := R.ob
    obtain ⟨bs, hbs, lbs, fbs⟩ := R.la
    have ol : s.order.length ≤ 12 := by rw [ok.ol]; exact ok.n12
    have es : Sm06.step s .order = (s, (s.n : Int) :: s.order.map (spMarkO s)) := rfl
    refine ⟨_, rfl, A.a, C.st, dy, _, _, rfl, hb, T.stC, T.st_size, stF_size, (by show 1 ≤ sizeLine; decide), fun p1 hp1 => ?_⟩
    have s1 : Same H (upd H p1 (.lst [.int s.n])) := Same.new hp1
    refine ⟨_, rfl, A.a, C.st, dy, _, _, rfl, s1 _ _ hb, T.stC, T.st_order, stF_order, A.od, rfl, ⟨_, SqL.of (s1 _ _ R.od)⟩, fun D hD => lc_list (K := K) (a := A.od) (xs := s.order.map fun v => V.int (v : Nat)) (fun i H' => H' = upd (upd H p1 (.lst [.int s.n])) D (.lst (((s.order.take i).map (spMarkO s)).map V.int))) rfl (fun i H' _ e => ?_) ?_ ?_⟩
    · rw [e]
      exact SqL.of (Same.new hD _ _ (s1 _ _ R.od))
    · rintro i y H' hi rfl
      obtain ⟨v, hz, rfl⟩ := get_of_map hi
      have rv := ok.ord v (List.mem_of_getElem? hz)
      have tk : s.order.take (i + 1) = s.order.take i ++ [v] := by rw [List.take_add_one, hz]; rfl
      have len : (((s.order.take i).map (spMarkO s)).map V.int).length < sizeLine := by
        rw [List.length_map, List.length_map, List.length_take]
        exact small1000 (by omega)
      have hbv := fbs v rv.1 rv.2
      have eph : decide (v ∈ s.phase) = s.phase.contains v := by
        rw [Bool.eq_iff_iff, decide_eq_true_iff, List.contains_iff_mem]
      rw [eph] at hbv
      have sm : Same H (upd (upd H p1 (.lst [.int s.n])) D (.lst (((s.order.take i).map (spMarkO s)).map V.int))) := s1.trans (Same.new hD)
      refine ⟨rfl, _, rfl, A.a, C.st, dy, _, _, rfl, sm _ _ hb, T.stC, T.st_last_so, stF_last_so, _, rfl, A.la, _, _, .bl (s.phase.contains v), rfl, rfl, SqL.of (sm _ _ hbs), atI_nat (get_map hbv), _, rfl, ?_⟩
      by_cases cp : s.phase.contains v = true
      · refine if_true_of cp ⟨_, rfl, _, upd_same, len, ?_⟩
        rw [upd_upd, tk, List.map_append, List.map_append]
        refine congrArg (fun z => upd _ D (.lst (_ ++ [V.int z]))) ?_
        exact (if_pos cp).symm
      · refine if_false_of (Bool.eq_false_iff.mpr cp) ⟨_, rfl, _, rfl, _, upd_same, len, ?_⟩
        rw [upd_upd, tk, List.map_append, List.map_append]
        refine congrArg (fun z => upd _ D (.lst (_ ++ [V.int z]))) ?_
        show -((v : Nat) : Int) = spMarkO s v
        unfold spMarkO
        rw [if_neg cp]
        omega
    · rintro H' rfl
      rw [List.length_map, List.take_length]
      have sm : Same H (upd (upd H p1 (.lst [.int s.n])) D (.lst ((s.order.map (spMarkO s)).map V.int))) := s1.trans (Same.new hD)
      refine ⟨p1, D, _, _, rfl, rfl, Same.new hD _ _ upd_same, upd_same, ?_, fun p hp => ?_⟩
      · rw [List.length_map, List.length_map]
        exact Nat.le_of_lt (small5 (by show 1 + _ ≤ _; omega))
      · exact post_same q R ok es (sm.trans (Same.new hp)) (sm.free hp) upd_same
abbrev st_answer_shows : Stmt := top 55
abbrev N_answer_shows : List Str := ["store", "clauses"]
theorem sc_answer_shows : FnScope N_answer_shows ["store"] (defScope st_answer_shows) := ⟨rfl, rfl, rfl, by decide +kernel, rfl, by decide +kernel, by decide +kernel⟩
theorem ok_answer_shows {f : Addr} {fd : FuncData} (F : Fun K "answer_shows" "answer_shows" st_answer_shows f fd) (T : Txt K mg C) (c_given_clauses : Cal P w K mg base 2 "given_clauses" ["store"] (spPick C fun c => !c.learnt)) (c_told_clauses : Cal P w K mg base 1 "told_clauses" ["clauses"] (spTold C K)) : FnOk P w K mg base CX0 3 f fd ["store"] (spMark C .shows) := by
  refine F.ok sc_answer_shows (fun vs H Q E h => ?_) (fun cdv A outer s H vs Q E hr h => ⟨_, (pss_cons (ps_set (i := 1) sc_answer_shows.nd rfl (Or.inl rfl) (pe_cal c_given_clauses (hr.mono (by decide)) (by rfl) (pa_cons (pv 0) pa_nil)))
      (pss_one (ps_ret (pe_op op_cat (pe_lst (pa_cons (pe_fld (pv 0) rfl) (pa_cons (pe_callB call_len_seq (by rfl) T.b_len PySem.boot_len (pa_cons (pv 1) pa_nil)) pa_nil))) (pe_cal c_told_clauses (hr.mono (by decide)) (by rfl) (pa_cons (pv 1) pa_nil)))))), ?_⟩)
  · obtain ⟨A, L, s, rfl, _⟩ := h
    rfl
  · obtain ⟨A, L, s, rfl, R, ok, L9, q⟩ := h
    obtain ⟨dy, hb⟩ := R.ob
    have lit : ∀ p ∈ L, p.2.lits.length ≤ 12 := fun p hp => Nat.le_trans (ok.lits p.2 (by rw [R.cs]; exact List.mem_map_of_mem hp)).len ok.n12
    refine ⟨_, rfl, AX A, A, L, s, rfl, R, by omega, fun H1 p1 s1 hp1 h1 => ?_⟩
    refine ⟨_, rfl, A.a, C.st, dy, _, _, rfl, s1 _ _ hb, T.stC, T.st_marks, stF_marks, _, rfl, p1, _, rfl, Or.inl (SqL.of h1), (by show 2 ≤ sizeLine; decide), fun p2 hp2 => ?_⟩
    have fl := List.length_filter_le (fun q : Addr × Clause => !q.2.learnt) L
    refine ⟨_, rfl, AX A, p1, L.filter (fun q => !q.2.learnt), rfl, SqL.of (Same.new hp2 _ _ h1), fun u hu => ⟨((R.each u (List.mem_filter.mp hu).1).keep (Keep.same s1)).keep (Keep.same (Same.new hp2)), lit u (List.mem_filter.mp hu).1⟩, by omega, fun H3 p3 s3 hp3 h3 => ?_⟩
    have tl := told_len (U := L.filter fun q => !q.2.learnt) fun u hu => lit u (List.mem_filter.mp hu).1
    refine ⟨p2, p3, _, _, rfl, rfl, s3 _ _ upd_same, h3, ?_, fun p hp => ?_⟩
    · show 2 + (List.map V.int _).length ≤ sizeLine
      rw [List.length_map]
      exact Nat.le_trans (by omega : _ ≤ 1600000) (by decide)
    · have sm : Same H H3 := (s1.trans (Same.new hp2)).trans s3
      refine post_same q R ok (ans := (s.marks : Int) :: ((s.clauses.filter fun c => !c.learnt).length : Int) :: (s.clauses.filter fun c => !c.learnt).flatMap Sm06.toldClause) rfl (sm.trans (Same.new hp)) (sm.free hp) ?_
      rw [upd_same, R.cs, List.filter_map, List.length_map, List.flatMap_map, List.length_map]
      rfl
end Kc
set_option Elab.async false
set_option maxRecDepth 100000
set_option maxHeartbeats 2000000
set_option linter.all false
namespace Kc
open PySem PySem.Spec PyProof.Rows L2
open Sm06 (Clause Trail)
variable {P : Program} {w : World} {K : PySem.W.Frag} {mg : Str → Option Value} {base : Heap} {C : Cs}
def spSteps (C : Cs) (K : PySem.W.Frag) : Sp := fun vs H Q _ => ∃ A L s p ks ls, vs = [.ref (StoA.a A), .ref p] ∧ StoreAt C H (AX A) A L s ∧ SOk s ∧ SqL K H p ((ks : List Int).map V.int) ∧ p ∉ A.M ∧ (ks.map Int.natAbs).Nodup ∧ (∀ l ∈ ks, 1 ≤ l.natAbs ∧ l.natAbs ≤ s.n) ∧ (∀ l, l ∈ ks ↔ l ∈ ls) ∧
  ∀ H', StoreAt C H' (AX A) A L s → Keep A.M A.M H H' → Q (.bl (Sm06.bySteps s ls)) H'
abbrev st_follows_by_steps : Stmt := top 10
abbrev N_follows_by_steps : List Str := ["store", "literals", "settings", "literal"]
theorem sc_follows_by_steps : FnScope N_follows_by_steps ["store", "literals"] (defScope st_follows_by_steps) := ⟨rfl, rfl, rfl, by decide +kernel, rfl, by decide +kernel, by decide +kernel⟩
theorem ok_follows_by_steps {f : Addr} {fd : FuncData} (F : Fun K "follows_by_steps" "follows_by_steps" st_follows_by_steps f fd) (T : Txt K mg C) (m_Settings : Mak P w K mg base 1 "Settings" C.se ["self", "store"] (spSettings C)) (c_set_literal : Cal P w K mg base 1 "set_literal" ["settings", "literal", "clause"] (spSet C)) (c_set_what_follows : Cal P w K mg base 4 "set_what_follows" ["settings"] (spFollow C)) : FnOk P w K mg base CX0 5 f fd ["store", "literals"] (spSteps C K) := by
  refine F.ok sc_follows_by_steps (fun vs H Q E h => ?_) (fun cdv A outer s H vs Q E hr h => ⟨_, (pss_cons (ps_set (i := 2) sc_follows_by_steps.nd rfl (Or.inl rfl) (pe_mak m_Settings (hr.mono (by decide)) (by rfl) (pa_cons (pv 0) pa_nil)))
      (pss_cons (ps_for PassesOwn.never rfl (pi_list (pv 1)) (pg_name (i := 3) sc_follows_by_steps.nd rfl (Or.inl rfl)) (pss_one (ps_expr (pe_cal c_set_literal (hr.mono (by decide)) (by rfl) (pa_cons (pv 2) (pa_cons (pe_un un_neg (pv 3)) (pa_cons pe_non pa_nil)))))))
      (pss_one (ps_ret (pe_cmpR op_notN (pe_cal c_set_what_follows (hr.mono (by decide)) (by rfl) (pa_cons (pv 2) pa_nil)) pe_non (nomark _)))))), ?_⟩)
  · obtain ⟨A, L, s, p, ks, ls, rfl, _⟩ := h
    rfl
  · obtain ⟨A, L, s, p, ks, ls, rfl, R, ok, hp, pn, nd, rg, mem, q⟩ := h
    refine ⟨_, rfl, ?_⟩
    intro x dx nx nd' ne
    have smx : Same H (upd (upd H dx (.own x)) x (.ins C.se dx [])) := fun b o e => by rw [upd_ne (ne_of_none e nx), upd_ne (ne_of_none e nd')]; exact e
    refine ⟨x, dx, AX A, A, L, s, false, rfl, upd_same, R.same smx, ok.n12, fun H1 B eB zt eph fr S hla bt => ⟨rfl, ?_⟩⟩
    have sm : Same H H1 := Same.made nx nd' bt
    have frH : ∀ y ∈ [B.tr, B.va, B.le, B.wh, B.la], H y = none := fun y hy => smx.free (fr y hy)
    obtain ⟨W0, k0⟩ := wd_start R ok eB nx eph frH S hla sm
    subst eB
    refine ⟨_, rfl, p, rfl, ⟨_, sm.seq hp⟩, for_list (K := K) (a := p) (xs := ks.map V.int) (fun i σ H' => ∃ (t : Trail) (v : Option V), σ = [some (.ref A.a), some (.ref p), some (.ref B.a), v] ∧ Wd C H' B A L s t 0 ∧ Keep A.M (MM B A) H H' ∧ ∀ l, Sm06.isSo t l = (ks.take i).contains (0 - l)) ⟨[], none, rfl, W0, k0, fun _ => rfl⟩ (fun i σ H' _ ⟨_, _, _, _, k, _⟩ => SqL.keep hp k pn) ?_ ?_⟩
    · rintro i y σ H' hi ⟨t, v, rfl, W, k, so⟩
      obtain ⟨l, hz, rfl⟩ := get_of_map hi
      have hm : l ∈ ks := List.mem_of_getElem? hz
      have tk : ks.take (i + 1) = ks.take i ++ [l] := by rw [List.take_add_one, hz]; rfl
      have ndt : ((ks.take (i + 1)).map Int.natAbs).Nodup := nd.sublist ((List.take_sublist _ _).map _)
      rw [tk, List.map_append, List.nodup_append] at ndt
      have ho : ∀ x ∈ t, x.lit.natAbs ≠ (-l).natAbs := fun x hx e => by
        have h1 := so x.lit
        rw [isSo_iff.mpr ⟨x, hx, rfl⟩] at h1
        have h2 : 0 - x.lit ∈ ks.take i := List.contains_iff_mem.mp h1.symm
        refine ndt.2.2 _ (List.mem_map_of_mem h2) l.natAbs (by simp) ?_
        omega
      have rl := rg l hm
      have g : Good B.z s.n s.clauses (⟨-l, 0, none⟩ :: t) := by
        have g0 := W.good
        rw [zt] at g0 ⊢
        exact g0.given W.lev ⟨by omega, by omega⟩ ho
      refine ⟨_, rfl, _, rfl, _, rfl, B, A, L, s, t, 0, -l, none, .non, rfl, W, rfl, g, fun H2 W2 k2 => ?_⟩
      refine ⟨⟨-l, 0, none⟩ :: t, some (.int l), rfl, W2, k.trans k2, fun z => ?_⟩
      rw [isSo_cons, so z, tk, Bool.eq_iff_iff, Bool.or_eq_true, List.contains_iff_mem, List.contains_iff_mem, List.mem_append, List.mem_singleton, beq_iff_eq]
      constructor
      · rintro (h | h)
        · exact Or.inr (by have : -l = z := h; omega)
        · exact Or.inl h
      · rintro (h | h)
        · exact Or.inr h
        · exact Or.inl (by show -l = z; omega)
    · rintro σ H' ⟨t, v, rfl, W, k, so⟩
      rw [List.length_map, List.take_length] at so
      refine ⟨_, rfl, B, A, L, s, t, 0, rfl, W, fun H2 v W2 k2 bv => ⟨rfl, ?_⟩⟩
      have eb : Sm06.bySteps s ls = !decide (v = .non) := by
        rw [steps_same mem so]
        cases e : (Sm06.follow s.clauses 0 (s.n + 1) t).2 with
        | none =>
          rw [e] at bv
          have ev : v = .non := bv
          rw [ev]
          rfl
        | some c =>
          rw [e] at bv
          obtain ⟨b, ev, _⟩ := bv
          rw [ev]
          rfl
      have er : rest B s = s := by
        unfold rest
        rw [eph]
      have R2 := W2.sto
      rw [er] at R2
      have qq := q H2 (R2.weak (fun y hy => (List.mem_append.mp hy).elim (fun z => List.mem_append_left _ (List.mem_append_right _ z)) fun z => List.mem_append_right _ z) (fun y hy => List.mem_append_left _ hy)) ((k.trans k2).weak fun y hy => List.mem_append_right _ hy)
      rw [eb] at qq
      exact qq
theorem post_keep {H H' : Hp} {A : StoA} {L : List (Addr × Clause)} {s : Sm06.St} {c : Sm06.Call} {Q : VK} {ans : List Int} {p : Addr} (q : Post C H A L s c Q) (R : StoreAt C H' (AX A) A L s) (ok : SOk s) (e : Sm06.step s c = (s, ans)) (k : Keep A.M A.M H H') (pn : p ∉ A.M) (hp : H p = none) (h : H' p = some (.lst (ans.map V.int))) : Q (.ref p) H' := by
  refine q H' p A L ?_ ?_ (Lk.refl A) (Nat.le_add_right _ _) k pn hp ?_
  · rw [e]
    exact R
  · rw [e]
    exact ok
  · rw [e]
    exact h
def spASteps (C : Cs) (K : PySem.W.Frag) : Sp := fun vs H Q _ => ∃ A L s p ls, vs = [.ref (StoA.a A), .ref p] ∧ StoreAt C H (AX A) A L s ∧ SOk s ∧ SqL K H p ((ls : List Int).map V.int) ∧ ls.length ≤ 1000 ∧ Post C H A L s (.steps ls) Q
abbrev st_answer_steps : Stmt := top 53
abbrev N_answer_steps : List Str := ["store", "literals"]
theorem sc_answer_steps : FnScope N_answer_steps ["store", "literals"] (defScope st_answer_steps) := ⟨rfl, rfl, rfl, by decide +kernel, rfl, by decide +kernel, by decide +kernel⟩
theorem ok_answer_steps {f : Addr} {fd : FuncData} (F : Fun K "answer_steps" "answer_steps" st_answer_steps f fd) (T : Txt K mg C) (c_has_wrong_literal : Cal P w K mg base 1 "has_wrong_literal" ["store", "literals"] (spWrong C K)) (c_is_told_both_ways : Cal P w K mg base 1 "is_told_both_ways" ["literals"] (spBoth K)) (c_each_once : Cal P w K mg base 1 "each_once" ["literals"] (spOnce K)) (c_follows_by_steps : Cal P w K mg base 5 "follows_by_steps" ["store", "literals"] (spSteps C K)) : FnOk P w K mg base CX0 6 f fd ["store", "literals"] (spASteps C K) := by
  refine F.ok sc_answer_steps (fun vs H Q E h => ?_) (fun cdv A outer s H vs Q E hr h => ⟨_, (pss_cons (ps_if (pt_val (pe_cal c_has_wrong_literal (hr.mono (by decide)) (by rfl) (pa_cons (pv 0) (pa_cons (pv 1) pa_nil)))) (pss_one (ps_ret (pe_lst (pa_cons (pe_un un_neg pe_int) pa_nil)))) pss_nil)
      (pss_cons (ps_if (pt_val (pe_cal c_is_told_both_ways (hr.mono (by decide)) (by rfl) (pa_cons (pv 1) pa_nil))) (pss_one (ps_ret (pe_lst (pa_cons (pe_un un_neg pe_int) pa_nil)))) pss_nil)
      (pss_one (ps_ret (pe_lst (pa_cons (pe_ifExp (pt_val (pe_cal c_follows_by_steps (hr.mono (by decide)) (by rfl) (pa_cons (pv 0) (pa_cons (pe_cal c_each_once (hr.mono (by decide)) (by rfl) (pa_cons (pv 1) pa_nil)) pa_nil)))) pe_int pe_int) pa_nil)))))), ?_⟩)
  · obtain ⟨A, L, s, p, ls, rfl, _⟩ := h
    rfl
  · obtain ⟨A, L, s, p, ls, rfl, R, ok, hp, l1, q⟩ := h
    have st : ∀ x, Sm06.step s (.steps ls) = x ↔ (s, if ls.all (Sm06.isLit s.n) = false then [-2] else if Sm06.plain ls = false then [-1] else Sm06.ints [Sm06.flag (Sm06.bySteps s ls)]) = x := fun x => Iff.rfl
    refine ⟨_, rfl, _, rfl, AX A, A, L, s, p, ls, rfl, R, hp, l1, fun H1 s1 => ⟨_, rfl, ?_⟩⟩
    cases c : ls.all (Sm06.isLit s.n) with
    | false => exact if_true_of rfl ⟨_, rfl, (by show 1 ≤ sizeLine; decide), fun p hp => post_same q R ok (ans := [-2]) ((st _).mpr (by rw [if_pos c])) (s1.trans (Same.new hp)) (s1.free hp) upd_same⟩
    | true =>
      rw [c] at st
      refine if_false_of rfl ⟨_, rfl, p, ls, rfl, s1.seq hp, l1, fun H2 s2 => ⟨_, rfl, ?_⟩⟩
      have s12 := s1.trans s2
      cases c2 : Sm06.plain ls with
      | false => exact if_true_of rfl ⟨_, rfl, (by show 1 ≤ sizeLine; decide), fun p hp => post_same q R ok (ans := [-1]) ((st _).mpr (by rw [if_neg (by decide), if_pos c2])) (s12.trans (Same.new hp)) (s12.free hp) upd_same⟩
      | true =>
        rw [c2] at st
        have es : Sm06.step s (.steps ls) = (s, Sm06.ints [Sm06.flag (Sm06.bySteps s ls)]) := (st _).mpr (by rw [if_neg (by decide), if_neg (by decide)])
        refine if_false_of rfl ⟨_, rfl, _, rfl, p, ls, rfl, s12.seq hp, l1, fun H4 p4 s4 hp4 h4 => ?_⟩
        have s14 := s12.trans s4
        have mem : ∀ l, l ∈ onceK ls ↔ l ∈ ls := fun l => by
          unfold onceK
          rw [onceK_mem]
          simp
        have rg : ∀ l ∈ ls, 1 ≤ l.natAbs ∧ l.natAbs ≤ s.n := fun x hx => by
          have := List.all_eq_true.mp c x hx
          unfold Sm06.isLit at this
          rw [Bool.and_eq_true, decide_eq_true_iff, decide_eq_true_iff] at this
          exact this
        have one : ∀ a ∈ ls, ∀ b ∈ ls, a.natAbs = b.natAbs → a = b := fun a ha b hb e => by
          rcases Int.natAbs_eq_natAbs_iff.mp e with q | q
          · exact q
          · exfalso
            unfold Sm06.plain at c2
            have := List.all_eq_true.mp c2 b hb
            rw [Bool.not_eq_true', Bool.eq_false_iff] at this
            exact this (List.contains_iff_mem.mpr (by rw [show 0 - b = a by omega]; exact ha))
        have nd : ((onceK ls).map Int.natAbs).Nodup := by
          rw [List.Nodup, List.pairwise_map]
          refine List.Pairwise.imp_of_mem (fun ha hb h e => h ?_) (onceK_nodup (ls := ls) List.nodup_nil)
          exact one _ ((mem _).mp ha) _ ((mem _).mp hb) e
        refine ⟨A, L, s, p4, onceK ls, ls, rfl, R.same s14, ok, SqL.of h4, (R.same s12).out hp4, nd, fun l hl => rg l ((mem l).mp hl), mem, fun H5 R5 k5 => ⟨_, rfl, ?_⟩⟩
        have k := (Keep.same (M := A.M) s14).trans k5
        cases cb : Sm06.bySteps s ls with
        | true =>
          rw [cb] at es
          exact if_true_of rfl ⟨(by show 1 ≤ sizeLine; decide), fun p hp => post_keep q (R5.same (Same.new hp)) ok es (k.trans (Keep.same (Same.new hp))) (R5.out hp) (k.2 p hp) upd_same⟩
        | false =>
          rw [cb] at es
          exact if_false_of rfl ⟨(by show 1 ≤ sizeLine; decide), fun p hp => post_keep q (R5.same (Same.new hp)) ok es (k.trans (Keep.same (Same.new hp))) (R5.out hp) (k.2 p hp) upd_same⟩
end Kc
set_option Elab.async false
set_option maxRecDepth 100000
set_option maxHeartbeats 2000000
set_option linter.all false
namespace Kc
open PySem PySem.Spec PyProof.Rows L2
open Sm06 (Clause Trail)
variable {P : Program} {w : World} {K : PySem.W.Frag} {mg : Str → Option Value} {base : Heap} {C : Cs}
theorem StoreAt.but {H H' : Hp} {A : StoA} {L : List (Addr × Clause)} {s : Sm06.St} {x : Addr} {u : HO} (R : StoreAt C H (AX A) A L s) (hx : x ∈ A.X) (nx : x ∉ A.M) (bt : But x H H') (hu : H' x = some u) : StoreAt C H' (AX A) A L s := by
  obtain ⟨dx, h1⟩ := R.ob
  obtain ⟨bs, h4, h5⟩ := R.la
  have ne : ∀ y ∈ A.M, y ≠ x := fun y hy e => nx (e ▸ hy)
  refine ⟨⟨dx, bt _ _ h1 (ne _ (by simp))⟩, bt _ _ R.cl (ne _ (by simp)), R.cs, bt _ _ R.od (ne _ (by simp)), ⟨bs, bt _ _ h4 (ne _ (by simp)), h5⟩, fun p hp => ?_, R.nd, R.sub, fun y hy z => R.al y hy (bt.free hu z)⟩
  obtain ⟨dz, li, co, c1, c2, n1, n2, c3, n3, r⟩ := R.each p hp
  have x1 : ∀ y, y ∉ AX A → y ≠ x := fun y hy e => hy (List.mem_append_right _ (e ▸ hx))
  exact ⟨dz, li, co, bt _ _ c1 (x1 _ n1), bt _ _ c2 (x1 _ n2), n1, n2, bt _ _ c3 (x1 _ n3), n3, r⟩
theorem keep_but {H H' : Hp} {M : List Addr} {x : Addr} {u : HO} (bt : But x H H') (hu : H' x = some u) : Keep (x :: M) (x :: M) H H' := ⟨fun b o e n => ⟨bt b o e fun z => n (by rw [z]; exact List.mem_cons_self), n⟩, fun b h => bt.free hu h⟩
/-- a call's end, the reader behind its numbers -/
theorem call_post {H H2 : Hp} {A : StoA} {L : List (Addr × Clause)} {s : Sm06.St} {cl : Sm06.Call} {Q : VK} {r dx ca : Addr} {ns t : List Int} {j : Nat}
    (q : ∀ H' p A' L' (j : Nat), StoreAt C H' (AX A') A' L' (Sm06.step s cl).1 → SOk (Sm06.step s cl).1 → Lk A' A → L'.length ≤ L.length + 61 → Keep (r :: A.M) (r :: A'.M) H H' → r ∉ A'.M → p ∉ r :: A'.M → H p = none → H' p = some (.lst ((Sm06.step s cl).2.map V.int)) → H' r = some (.ins C.rd dx (rdF ca j)) → ns.drop j = t → j ≤ ns.length → Q (.ref p) H')
    (k2 : Keep (r :: A.M) (r :: A.M) H H2) (hr2 : H2 r = some (.ins C.rd dx (rdF ca j))) (rA : r ∉ A.M) (ej : ns.drop j = t) (jl : j ≤ ns.length) : Post C H2 A L s cl Q := by
  intro H' p A' L' R' ok' lk Ll k pn hp0 hp
  have hr3 := k.1 _ _ hr2 rA
  refine q H' p A' L' j R' ok' lk Ll (k2.trans k.cons) hr3.2 (fun z => ?_) (k2.2 p hp0) hp hr3.1 ej jl
  rcases List.mem_cons.mp z with z | z
  · rw [z, hr2] at hp0
    cases hp0
  · exact pn z
theorem drop_at {ns : List Int} {i : Nat} {z : Int} {t : List Int} (h : ns.drop i = z :: t) : ns[i]? = some z ∧ ns.drop (i + 1) = t ∧ i + 1 ≤ ns.length := by
  have il : i < ns.length := by
    apply Decidable.byContradiction
    intro c
    rw [List.drop_eq_nil_of_le (by omega)] at h
    cases h
  rw [List.drop_eq_getElem_cons il] at h
  obtain ⟨e1, e2⟩ := List.cons.inj h
  exact ⟨by rw [List.getElem?_eq_getElem il, e1], e2, il⟩
theorem drop_row {ns ls t : List Int} {i : Nat} (h : ns.drop i = ls ++ t) (hi : i ≤ ns.length) : (ns.drop i).take ls.length = ls ∧ ns.drop (i + ls.length) = t ∧ i + ls.length ≤ ns.length := by
  have len := congrArg List.length h
  rw [List.length_drop, List.length_append] at len
  refine ⟨by rw [h, List.take_left], ?_, by omega⟩
  rw [← List.drop_drop, h, List.drop_left]
abbrev st_answer_call : Stmt := top 56
abbrev N_answer_call : List Str := ["store", "reader", "call", "most"]
theorem sc_answer_call : FnScope N_answer_call ["store", "reader"] (defScope st_answer_call) := ⟨rfl, rfl, rfl, by decide +kernel, rfl, by decide +kernel, by decide +kernel⟩
theorem ok_answer_call {f : Addr} {fd : FuncData} (F : Fun K "answer_call" "answer_call" st_answer_call f fd) (T : Txt K mg C) (mt_take_number : Mtd P w K mg base 1 C.rd "take_number" ["self"] (spNum C K)) (mt_take_row : Mtd P w K mg base 2 C.rd "take_row" ["self"] (spRow C K)) (c_answer_start : Cal P w K mg base 2 "answer_start" ["store", "size"] (spStart C)) (c_answer_clause : Cal P w K mg base 4 "answer_clause" ["store", "literals"] (spAClause C K)) (c_answer_mark : Cal P w K mg base 1 "answer_mark" ["store"] (spMark C .mark)) (c_answer_back : Cal P w K mg base 3 "answer_back" ["store"] (spMark C .back)) (c_answer_decide : Cal P w K mg base 6 "answer_decide" ["store", "most", "assumptions"] (spADecide C K)) (c_answer_learnt : Cal P w K mg base 3 "answer_learnt" ["store"] (spMark C .learnt)) (c_answer_came : Cal P w K mg base 3 "answer_came" ["store", "number"] (spNumC C .came)) (c_answer_forget : Cal P w K mg base 3 "answer_forget" ["store", "length"] (spNumC C .forget)) (c_answer_steps : Cal P w K mg base 6 "answer_steps" ["store", "literals"] (spASteps C K)) (c_answer_order : Cal P w K mg base 1 "answer_order" ["store"] (spMark C .order)) (c_answer_shows : Cal P w K mg base 3 "answer_shows" ["store"] (spMark C .shows)) : FnOk P w K mg base CX0 7 f fd ["store", "reader"] (spCall C K) := by
  refine F.ok sc_answer_call (fun vs H Q E h => ?_) (fun cdv A outer s H vs Q E hr h => ⟨_, (pss_cons (ps_set (i := 2) sc_answer_call.nd rfl (Or.inl rfl) (pe_mtd0 mt_take_number (hr.mono (by decide)) (pv 1)))
      (pss_cons (ps_if (pt_cmpR op_eq (pv 2) pe_int (nomark _)) (pss_one (ps_ret (pe_cal c_answer_start (hr.mono (by decide)) (by rfl) (pa_cons (pv 0) (pa_cons (pe_mtd0 mt_take_number (hr.mono (by decide)) (pv 1)) pa_nil))))) pss_nil)
      (pss_cons (ps_if (pt_cmpR op_eq (pv 2) pe_int (nomark _)) (pss_one (ps_ret (pe_cal c_answer_clause (hr.mono (by decide)) (by rfl) (pa_cons (pv 0) (pa_cons (pe_mtd0 mt_take_row (hr.mono (by decide)) (pv 1)) pa_nil))))) pss_nil)
      (pss_cons (ps_if (pt_cmpR op_eq (pv 2) pe_int (nomark _)) (pss_one (ps_ret (pe_cal c_answer_mark (hr.mono (by decide)) (by rfl) (pa_cons (pv 0) pa_nil)))) pss_nil)
      (pss_cons (ps_if (pt_cmpR op_eq (pv 2) pe_int (nomark _)) (pss_one (ps_ret (pe_cal c_answer_back (hr.mono (by decide)) (by rfl) (pa_cons (pv 0) pa_nil)))) pss_nil)
      (pss_cons (ps_if (pt_cmpR op_eq (pv 2) pe_int (nomark _)) (pss_cons (ps_set (i := 3) sc_answer_call.nd rfl (Or.inl rfl) (pe_mtd0 mt_take_number (hr.mono (by decide)) (pv 1)))
      (pss_one (ps_ret (pe_cal c_answer_decide (hr.mono (by decide)) (by rfl) (pa_cons (pv 0) (pa_cons (pv 3) (pa_cons (pe_mtd0 mt_take_row (hr.mono (by decide)) (pv 1)) pa_nil))))))) pss_nil)
      (pss_cons (ps_if (pt_cmpR op_eq (pv 2) pe_int (nomark _)) (pss_one (ps_ret (pe_cal c_answer_learnt (hr.mono (by decide)) (by rfl) (pa_cons (pv 0) pa_nil)))) pss_nil)
      (pss_cons (ps_if (pt_cmpR op_eq (pv 2) pe_int (nomark _)) (pss_one (ps_ret (pe_cal c_answer_came (hr.mono (by decide)) (by rfl) (pa_cons (pv 0) (pa_cons (pe_mtd0 mt_take_number (hr.mono (by decide)) (pv 1)) pa_nil))))) pss_nil)
      (pss_cons (ps_if (pt_cmpR op_eq (pv 2) pe_int (nomark _)) (pss_one (ps_ret (pe_cal c_answer_forget (hr.mono (by decide)) (by rfl) (pa_cons (pv 0) (pa_cons (pe_mtd0 mt_take_number (hr.mono (by decide)) (pv 1)) pa_nil))))) pss_nil)
      (pss_cons (ps_if (pt_cmpR op_eq (pv 2) pe_int (nomark _)) (pss_one (ps_ret (pe_cal c_answer_steps (hr.mono (by decide)) (by rfl) (pa_cons (pv 0) (pa_cons (pe_mtd0 mt_take_row (hr.mono (by decide)) (pv 1)) pa_nil))))) pss_nil)
      (pss_cons (ps_if (pt_cmpR op_eq (pv 2) pe_int (nomark _)) (pss_one (ps_ret (pe_cal c_answer_order (hr.mono (by decide)) (by rfl) (pa_cons (pv 0) pa_nil)))) pss_nil)
      (pss_cons (ps_if (pt_cmpR op_eq (pv 2) pe_int (nomark _)) (pss_one (ps_ret (pe_cal c_answer_shows (hr.mono (by decide)) (by rfl) (pa_cons (pv 0) pa_nil)))) pss_nil)
      (pss_one ps_never))))))))))))), ?_⟩)
  · obtain ⟨A, L, s, r, dx, ca, ns, cl, t, i, rfl, _⟩ := h
    rfl
  · obtain ⟨A, L, s, r, dx, ca, ns, cl, t, i, rfl, R, ok, L8, hr, rA, rX, hs, hat, q⟩ := h
    have no : ∀ {m : Str} {z : Int} {b : Addr}, (([("calls" : Str), "place"] : List Str).contains m = false) → (rdF b z).lookup m = none := fun h => rdF_none h
    have ne : ∀ {a b : Int}, a ≠ b → decide (V.int a = V.int b) = false := fun h => decide_eq_false fun z => h (V.int.inj z)
    have num : ∀ z l, ns.drop i = z :: l → ns[i]? = some z := fun z l e => (drop_at e).1
    have hr1 : upd H r (.ins C.rd dx (rdF ca ((i + 1 : Nat)))) r = some (.ins C.rd dx (rdF ca ((i + 1 : Nat)))) := upd_same
    have R1 := R.off (o := .ins C.rd dx (rdF ca ((i + 1 : Nat)))) rX rA
    have hs1 := SqL.ins (o := .ins C.rd dx (rdF ca ((i + 1 : Nat)))) hs hr
    have k1 : Keep (r :: A.M) (r :: A.M) H (upd H r (.ins C.rd dx (rdF ca ((i + 1 : Nat))))) := Keep.put List.mem_cons_self
    generalize hG : upd H r (.ins C.rd dx (rdF ca ((i + 1 : Nat)))) = H1 at hr1 R1 hs1 k1
    have k1b : But r H H1 := by rw [← hG]; exact But.put
    cases cl with
    | start x =>
      obtain ⟨z1, e1, l1⟩ := drop_at hat
      obtain ⟨z2, e2, l2⟩ := drop_at e1
      refine ⟨_, rfl, r, dx, _, rfl, hr, no (by decide +kernel), r, dx, ca, ns, i, 0, rfl, hr, hs, z1, ?_⟩
      rw [hG]
      refine ⟨_, rfl, rfl, _, rfl, if_true_of rfl ?_⟩
      refine ⟨_, rfl, _, rfl, r, dx, _, rfl, hr1, no (by decide +kernel), r, dx, ca, ns, i + 1, x, rfl, hr1, hs1, z2, ?_⟩
      exact ⟨A, L, s, x, rfl, R1.off rX rA, ok, call_post q (k1.trans (Keep.put List.mem_cons_self)) upd_same rA e2 l2⟩
    | clause ls =>
      obtain ⟨hat, l60⟩ := hat
      obtain ⟨z1, e1, l1⟩ := drop_at hat
      obtain ⟨z2, e2, l2⟩ := drop_at e1
      obtain ⟨z3, e3, l3⟩ := drop_row e2 l2
      refine ⟨_, rfl, r, dx, _, rfl, hr, no (by decide +kernel), r, dx, ca, ns, i, 1, rfl, hr, hs, z1, ?_⟩
      rw [hG]
      refine ⟨_, rfl, rfl, _, rfl, if_false_of (ne (by decide)) ?_⟩
      refine ⟨_, rfl, rfl, _, rfl, if_true_of rfl ?_⟩
      refine ⟨_, rfl, _, rfl, r, dx, _, rfl, hr1, no (by decide +kernel), r, dx, ca, ns, i + 1, ls.length, rfl, hr1, hs1, z2, l3, fun H2 p hp0 hp hr2 bt => ?_⟩
      rw [z3] at hp
      have R2 := R1.but rX rA bt hr2
      exact ⟨A, L, s, p, ls, rfl, R2, ok, SqL.of hp, R1.out hp0, by omega, L8, call_post q (k1.trans (keep_but bt hr2)) hr2 rA e3 l3⟩
    | mark =>
      obtain ⟨z1, e1, l1⟩ := drop_at hat
      refine ⟨_, rfl, r, dx, _, rfl, hr, no (by decide +kernel), r, dx, ca, ns, i, 2, rfl, hr, hs, z1, ?_⟩
      rw [hG]
      refine ⟨_, rfl, rfl, _, rfl, if_false_of (ne (by decide)) ?_⟩
      refine ⟨_, rfl, rfl, _, rfl, if_false_of (ne (by decide)) ?_⟩
      refine ⟨_, rfl, rfl, _, rfl, if_true_of rfl ?_⟩
      exact ⟨_, rfl, A, L, s, rfl, R1, ok, by omega, call_post q k1 hr1 rA e1 l1⟩
    | back =>
      obtain ⟨z1, e1, l1⟩ := drop_at hat
      refine ⟨_, rfl, r, dx, _, rfl, hr, no (by decide +kernel), r, dx, ca, ns, i, 3, rfl, hr, hs, z1, ?_⟩
      rw [hG]
      iterate 3 refine ⟨_, rfl, rfl, _, rfl, if_false_of (ne (by decide)) ?_⟩
      refine ⟨_, rfl, rfl, _, rfl, if_true_of rfl ?_⟩
      exact ⟨_, rfl, A, L, s, rfl, R1, ok, by omega, call_post q k1 hr1 rA e1 l1⟩
    | decide m ls =>
      obtain ⟨hat, l60⟩ := hat
      obtain ⟨z1, e1, l1⟩ := drop_at hat
      obtain ⟨z2, e2, l2⟩ := drop_at e1
      obtain ⟨z3, e3, l3⟩ := drop_at e2
      obtain ⟨z4, e4, l4⟩ := drop_row e3 l3
      refine ⟨_, rfl, r, dx, _, rfl, hr, no (by decide +kernel), r, dx, ca, ns, i, 4, rfl, hr, hs, z1, ?_⟩
      rw [hG]
      iterate 4 refine ⟨_, rfl, rfl, _, rfl, if_false_of (ne (by decide)) ?_⟩
      refine ⟨_, rfl, rfl, _, rfl, if_true_of rfl ?_⟩
      refine ⟨_, rfl, r, dx, _, rfl, hr1, no (by decide +kernel), r, dx, ca, ns, i + 1, m, rfl, hr1, hs1, z2, ?_⟩
      have R2 := R1.off (o := .ins C.rd dx (rdF ca ((i + 1 + 1 : Nat)))) rX rA
      have hs2 := SqL.ins (o := .ins C.rd dx (rdF ca ((i + 1 + 1 : Nat)))) hs1 hr1
      have k2 : Keep (r :: A.M) (r :: A.M) H1 (upd H1 r (.ins C.rd dx (rdF ca ((i + 1 + 1 : Nat))))) := Keep.put List.mem_cons_self
      refine ⟨_, rfl, _, rfl, _, rfl, r, dx, _, rfl, upd_same, no (by decide +kernel), r, dx, ca, ns, i + 1 + 1, ls.length, rfl, upd_same, hs2, z3, l4, fun H2 p hp0 hp hr2 bt => ?_⟩
      rw [z4] at hp
      have R3 := R2.but rX rA bt hr2
      exact ⟨A, L, s, p, ls, m, rfl, R3, ok, SqL.of hp, by omega, R2.out hp0, L8, call_post q ((k1.trans k2).trans (keep_but bt hr2)) hr2 rA e4 l4⟩
    | learnt =>
      obtain ⟨z1, e1, l1⟩ := drop_at hat
      refine ⟨_, rfl, r, dx, _, rfl, hr, no (by decide +kernel), r, dx, ca, ns, i, 5, rfl, hr, hs, z1, ?_⟩
      rw [hG]
      iterate 5 refine ⟨_, rfl, rfl, _, rfl, if_false_of (ne (by decide)) ?_⟩
      refine ⟨_, rfl, rfl, _, rfl, if_true_of rfl ?_⟩
      exact ⟨_, rfl, A, L, s, rfl, R1, ok, by omega, call_post q k1 hr1 rA e1 l1⟩
    | came x =>
      obtain ⟨z1, e1, l1⟩ := drop_at hat
      obtain ⟨z2, e2, l2⟩ := drop_at e1
      refine ⟨_, rfl, r, dx, _, rfl, hr, no (by decide +kernel), r, dx, ca, ns, i, 6, rfl, hr, hs, z1, ?_⟩
      rw [hG]
      iterate 6 refine ⟨_, rfl, rfl, _, rfl, if_false_of (ne (by decide)) ?_⟩
      refine ⟨_, rfl, rfl, _, rfl, if_true_of rfl ?_⟩
      refine ⟨_, rfl, _, rfl, r, dx, _, rfl, hr1, no (by decide +kernel), r, dx, ca, ns, i + 1, x, rfl, hr1, hs1, z2, ?_⟩
      exact ⟨A, L, s, x, rfl, R1.off rX rA, ok, by omega, call_post q (k1.trans (Keep.put List.mem_cons_self)) upd_same rA e2 l2⟩
    | forget x =>
      obtain ⟨z1, e1, l1⟩ := drop_at hat
      obtain ⟨z2, e2, l2⟩ := drop_at e1
      refine ⟨_, rfl, r, dx, _, rfl, hr, no (by decide +kernel), r, dx, ca, ns, i, 7, rfl, hr, hs, z1, ?_⟩
      rw [hG]
      iterate 7 refine ⟨_, rfl, rfl, _, rfl, if_false_of (ne (by decide)) ?_⟩
      refine ⟨_, rfl, rfl, _, rfl, if_true_of rfl ?_⟩
      refine ⟨_, rfl, _, rfl, r, dx, _, rfl, hr1, no (by decide +kernel), r, dx, ca, ns, i + 1, x, rfl, hr1, hs1, z2, ?_⟩
      exact ⟨A, L, s, x, rfl, R1.off rX rA, ok, by omega, call_post q (k1.trans (Keep.put List.mem_cons_self)) upd_same rA e2 l2⟩
    | steps ls =>
      obtain ⟨hat, l60⟩ := hat
      obtain ⟨z1, e1, l1⟩ := drop_at hat
      obtain ⟨z2, e2, l2⟩ := drop_at e1
      obtain ⟨z3, e3, l3⟩ := drop_row e2 l2
      refine ⟨_, rfl, r, dx, _, rfl, hr, no (by decide +kernel), r, dx, ca, ns, i, 8, rfl, hr, hs, z1, ?_⟩
      rw [hG]
      iterate 8 refine ⟨_, rfl, rfl, _, rfl, if_false_of (ne (by decide)) ?_⟩
      refine ⟨_, rfl, rfl, _, rfl, if_true_of rfl ?_⟩
      refine ⟨_, rfl, _, rfl, r, dx, _, rfl, hr1, no (by decide +kernel), r, dx, ca, ns, i + 1, ls.length, rfl, hr1, hs1, z2, l3, fun H2 p hp0 hp hr2 bt => ?_⟩
      rw [z3] at hp
      have R2 := R1.but rX rA bt hr2
      exact ⟨A, L, s, p, ls, rfl, R2, ok, SqL.of hp, by omega, call_post q (k1.trans (keep_but bt hr2)) hr2 rA e3 l3⟩
    | order =>
      obtain ⟨z1, e1, l1⟩ := drop_at hat
      refine ⟨_, rfl, r, dx, _, rfl, hr, no (by decide +kernel), r, dx, ca, ns, i, 9, rfl, hr, hs, z1, ?_⟩
      rw [hG]
      iterate 9 refine ⟨_, rfl, rfl, _, rfl, if_false_of (ne (by decide)) ?_⟩
      refine ⟨_, rfl, rfl, _, rfl, if_true_of rfl ?_⟩
      exact ⟨_, rfl, A, L, s, rfl, R1, ok, by omega, call_post q k1 hr1 rA e1 l1⟩
    | shows =>
      obtain ⟨z1, e1, l1⟩ := drop_at hat
      refine ⟨_, rfl, r, dx, _, rfl, hr, no (by decide +kernel), r, dx, ca, ns, i, 10, rfl, hr, hs, z1, ?_⟩
      rw [hG]
      iterate 10 refine ⟨_, rfl, rfl, _, rfl, if_false_of (ne (by decide)) ?_⟩
      refine ⟨_, rfl, rfl, _, rfl, if_true_of rfl ?_⟩
      exact ⟨_, rfl, A, L, s, rfl, R1, ok, by omega, call_post q k1 hr1 rA e1 l1⟩
end Kc
set_option Elab.async false
set_option maxRecDepth 100000
set_option maxHeartbeats 2000000
set_option linter.all false
namespace Kc
open PySem PySem.Spec PyProof.Rows L2
/-! ### the end: what the top has written -/
def FnP (K : PySem.W.Frag) (x : Str) (st : Stmt) : Prop := ∃ f fd, PySem.W.nsIn K mainGlobals x = some (some (.ref f)) ∧ Fun K x x st f fd
theorem fn_p {K : PySem.W.Frag} {x : Str} {st : Stmt} {f : Addr} {oc : Value} {od an : Option Addr} {osl : Array (Option Value)} {kV doc pm cdv ct : Value} (a : PySem.W.nsIn K mainGlobals x = some (some (.ref f)))
    (l : K.lookup f = some ⟨oc, od, .func (PySem.W.fnOf x x (defArgs st) (defBody st) (defScope st) .none kV doc pm an cdv ct), osl⟩) (c : PySem.W.codeIn K cdv x = true) (k : PySem.W.keepIn K (.ref f) = true) : FnP K x st := ⟨f, _, a, fun_mk l c k⟩
def MtP (K : PySem.W.Frag) (C : Addr) (x qual : Str) (st : Stmt) : Prop := ∃ f fd, PySem.W.findIn K (.ref C) x = some (some (.ref f)) ∧ PySem.W.isFn K (.ref f) = true ∧ PySem.W.keepIn K (.ref f) = true ∧ Fun K x qual st f fd
theorem mt_p {K : PySem.W.Frag} {C : Addr} {x qual : Str} {st : Stmt} {f : Addr} {oc : Value} {od an : Option Addr} {osl : Array (Option Value)} {kV doc pm cdv ct : Value} (a : PySem.W.findIn K (.ref C) x = some (some (.ref f))) (i : PySem.W.isFn K (.ref f) = true)
    (l : K.lookup f = some ⟨oc, od, .func (PySem.W.fnOf x qual (defArgs st) (defBody st) (defScope st) .none kV doc pm an cdv ct), osl⟩) (c : PySem.W.codeIn K cdv qual = true) (k : PySem.W.keepIn K (.ref f) = true) : MtP K C x qual st := ⟨f, _, a, i, k, fun_mk l c k⟩
structure ClP (K : PySem.W.Frag) (x : Str) (C : Addr) : Prop where
  ns : PySem.W.nsIn K mainGlobals x = some (some (.ref C))
  pg : PySem.W.plainGet K C Str.empty = true
  hd : PySem.W.hasDictIn K C = true
  po : PySem.W.plainOver K C = true
  sa : PySem.W.findIn K (.ref C) "__setattr__" = some (some (.builtin "object.__setattr__"))
  mks : PySem.W.makesIn K C = true
  kc : PySem.W.keepIn K (.ref C) = true
theorem ClP.cls {K : PySem.W.Frag} {x : Str} {C : Addr} (h : ClP K x C) : Cls K C := ⟨h.pg, h.hd, h.po, h.sa⟩
section
variable {P : Program} {w : World} {K : PySem.W.Frag} {mg : Str → Option Value} {base h : Heap} {C : Cs}
theorem cal_mk {k : Nat} {x : Str} {st : Stmt} {ps : List Str} {sp : Sp} (X : K.In h) (G : h.Ns mainGlobals mg) (p : FnP K x st) (ok : ∀ f fd, Fun K x x st f fd → FnOk P w K mg base CX0 k f fd ps sp)
    (b : ∀ (kV doc pm : Value) (an : Option Addr) (cdv ct : Value) (us : List Value), us.length = ps.length → bindArgs (PySem.W.fnOf x x (defArgs st) (defBody st) (defScope st) .none kV doc pm an cdv ct) ⟨us, []⟩ = pure (ps.zip us)) : Cal P w K mg base k x ps sp := by
  obtain ⟨f, fd, a, F⟩ := p
  exact ⟨f, fd, ok f fd F, PySem.W.mg_of X G a, F.kp, F.binds b⟩
theorem mtd_mk {k : Nat} {D : Addr} {x qual : Str} {st : Stmt} {ps : List Str} {sp : Sp} (c : Cls K D) (p : MtP K D x qual st) (ok : ∀ f fd, Fun K x qual st f fd → FnOk P w K mg base CX0 k f fd ps sp)
    (b : ∀ (kV doc pm : Value) (an : Option Addr) (cdv ct : Value) (us : List Value), us.length = ps.length → bindArgs (PySem.W.fnOf x qual (defArgs st) (defBody st) (defScope st) .none kV doc pm an cdv ct) ⟨us, []⟩ = pure (ps.zip us)) : Mtd P w K mg base k D x ps sp := by
  obtain ⟨f, fd, a, i, kp, F⟩ := p
  exact ⟨c, f, fd, ⟨a, i, kp⟩, ok f fd F, F.binds b⟩
theorem mak_mk {k : Nat} {D : Addr} {x qual : Str} {st : Stmt} {ps : List Str} {sp : Sp} (X : K.In h) (G : h.Ns mainGlobals mg) (c : ClP K x D) (p : MtP K D "__init__" qual st) (ok : ∀ f fd, Fun K "__init__" qual st f fd → FnOk P w K mg base CX0 k f fd ps sp)
    (b : ∀ (kV doc pm : Value) (an : Option Addr) (cdv ct : Value) (us : List Value), us.length = ps.length → bindArgs (PySem.W.fnOf "__init__" qual (defArgs st) (defBody st) (defScope st) .none kV doc pm an cdv ct) ⟨us, []⟩ = pure (ps.zip us)) : Mak P w K mg base k x D ps sp := by
  obtain ⟨f, fd, a, i, kp, F⟩ := p
  exact ⟨f, fd, ⟨c.mks, a, i, c.kc⟩, ok f fd F, PySem.W.mg_of X G c.ns, F.binds b⟩
end
theorem all_mk {P : Program} {w : World} {K : PySem.W.Frag} {h : Heap} {mg : Str → Option Value} {fa : Addr} {C : Cs} {t_SIZE_AT_FIRST t_MOST_VARIABLES t_MOST_GIVEN t_MOST_MARKS t_MOST_TO_LEARN : Tok} (X : K.In h) (G : h.Ns mainGlobals mg) (hfa : mg "answers" = some (.ref fa)) (k_Settings : ClP K "Settings" C.se) (a_se_store : NoAttr K C.se "store") (a_se_level : NoAttr K C.se "level") (a_se_trail : NoAttr K C.se "trail") (a_se_value_of : NoAttr K C.se "value_of") (a_se_level_of : NoAttr K C.se "level_of") (a_se_clause_of : NoAttr K C.se "clause_of") (a_se_last_so : NoAttr K C.se "last_so") (k_Clause : ClP K "Clause" C.cl) (a_cl_number : NoAttr K C.cl "number") (a_cl_height : NoAttr K C.cl "height") (a_cl_literals : NoAttr K C.cl "literals") (a_cl_came_of : NoAttr K C.cl "came_of") (k_Store : ClP K "Store" C.st) (a_st_size : NoAttr K C.st "size") (a_st_clauses : NoAttr K C.st "clauses") (a_st_marks : NoAttr K C.st "marks") (a_st_next_number : NoAttr K C.st "next_number") (a_st_order : NoAttr K C.st "order") (a_st_last_so : NoAttr K C.st "last_so") (k_Reader : ClP K "Reader" C.rd) (a_rd_calls : NoAttr K C.rd "calls") (a_rd_place : NoAttr K C.rd "place") (b_abs : PySem.W.nsIn K mainGlobals "abs" = some none) (b_len : PySem.W.nsIn K mainGlobals "len" = some none) (b_any : PySem.W.nsIn K mainGlobals "any" = some none) (b_sorted : PySem.W.nsIn K mainGlobals "sorted" = some none) (b_max : PySem.W.nsIn K mainGlobals "max" = some none) (b_list : PySem.W.nsIn K mainGlobals "list" = some none) (b_range : PySem.W.nsIn K mainGlobals "range" = some none) (b_reversed : PySem.W.nsIn K mainGlobals "reversed" = some none) (g_SIZE_AT_FIRST : PySem.W.nsIn K mainGlobals "SIZE_AT_FIRST" = some (some (.int 3 t_SIZE_AT_FIRST))) (g_MOST_VARIABLES : PySem.W.nsIn K mainGlobals "MOST_VARIABLES" = some (some (.int 12 t_MOST_VARIABLES))) (g_MOST_GIVEN : PySem.W.nsIn K mainGlobals "MOST_GIVEN" = some (some (.int 50 t_MOST_GIVEN))) (g_MOST_MARKS : PySem.W.nsIn K mainGlobals "MOST_MARKS" = some (some (.int 8 t_MOST_MARKS))) (g_MOST_TO_LEARN : PySem.W.nsIn K mainGlobals "MOST_TO_LEARN" = some (some (.int 60 t_MOST_TO_LEARN))) (p_value_of_literal : FnP K "value_of_literal" st_value_of_literal) (p_must_be_looked_at : FnP K "must_be_looked_at" st_must_be_looked_at) (p_free_literals : FnP K "free_literals" st_free_literals) (p_first_to_look_at : FnP K "first_to_look_at" st_first_to_look_at) (p_set_literal : FnP K "set_literal" st_set_literal) (p_begin_level : FnP K "begin_level" st_begin_level) (p_undo_above : FnP K "undo_above" st_undo_above) (p_set_what_follows : FnP K "set_what_follows" st_set_what_follows) (p_literals_at : FnP K "literals_at" st_literals_at) (p_last_set : FnP K "last_set" st_last_set) (p_swap_out : FnP K "swap_out" st_swap_out) (p_swap_out_at : FnP K "swap_out_at" st_swap_out_at) (p_level_to_go_back_to : FnP K "level_to_go_back_to" st_level_to_go_back_to) (p_Clause_is_learnt : MtP K C.cl "is_learnt" "Clause.is_learnt" st_Clause_is_learnt) (p_given_clauses : FnP K "given_clauses" st_given_clauses) (p_learnt_clauses : FnP K "learnt_clauses" st_learnt_clauses) (p_drop_above : FnP K "drop_above" st_drop_above) (p_drop_learnt_longer_than : FnP K "drop_learnt_longer_than" st_drop_learnt_longer_than) (p_bring_to_front : FnP K "bring_to_front" st_bring_to_front) (p_assumptions_behind : FnP K "assumptions_behind" st_assumptions_behind) (p_never_under : FnP K "never_under" st_never_under) (p_it_fits : FnP K "it_fits" st_it_fits) (p_go_on : FnP K "go_on" st_go_on) (p_Settings___init__ : MtP K C.se "__init__" "Settings.__init__" st_Settings___init__) (p_Clause___init__ : MtP K C.cl "__init__" "Clause.__init__" st_Clause___init__) (p_Store_begin : MtP K C.st "begin" "Store.begin" st_Store_begin) (p_Store___init__ : MtP K C.st "__init__" "Store.__init__" st_Store___init__) (p_Reader___init__ : MtP K C.rd "__init__" "Reader.__init__" st_Reader___init__) (p_Reader_has_more : MtP K C.rd "has_more" "Reader.has_more" st_Reader_has_more) (p_Reader_take_number : MtP K C.rd "take_number" "Reader.take_number" st_Reader_take_number) (p_Reader_take_row : MtP K C.rd "take_row" "Reader.take_row" st_Reader_take_row) (p_add_clause : FnP K "add_clause" st_add_clause) (p_learn : FnP K "learn" st_learn) (p_decide : FnP K "decide" st_decide) (p_has_wrong_literal : FnP K "has_wrong_literal" st_has_wrong_literal) (p_is_told_both_ways : FnP K "is_told_both_ways" st_is_told_both_ways) (p_each_once : FnP K "each_once" st_each_once) (p_told_clauses : FnP K "told_clauses" st_told_clauses) (p_answer_start : FnP K "answer_start" st_answer_start) (p_answer_clause : FnP K "answer_clause" st_answer_clause) (p_answer_mark : FnP K "answer_mark" st_answer_mark) (p_answer_back : FnP K "answer_back" st_answer_back) (p_answer_decide : FnP K "answer_decide" st_answer_decide) (p_answer_learnt : FnP K "answer_learnt" st_answer_learnt) (p_answer_came : FnP K "answer_came" st_answer_came) (p_answer_forget : FnP K "answer_forget" st_answer_forget) (p_follows_by_steps : FnP K "follows_by_steps" st_follows_by_steps) (p_answer_steps : FnP K "answer_steps" st_answer_steps) (p_answer_order : FnP K "answer_order" st_answer_order) (p_answer_shows : FnP K "answer_shows" st_answer_shows) (p_answer_call : FnP K "answer_call" st_answer_call) (p_answers : FnP K "answers" st_answers) :
    ∃ fd : FuncData, (∀ (s : Shared) (us : List Value), us.length = (["calls"] : List Str).length → BindsTo s fd ⟨us, []⟩ ((["calls"] : List Str).zip us)) ∧ ∀ base : Heap, K.In base → base.Ns mainGlobals mg → FnOk P w K mg base CX0 8 fa fd ["calls"] (spAnswers K) := by
  have T : Txt K mg C := ⟨k_Settings.cls, k_Store.cls, k_Clause.cls, k_Reader.cls, fun f hf => by
      simp only [List.mem_cons, List.not_mem_nil, or_false] at hf
      rcases hf with rfl | rfl | rfl | rfl | rfl | rfl | rfl
      · exact a_se_store
      · exact a_se_level
      · exact a_se_trail
      · exact a_se_value_of
      · exact a_se_level_of
      · exact a_se_clause_of
      · exact a_se_last_so
    , fun f hf => by
      simp only [List.mem_cons, List.not_mem_nil, or_false] at hf
      rcases hf with rfl | rfl | rfl | rfl | rfl | rfl
      · exact a_st_size
      · exact a_st_clauses
      · exact a_st_marks
      · exact a_st_next_number
      · exact a_st_order
      · exact a_st_last_so
    , fun f hf => by
      simp only [List.mem_cons, List.not_mem_nil, or_false] at hf
      rcases hf with rfl | rfl | rfl | rfl
      · exact a_cl_number
      · exact a_cl_height
      · exact a_cl_literals
      · exact a_cl_came_of
    , fun f hf => by
      simp only [List.mem_cons, List.not_mem_nil, or_false] at hf
      rcases hf with rfl | rfl
      · exact a_rd_calls
      · exact a_rd_place
    , ⟨_, PySem.W.mg_of X G g_SIZE_AT_FIRST⟩, ⟨_, PySem.W.mg_of X G g_MOST_VARIABLES⟩, ⟨_, PySem.W.mg_of X G g_MOST_GIVEN⟩, ⟨_, PySem.W.mg_of X G g_MOST_MARKS⟩, ⟨_, PySem.W.mg_of X G g_MOST_TO_LEARN⟩, fun f hf => by
      simp only [List.mem_cons, List.not_mem_nil, or_false] at hf
      rcases hf with rfl | rfl | rfl | rfl | rfl | rfl | rfl | rfl
      · exact PySem.W.mg_none_of X G b_abs
      · exact PySem.W.mg_none_of X G b_len
      · exact PySem.W.mg_none_of X G b_any
      · exact PySem.W.mg_none_of X G b_sorted
      · exact PySem.W.mg_none_of X G b_max
      · exact PySem.W.mg_none_of X G b_list
      · exact PySem.W.mg_none_of X G b_range
      · exact PySem.W.mg_none_of X G b_reversed
    ⟩
  obtain ⟨f0, fd0, a0, F0⟩ := p_answers
  have e0 := hfa.symm.trans (PySem.W.mg_of X G a0)
  cases e0
  refine ⟨fd0, fun s us hu => ?_, fun base _ _ => ?_⟩
  · obtain ⟨oc, od, kV, doc, pm, an, cdv, ct, osl, rfl, _⟩ := F0.ex
    exact match us, hu with | [_], _ => .of_eq rfl
  · have c_value_of_literal : Cal P w K mg base 1 "value_of_literal" ["settings", "literal"] (spVal C) := cal_mk X G p_value_of_literal (fun _ _ F => ok_value_of_literal F T ) (fun _ _ _ _ _ _ us hl => match us, hl with | [_, _], _ => rfl)
    have c_must_be_looked_at : Cal P w K mg base 2 "must_be_looked_at" ["settings", "clause"] (spMust C) := cal_mk X G p_must_be_looked_at (fun _ _ F => ok_must_be_looked_at F T c_value_of_literal) (fun _ _ _ _ _ _ us hl => match us, hl with | [_, _], _ => rfl)
    have c_free_literals : Cal P w K mg base 2 "free_literals" ["settings", "clause"] (spFree C) := cal_mk X G p_free_literals (fun _ _ F => ok_free_literals F T c_value_of_literal) (fun _ _ _ _ _ _ us hl => match us, hl with | [_, _], _ => rfl)
    have c_first_to_look_at : Cal P w K mg base 3 "first_to_look_at" ["settings"] (spFirst C) := cal_mk X G p_first_to_look_at (fun _ _ F => ok_first_to_look_at F T c_must_be_looked_at) (fun _ _ _ _ _ _ us hl => match us, hl with | [_], _ => rfl)
    have c_set_literal : Cal P w K mg base 1 "set_literal" ["settings", "literal", "clause"] (spSet C) := cal_mk X G p_set_literal (fun _ _ F => ok_set_literal F T ) (fun _ _ _ _ _ _ us hl => match us, hl with | [_, _, _], _ => rfl)
    have c_begin_level : Cal P w K mg base 2 "begin_level" ["settings", "literal"] (spLevel C) := cal_mk X G p_begin_level (fun _ _ F => ok_begin_level F T c_set_literal) (fun _ _ _ _ _ _ us hl => match us, hl with | [_, _], _ => rfl)
    have c_undo_above : Cal P w K mg base 1 "undo_above" ["settings", "level"] (spUndo C) := cal_mk X G p_undo_above (fun _ _ F => ok_undo_above F T ) (fun _ _ _ _ _ _ us hl => match us, hl with | [_, _], _ => rfl)
    have c_set_what_follows : Cal P w K mg base 4 "set_what_follows" ["settings"] (spFollow C) := cal_mk X G p_set_what_follows (fun _ _ F => ok_set_what_follows F T c_first_to_look_at c_free_literals c_set_literal) (fun _ _ _ _ _ _ us hl => match us, hl with | [_], _ => rfl)
    have c_literals_at : Cal P w K mg base 1 "literals_at" ["settings", "literals", "level"] (spAt C) := cal_mk X G p_literals_at (fun _ _ F => ok_literals_at F T ) (fun _ _ _ _ _ _ us hl => match us, hl with | [_, _, _], _ => rfl)
    have c_last_set : Cal P w K mg base 1 "last_set" ["settings", "literals"] (spLast C K) := cal_mk X G p_last_set (fun _ _ F => ok_last_set F T ) (fun _ _ _ _ _ _ us hl => match us, hl with | [_, _], _ => rfl)
    have c_swap_out : Cal P w K mg base 1 "swap_out" ["settings", "kept", "literal"] (spSwapOut C) := cal_mk X G p_swap_out (fun _ _ F => ok_swap_out F T ) (fun _ _ _ _ _ _ us hl => match us, hl with | [_, _, _], _ => rfl)
    have c_swap_out_at : Cal P w K mg base 2 "swap_out_at" ["settings", "kept", "level", "may_stay"] (spSwapAt C) := cal_mk X G p_swap_out_at (fun _ _ F => ok_swap_out_at F T c_literals_at c_last_set c_swap_out) (fun _ _ _ _ _ _ us hl => match us, hl with | [_, _, _, _], _ => rfl)
    have c_level_to_go_back_to : Cal P w K mg base 1 "level_to_go_back_to" ["settings", "literals"] (spBack C K) := cal_mk X G p_level_to_go_back_to (fun _ _ F => ok_level_to_go_back_to F T ) (fun _ _ _ _ _ _ us hl => match us, hl with | [_, _], _ => rfl)
    have mt_is_learnt : Mtd P w K mg base 1 C.cl "is_learnt" ["self"] (spIsL C) := mtd_mk k_Clause.cls p_Clause_is_learnt (fun _ _ F => ok_is_learnt F T ) (fun _ _ _ _ _ _ us hl => match us, hl with | [_], _ => rfl)
    have c_given_clauses : Cal P w K mg base 2 "given_clauses" ["store"] (spPick C fun c => !c.learnt) := cal_mk X G p_given_clauses (fun _ _ F => ok_given_clauses F T mt_is_learnt) (fun _ _ _ _ _ _ us hl => match us, hl with | [_], _ => rfl)
    have c_learnt_clauses : Cal P w K mg base 2 "learnt_clauses" ["store"] (spPick C fun c => c.learnt) := cal_mk X G p_learnt_clauses (fun _ _ F => ok_learnt_clauses F T mt_is_learnt) (fun _ _ _ _ _ _ us hl => match us, hl with | [_], _ => rfl)
    have c_drop_above : Cal P w K mg base 1 "drop_above" ["store", "height"] (spDrop C) := cal_mk X G p_drop_above (fun _ _ F => ok_drop_above F T ) (fun _ _ _ _ _ _ us hl => match us, hl with | [_, _], _ => rfl)
    have c_drop_learnt_longer_than : Cal P w K mg base 2 "drop_learnt_longer_than" ["store", "length"] (spDropL C) := cal_mk X G p_drop_learnt_longer_than (fun _ _ F => ok_drop_learnt_longer_than F T mt_is_learnt) (fun _ _ _ _ _ _ us hl => match us, hl with | [_, _], _ => rfl)
    have c_bring_to_front : Cal P w K mg base 1 "bring_to_front" ["store", "clauses"] (spFront C K) := cal_mk X G p_bring_to_front (fun _ _ F => ok_bring_to_front F T ) (fun _ _ _ _ _ _ us hl => match us, hl with | [_, _], _ => rfl)
    have c_assumptions_behind : Cal P w K mg base 1 "assumptions_behind" ["settings", "literal"] (spBehind C) := cal_mk X G p_assumptions_behind (fun _ _ F => ok_assumptions_behind F T ) (fun _ _ _ _ _ _ us hl => match us, hl with | [_, _], _ => rfl)
    have c_never_under : Cal P w K mg base 2 "never_under" ["settings", "failed", "assumptions"] (spNever C K) := cal_mk X G p_never_under (fun _ _ F => ok_never_under F T c_assumptions_behind) (fun _ _ _ _ _ _ us hl => match us, hl with | [_, _, _], _ => rfl)
    have c_it_fits : Cal P w K mg base 1 "it_fits" ["settings"] (spFits C) := cal_mk X G p_it_fits (fun _ _ F => ok_it_fits F T ) (fun _ _ _ _ _ _ us hl => match us, hl with | [_], _ => rfl)
    have c_go_on : Cal P w K mg base 3 "go_on" ["settings", "assumptions"] (spGo C K) := cal_mk X G p_go_on (fun _ _ F => ok_go_on F T c_value_of_literal c_never_under c_begin_level c_it_fits) (fun _ _ _ _ _ _ us hl => match us, hl with | [_, _], _ => rfl)
    have m_Settings : Mak P w K mg base 1 "Settings" C.se ["self", "store"] (spSettings C) := mak_mk X G k_Settings p_Settings___init__ (fun _ _ F => ok_Settings F T ) (fun _ _ _ _ _ _ us hl => match us, hl with | [_, _], _ => rfl)
    have m_Clause : Mak P w K mg base 1 "Clause" C.cl ["self", "number", "height", "literals", "came_of"] (spClause C) := mak_mk X G k_Clause p_Clause___init__ (fun _ _ F => ok_Clause F T ) (fun _ _ _ _ _ _ us hl => match us, hl with | [_, _, _, _, _], _ => rfl)
    have mt_begin : Mtd P w K mg base 1 C.st "begin" ["self", "size"] (spBegin C) := mtd_mk k_Store.cls p_Store_begin (fun _ _ F => ok_begin F T ) (fun _ _ _ _ _ _ us hl => match us, hl with | [_, _], _ => rfl)
    have m_Store : Mak P w K mg base 2 "Store" C.st ["self", "size"] (spStore C) := mak_mk X G k_Store p_Store___init__ (fun _ _ F => ok_Store F T mt_begin) (fun _ _ _ _ _ _ us hl => match us, hl with | [_, _], _ => rfl)
    have m_Reader : Mak P w K mg base 1 "Reader" C.rd ["self", "calls"] (spReader C) := mak_mk X G k_Reader p_Reader___init__ (fun _ _ F => ok_Reader F T ) (fun _ _ _ _ _ _ us hl => match us, hl with | [_, _], _ => rfl)
    have mt_has_more : Mtd P w K mg base 1 C.rd "has_more" ["self"] (spMore C K) := mtd_mk k_Reader.cls p_Reader_has_more (fun _ _ F => ok_has_more F T ) (fun _ _ _ _ _ _ us hl => match us, hl with | [_], _ => rfl)
    have mt_take_number : Mtd P w K mg base 1 C.rd "take_number" ["self"] (spNum C K) := mtd_mk k_Reader.cls p_Reader_take_number (fun _ _ F => ok_take_number F T ) (fun _ _ _ _ _ _ us hl => match us, hl with | [_], _ => rfl)
    have mt_take_row : Mtd P w K mg base 2 C.rd "take_row" ["self"] (spRow C K) := mtd_mk k_Reader.cls p_Reader_take_row (fun _ _ F => ok_take_row F T mt_take_number) (fun _ _ _ _ _ _ us hl => match us, hl with | [_], _ => rfl)
    have c_add_clause : Cal P w K mg base 3 "add_clause" ["store", "height", "literals", "came_of"] (spAdd C K) := cal_mk X G p_add_clause (fun _ _ F => ok_add_clause F T m_Clause) (fun _ _ _ _ _ _ us hl => match us, hl with | [_, _, _, _], _ => rfl)
    have c_learn : Cal P w K mg base 4 "learn" ["settings", "broken"] (spLearn C) := cal_mk X G p_learn (fun _ _ F => ok_learn F T c_swap_out_at c_add_clause c_bring_to_front c_undo_above c_level_to_go_back_to) (fun _ _ _ _ _ _ us hl => match us, hl with | [_, _], _ => rfl)
    have c_decide : Cal P w K mg base 5 "decide" ["store", "most", "assumptions"] (spDecide C K) := cal_mk X G p_decide (fun _ _ F => ok_decide F T m_Settings c_set_what_follows c_go_on c_learn) (fun _ _ _ _ _ _ us hl => match us, hl with | [_, _, _], _ => rfl)
    have c_has_wrong_literal : Cal P w K mg base 1 "has_wrong_literal" ["store", "literals"] (spWrong C K) := cal_mk X G p_has_wrong_literal (fun _ _ F => ok_has_wrong_literal F T ) (fun _ _ _ _ _ _ us hl => match us, hl with | [_, _], _ => rfl)
    have c_is_told_both_ways : Cal P w K mg base 1 "is_told_both_ways" ["literals"] (spBoth K) := cal_mk X G p_is_told_both_ways (fun _ _ F => ok_is_told_both_ways F T ) (fun _ _ _ _ _ _ us hl => match us, hl with | [_], _ => rfl)
    have c_each_once : Cal P w K mg base 1 "each_once" ["literals"] (spOnce K) := cal_mk X G p_each_once (fun _ _ F => ok_each_once F T ) (fun _ _ _ _ _ _ us hl => match us, hl with | [_], _ => rfl)
    have c_told_clauses : Cal P w K mg base 1 "told_clauses" ["clauses"] (spTold C K) := cal_mk X G p_told_clauses (fun _ _ F => ok_told_clauses F T ) (fun _ _ _ _ _ _ us hl => match us, hl with | [_], _ => rfl)
    have c_answer_start : Cal P w K mg base 2 "answer_start" ["store", "size"] (spStart C) := cal_mk X G p_answer_start (fun _ _ F => ok_answer_start F T mt_begin) (fun _ _ _ _ _ _ us hl => match us, hl with | [_, _], _ => rfl)
    have c_answer_clause : Cal P w K mg base 4 "answer_clause" ["store", "literals"] (spAClause C K) := cal_mk X G p_answer_clause (fun _ _ F => ok_answer_clause F T c_has_wrong_literal c_is_told_both_ways c_given_clauses c_each_once c_add_clause) (fun _ _ _ _ _ _ us hl => match us, hl with | [_, _], _ => rfl)
    have c_answer_mark : Cal P w K mg base 1 "answer_mark" ["store"] (spMark C .mark) := cal_mk X G p_answer_mark (fun _ _ F => ok_answer_mark F T ) (fun _ _ _ _ _ _ us hl => match us, hl with | [_], _ => rfl)
    have c_answer_back : Cal P w K mg base 3 "answer_back" ["store"] (spMark C .back) := cal_mk X G p_answer_back (fun _ _ F => ok_answer_back F T c_drop_above c_given_clauses c_learnt_clauses) (fun _ _ _ _ _ _ us hl => match us, hl with | [_], _ => rfl)
    have c_answer_decide : Cal P w K mg base 6 "answer_decide" ["store", "most", "assumptions"] (spADecide C K) := cal_mk X G p_answer_decide (fun _ _ F => ok_answer_decide F T c_has_wrong_literal c_decide) (fun _ _ _ _ _ _ us hl => match us, hl with | [_, _, _], _ => rfl)
    have c_answer_learnt : Cal P w K mg base 3 "answer_learnt" ["store"] (spMark C .learnt) := cal_mk X G p_answer_learnt (fun _ _ F => ok_answer_learnt F T c_learnt_clauses c_told_clauses) (fun _ _ _ _ _ _ us hl => match us, hl with | [_], _ => rfl)
    have c_answer_came : Cal P w K mg base 3 "answer_came" ["store", "number"] (spNumC C .came) := cal_mk X G p_answer_came (fun _ _ F => ok_answer_came F T c_learnt_clauses) (fun _ _ _ _ _ _ us hl => match us, hl with | [_, _], _ => rfl)
    have c_answer_forget : Cal P w K mg base 3 "answer_forget" ["store", "length"] (spNumC C .forget) := cal_mk X G p_answer_forget (fun _ _ F => ok_answer_forget F T c_drop_learnt_longer_than) (fun _ _ _ _ _ _ us hl => match us, hl with | [_, _], _ => rfl)
    have c_follows_by_steps : Cal P w K mg base 5 "follows_by_steps" ["store", "literals"] (spSteps C K) := cal_mk X G p_follows_by_steps (fun _ _ F => ok_follows_by_steps F T m_Settings c_set_literal c_set_what_follows) (fun _ _ _ _ _ _ us hl => match us, hl with | [_, _], _ => rfl)
    have c_answer_steps : Cal P w K mg base 6 "answer_steps" ["store", "literals"] (spASteps C K) := cal_mk X G p_answer_steps (fun _ _ F => ok_answer_steps F T c_has_wrong_literal c_is_told_both_ways c_each_once c_follows_by_steps) (fun _ _ _ _ _ _ us hl => match us, hl with | [_, _], _ => rfl)
    have c_answer_order : Cal P w K mg base 1 "answer_order" ["store"] (spMark C .order) := cal_mk X G p_answer_order (fun _ _ F => ok_answer_order F T ) (fun _ _ _ _ _ _ us hl => match us, hl with | [_], _ => rfl)
    have c_answer_shows : Cal P w K mg base 3 "answer_shows" ["store"] (spMark C .shows) := cal_mk X G p_answer_shows (fun _ _ F => ok_answer_shows F T c_given_clauses c_told_clauses) (fun _ _ _ _ _ _ us hl => match us, hl with | [_], _ => rfl)
    have c_answer_call : Cal P w K mg base 7 "answer_call" ["store", "reader"] (spCall C K) := cal_mk X G p_answer_call (fun _ _ F => ok_answer_call F T mt_take_number mt_take_row c_answer_start c_answer_clause c_answer_mark c_answer_back c_answer_decide c_answer_learnt c_answer_came c_answer_forget c_answer_steps c_answer_order c_answer_shows) (fun _ _ _ _ _ _ us hl => match us, hl with | [_, _], _ => rfl)
    exact ok_answers F0 T m_Store m_Reader mt_has_more c_answer_call
theorem all_mk2 {P : Program} {w : World} {K : PySem.W.Frag} {h : Heap} {mg : Str → Option Value} {fa se cl st rd : Addr} {t_SIZE_AT_FIRST t_MOST_VARIABLES t_MOST_GIVEN t_MOST_MARKS t_MOST_TO_LEARN : Tok} (X : K.In h) (G : h.Ns mainGlobals mg) (hfa : mg "answers" = some (.ref fa)) (k_Settings : ClP K "Settings" se) (a_se_store : PySem.W.findIn K (.ref se) "store" = some none) (a_se_level : PySem.W.findIn K (.ref se) "level" = some none) (a_se_trail : PySem.W.findIn K (.ref se) "trail" = some none) (a_se_value_of : PySem.W.findIn K (.ref se) "value_of" = some none) (a_se_level_of : PySem.W.findIn K (.ref se) "level_of" = some none) (a_se_clause_of : PySem.W.findIn K (.ref se) "clause_of" = some none) (a_se_last_so : PySem.W.findIn K (.ref se) "last_so" = some none) (k_Clause : ClP K "Clause" cl) (a_cl_number : PySem.W.findIn K (.ref cl) "number" = some none) (a_cl_height : PySem.W.findIn K (.ref cl) "height" = some none) (a_cl_literals : PySem.W.findIn K (.ref cl) "literals" = some none) (a_cl_came_of : PySem.W.findIn K (.ref cl) "came_of" = some none) (k_Store : ClP K "Store" st) (a_st_size : PySem.W.findIn K (.ref st) "size" = some none) (a_st_clauses : PySem.W.findIn K (.ref st) "clauses" = some none) (a_st_marks : PySem.W.findIn K (.ref st) "marks" = some none) (a_st_next_number : PySem.W.findIn K (.ref st) "next_number" = some none) (a_st_order : PySem.W.findIn K (.ref st) "order" = some none) (a_st_last_so : PySem.W.findIn K (.ref st) "last_so" = some none) (k_Reader : ClP K "Reader" rd) (a_rd_calls : PySem.W.findIn K (.ref rd) "calls" = some none) (a_rd_place : PySem.W.findIn K (.ref rd) "place" = some none) (b_abs : PySem.W.nsIn K mainGlobals "abs" = some none) (b_len : PySem.W.nsIn K mainGlobals "len" = some none) (b_any : PySem.W.nsIn K mainGlobals "any" = some none) (b_sorted : PySem.W.nsIn K mainGlobals "sorted" = some none) (b_max : PySem.W.nsIn K mainGlobals "max" = some none) (b_list : PySem.W.nsIn K mainGlobals "list" = some none) (b_range : PySem.W.nsIn K mainGlobals "range" = some none) (b_reversed : PySem.W.nsIn K mainGlobals "reversed" = some none) (g_SIZE_AT_FIRST : PySem.W.nsIn K mainGlobals "SIZE_AT_FIRST" = some (some (.int 3 t_SIZE_AT_FIRST))) (g_MOST_VARIABLES : PySem.W.nsIn K mainGlobals "MOST_VARIABLES" = some (some (.int 12 t_MOST_VARIABLES))) (g_MOST_GIVEN : PySem.W.nsIn K mainGlobals "MOST_GIVEN" = some (some (.int 50 t_MOST_GIVEN))) (g_MOST_MARKS : PySem.W.nsIn K mainGlobals "MOST_MARKS" = some (some (.int 8 t_MOST_MARKS))) (g_MOST_TO_LEARN : PySem.W.nsIn K mainGlobals "MOST_TO_LEARN" = some (some (.int 60 t_MOST_TO_LEARN))) (p_value_of_literal : FnP K "value_of_literal" st_value_of_literal) (p_must_be_looked_at : FnP K "must_be_looked_at" st_must_be_looked_at) (p_free_literals : FnP K "free_literals" st_free_literals) (p_first_to_look_at : FnP K "first_to_look_at" st_first_to_look_at) (p_set_literal : FnP K "set_literal" st_set_literal) (p_begin_level : FnP K "begin_level" st_begin_level) (p_undo_above : FnP K "undo_above" st_undo_above) (p_set_what_follows : FnP K "set_what_follows" st_set_what_follows) (p_literals_at : FnP K "literals_at" st_literals_at) (p_last_set : FnP K "last_set" st_last_set) (p_swap_out : FnP K "swap_out" st_swap_out) (p_swap_out_at : FnP K "swap_out_at" st_swap_out_at) (p_level_to_go_back_to : FnP K "level_to_go_back_to" st_level_to_go_back_to) (p_Clause_is_learnt : MtP K cl "is_learnt" "Clause.is_learnt" st_Clause_is_learnt) (p_given_clauses : FnP K "given_clauses" st_given_clauses) (p_learnt_clauses : FnP K "learnt_clauses" st_learnt_clauses) (p_drop_above : FnP K "drop_above" st_drop_above) (p_drop_learnt_longer_than : FnP K "drop_learnt_longer_than" st_drop_learnt_longer_than) (p_bring_to_front : FnP K "bring_to_front" st_bring_to_front) (p_assumptions_behind : FnP K "assumptions_behind" st_assumptions_behind) (p_never_under : FnP K "never_under" st_never_under) (p_it_fits : FnP K "it_fits" st_it_fits) (p_go_on : FnP K "go_on" st_go_on) (p_Settings___init__ : MtP K se "__init__" "Settings.__init__" st_Settings___init__) (p_Clause___init__ : MtP K cl "__init__" "Clause.__init__" st_Clause___init__) (p_Store_begin : MtP K st "begin" "Store.begin" st_Store_begin) (p_Store___init__ : MtP K st "__init__" "Store.__init__" st_Store___init__) (p_Reader___init__ : MtP K rd "__init__" "Reader.__init__" st_Reader___init__) (p_Reader_has_more : MtP K rd "has_more" "Reader.has_more" st_Reader_has_more) (p_Reader_take_number : MtP K rd "take_number" "Reader.take_number" st_Reader_take_number) (p_Reader_take_row : MtP K rd "take_row" "Reader.take_row" st_Reader_take_row) (p_add_clause : FnP K "add_clause" st_add_clause) (p_learn : FnP K "learn" st_learn) (p_decide : FnP K "decide" st_decide) (p_has_wrong_literal : FnP K "has_wrong_literal" st_has_wrong_literal) (p_is_told_both_ways : FnP K "is_told_both_ways" st_is_told_both_ways) (p_each_once : FnP K "each_once" st_each_once) (p_told_clauses : FnP K "told_clauses" st_told_clauses) (p_answer_start : FnP K "answer_start" st_answer_start) (p_answer_clause : FnP K "answer_clause" st_answer_clause) (p_answer_mark : FnP K "answer_mark" st_answer_mark) (p_answer_back : FnP K "answer_back" st_answer_back) (p_answer_decide : FnP K "answer_decide" st_answer_decide) (p_answer_learnt : FnP K "answer_learnt" st_answer_learnt) (p_answer_came : FnP K "answer_came" st_answer_came) (p_answer_forget : FnP K "answer_forget" st_answer_forget) (p_follows_by_steps : FnP K "follows_by_steps" st_follows_by_steps) (p_answer_steps : FnP K "answer_steps" st_answer_steps) (p_answer_order : FnP K "answer_order" st_answer_order) (p_answer_shows : FnP K "answer_shows" st_answer_shows) (p_answer_call : FnP K "answer_call" st_answer_call) (p_answers : FnP K "answers" st_answers) :
    ∃ fd : FuncData, (∀ (s : Shared) (us : List Value), us.length = (["calls"] : List Str).length → BindsTo s fd ⟨us, []⟩ ((["calls"] : List Str).zip us)) ∧ ∀ base : Heap, K.In base → base.Ns mainGlobals mg → FnOk P w K mg base CX0 8 fa fd ["calls"] (spAnswers K) :=
  all_mk (C := ⟨se, cl, st, rd⟩) X G hfa k_Settings a_se_store a_se_level a_se_trail a_se_value_of a_se_level_of a_se_clause_of a_se_last_so k_Clause a_cl_number a_cl_height a_cl_literals a_cl_came_of k_Store a_st_size a_st_clauses a_st_marks a_st_next_number a_st_order a_st_last_so k_Reader a_rd_calls a_rd_place b_abs b_len b_any b_sorted b_max b_list b_range b_reversed g_SIZE_AT_FIRST g_MOST_VARIABLES g_MOST_GIVEN g_MOST_MARKS g_MOST_TO_LEARN p_value_of_literal p_must_be_looked_at p_free_literals p_first_to_look_at p_set_literal p_begin_level p_undo_above p_set_what_follows p_literals_at p_last_set p_swap_out p_swap_out_at p_level_to_go_back_to p_Clause_is_learnt p_given_clauses p_learnt_clauses p_drop_above p_drop_learnt_longer_than p_bring_to_front p_assumptions_behind p_never_under p_it_fits p_go_on p_Settings___init__ p_Clause___init__ p_Store_begin p_Store___init__ p_Reader___init__ p_Reader_has_more p_Reader_take_number p_Reader_take_row p_add_clause p_learn p_decide p_has_wrong_literal p_is_told_both_ways p_each_once p_told_clauses p_answer_start p_answer_clause p_answer_mark p_answer_back p_answer_decide p_answer_learnt p_answer_came p_answer_forget p_follows_by_steps p_answer_steps p_answer_order p_answer_shows p_answer_call p_answers
end Kc
open PySem PySem.W PyProof.Rows
set_option maxRecDepth 100000 in
set_option maxHeartbeats 8000000 in
theorem PySem.Challenge.cw_keptclauses_s01_answers_holds : PySem.Challenge.rw_keptclauses_s01_answers.Holds := by
  w_on; k_headS; (case hw => exact ⟨[.list [.int 2]], by decide +kernel, by decide +kernel⟩)
  k_fillS
  refine L2.walk_specK (r := PySem.Challenge.rw_keptclauses_s01_answers) (k := 8) (CX := L2.CX0) (ps := ["calls"]) (sp := Kc.spAnswers) (by decide +kernel) rfl rfl ⟨rfl, by decide, by decide⟩ (fun w h Y => PySem.W.kIn_of Y) ?F ?S (fun _ _ _ _ z => z)
  case F =>
    intro w mg fa h Y KX G hmg
    refine' Kc.all_mk2 KX G hmg ?k_Settings ?a_se_store ?a_se_level ?a_se_trail ?a_se_value_of ?a_se_level_of ?a_se_clause_of ?a_se_last_so ?k_Clause ?a_cl_number ?a_cl_height ?a_cl_literals ?a_cl_came_of ?k_Store ?a_st_size ?a_st_clauses ?a_st_marks ?a_st_next_number ?a_st_order ?a_st_last_so ?k_Reader ?a_rd_calls ?a_rd_place ?b_abs ?b_len ?b_any ?b_sorted ?b_max ?b_list ?b_range ?b_reversed ?g_SIZE_AT_FIRST ?g_MOST_VARIABLES ?g_MOST_GIVEN ?g_MOST_MARKS ?g_MOST_TO_LEARN ?p_value_of_literal ?p_must_be_looked_at ?p_free_literals ?p_first_to_look_at ?p_set_literal ?p_begin_level ?p_undo_above ?p_set_what_follows ?p_literals_at ?p_last_set ?p_swap_out ?p_swap_out_at ?p_level_to_go_back_to ?p_Clause_is_learnt ?p_given_clauses ?p_learnt_clauses ?p_drop_above ?p_drop_learnt_longer_than ?p_bring_to_front ?p_assumptions_behind ?p_never_under ?p_it_fits ?p_go_on ?p_Settings___init__ ?p_Clause___init__ ?p_Store_begin ?p_Store___init__ ?p_Reader___init__ ?p_Reader_has_more ?p_Reader_take_number ?p_Reader_take_row ?p_add_clause ?p_learn ?p_decide ?p_has_wrong_literal ?p_is_told_both_ways ?p_each_once ?p_told_clauses ?p_answer_start ?p_answer_clause ?p_answer_mark ?p_answer_back ?p_answer_decide ?p_answer_learnt ?p_answer_came ?p_answer_forget ?p_follows_by_steps ?p_answer_steps ?p_answer_order ?p_answer_shows ?p_answer_call ?p_answers
    (case k_Settings => refine' ⟨?ns, ?pg, ?hd, ?po, ?sa, ?mk, ?kc⟩; (case ns => k_is); (case pg => k_is); (case hd => k_is); (case po => k_is); (case sa => k_is); (case mk => k_is); (case kc => k_is))
    (case a_se_store => k_is)
    (case a_se_level => k_is)
    (case a_se_trail => k_is)
    (case a_se_value_of => k_is)
    (case a_se_level_of => k_is)
    (case a_se_clause_of => k_is)
    (case a_se_last_so => k_is)
    (case k_Clause => refine' ⟨?ns, ?pg, ?hd, ?po, ?sa, ?mk, ?kc⟩; (case ns => k_is); (case pg => k_is); (case hd => k_is); (case po => k_is); (case sa => k_is); (case mk => k_is); (case kc => k_is))
    (case a_cl_number => k_is)
    (case a_cl_height => k_is)
    (case a_cl_literals => k_is)
    (case a_cl_came_of => k_is)
    (case k_Store => refine' ⟨?ns, ?pg, ?hd, ?po, ?sa, ?mk, ?kc⟩; (case ns => k_is); (case pg => k_is); (case hd => k_is); (case po => k_is); (case sa => k_is); (case mk => k_is); (case kc => k_is))
    (case a_st_size => k_is)
    (case a_st_clauses => k_is)
    (case a_st_marks => k_is)
    (case a_st_next_number => k_is)
    (case a_st_order => k_is)
    (case a_st_last_so => k_is)
    (case k_Reader => refine' ⟨?ns, ?pg, ?hd, ?po, ?sa, ?mk, ?kc⟩; (case ns => k_is); (case pg => k_is); (case hd => k_is); (case po => k_is); (case sa => k_is); (case mk => k_is); (case kc => k_is))
    (case a_rd_calls => k_is)
    (case a_rd_place => k_is)
    (case b_abs => k_is)
    (case b_len => k_is)
    (case b_any => k_is)
    (case b_sorted => k_is)
    (case b_max => k_is)
    (case b_list => k_is)
    (case b_range => k_is)
    (case b_reversed => k_is)
    (case g_SIZE_AT_FIRST => k_is)
    (case g_MOST_VARIABLES => k_is)
    (case g_MOST_GIVEN => k_is)
    (case g_MOST_MARKS => k_is)
    (case g_MOST_TO_LEARN => k_is)
    (case p_value_of_literal => refine' Kc.fn_p ?a ?l ?c ?k; (case a => k_is); (case l => k_is); (case c => k_is); (case k => k_is))
    (case p_must_be_looked_at => refine' Kc.fn_p ?a ?l ?c ?k; (case a => k_is); (case l => k_is); (case c => k_is); (case k => k_is))
    (case p_free_literals => refine' Kc.fn_p ?a ?l ?c ?k; (case a => k_is); (case l => k_is); (case c => k_is); (case k => k_is))
    (case p_first_to_look_at => refine' Kc.fn_p ?a ?l ?c ?k; (case a => k_is); (case l => k_is); (case c => k_is); (case k => k_is))
    (case p_set_literal => refine' Kc.fn_p ?a ?l ?c ?k; (case a => k_is); (case l => k_is); (case c => k_is); (case k => k_is))
    (case p_begin_level => refine' Kc.fn_p ?a ?l ?c ?k; (case a => k_is); (case l => k_is); (case c => k_is); (case k => k_is))
    (case p_undo_above => refine' Kc.fn_p ?a ?l ?c ?k; (case a => k_is); (case l => k_is); (case c => k_is); (case k => k_is))
    (case p_set_what_follows => refine' Kc.fn_p ?a ?l ?c ?k; (case a => k_is); (case l => k_is); (case c => k_is); (case k => k_is))
    (case p_literals_at => refine' Kc.fn_p ?a ?l ?c ?k; (case a => k_is); (case l => k_is); (case c => k_is); (case k => k_is))
    (case p_last_set => refine' Kc.fn_p ?a ?l ?c ?k; (case a => k_is); (case l => k_is); (case c => k_is); (case k => k_is))
    (case p_swap_out => refine' Kc.fn_p ?a ?l ?c ?k; (case a => k_is); (case l => k_is); (case c => k_is); (case k => k_is))
    (case p_swap_out_at => refine' Kc.fn_p ?a ?l ?c ?k; (case a => k_is); (case l => k_is); (case c => k_is); (case k => k_is))
    (case p_level_to_go_back_to => refine' Kc.fn_p ?a ?l ?c ?k; (case a => k_is); (case l => k_is); (case c => k_is); (case k => k_is))
    (case p_Clause_is_learnt => refine' Kc.mt_p ?a ?i ?l ?c ?k; (case a => k_is); (case i => k_is); (case l => k_is); (case c => k_is); (case k => k_is))
    (case p_given_clauses => refine' Kc.fn_p ?a ?l ?c ?k; (case a => k_is); (case l => k_is); (case c => k_is); (case k => k_is))
    (case p_learnt_clauses => refine' Kc.fn_p ?a ?l ?c ?k; (case a => k_is); (case l => k_is); (case c => k_is); (case k => k_is))
    (case p_drop_above => refine' Kc.fn_p ?a ?l ?c ?k; (case a => k_is); (case l => k_is); (case c => k_is); (case k => k_is))
    (case p_drop_learnt_longer_than => refine' Kc.fn_p ?a ?l ?c ?k; (case a => k_is); (case l => k_is); (case c => k_is); (case k => k_is))
    (case p_bring_to_front => refine' Kc.fn_p ?a ?l ?c ?k; (case a => k_is); (case l => k_is); (case c => k_is); (case k => k_is))
    (case p_assumptions_behind => refine' Kc.fn_p ?a ?l ?c ?k; (case a => k_is); (case l => k_is); (case c => k_is); (case k => k_is))
    (case p_never_under => refine' Kc.fn_p ?a ?l ?c ?k; (case a => k_is); (case l => k_is); (case c => k_is); (case k => k_is))
    (case p_it_fits => refine' Kc.fn_p ?a ?l ?c ?k; (case a => k_is); (case l => k_is); (case c => k_is); (case k => k_is))
    (case p_go_on => refine' Kc.fn_p ?a ?l ?c ?k; (case a => k_is); (case l => k_is); (case c => k_is); (case k => k_is))
    (case p_Settings___init__ => refine' Kc.mt_p ?a ?i ?l ?c ?k; (case a => k_is); (case i => k_is); (case l => k_is); (case c => k_is); (case k => k_is))
    (case p_Clause___init__ => refine' Kc.mt_p ?a ?i ?l ?c ?k; (case a => k_is); (case i => k_is); (case l => k_is); (case c => k_is); (case k => k_is))
    (case p_Store_begin => refine' Kc.mt_p ?a ?i ?l ?c ?k; (case a => k_is); (case i => k_is); (case l => k_is); (case c => k_is); (case k => k_is))
    (case p_Store___init__ => refine' Kc.mt_p ?a ?i ?l ?c ?k; (case a => k_is); (case i => k_is); (case l => k_is); (case c => k_is); (case k => k_is))
    (case p_Reader___init__ => refine' Kc.mt_p ?a ?i ?l ?c ?k; (case a => k_is); (case i => k_is); (case l => k_is); (case c => k_is); (case k => k_is))
    (case p_Reader_has_more => refine' Kc.mt_p ?a ?i ?l ?c ?k; (case a => k_is); (case i => k_is); (case l => k_is); (case c => k_is); (case k => k_is))
    (case p_Reader_take_number => refine' Kc.mt_p ?a ?i ?l ?c ?k; (case a => k_is); (case i => k_is); (case l => k_is); (case c => k_is); (case k => k_is))
    (case p_Reader_take_row => refine' Kc.mt_p ?a ?i ?l ?c ?k; (case a => k_is); (case i => k_is); (case l => k_is); (case c => k_is); (case k => k_is))
    (case p_add_clause => refine' Kc.fn_p ?a ?l ?c ?k; (case a => k_is); (case l => k_is); (case c => k_is); (case k => k_is))
    (case p_learn => refine' Kc.fn_p ?a ?l ?c ?k; (case a => k_is); (case l => k_is); (case c => k_is); (case k => k_is))
    (case p_decide => refine' Kc.fn_p ?a ?l ?c ?k; (case a => k_is); (case l => k_is); (case c => k_is); (case k => k_is))
    (case p_has_wrong_literal => refine' Kc.fn_p ?a ?l ?c ?k; (case a => k_is); (case l => k_is); (case c => k_is); (case k => k_is))
    (case p_is_told_both_ways => refine' Kc.fn_p ?a ?l ?c ?k; (case a => k_is); (case l => k_is); (case c => k_is); (case k => k_is))
    (case p_each_once => refine' Kc.fn_p ?a ?l ?c ?k; (case a => k_is); (case l => k_is); (case c => k_is); (case k => k_is))
    (case p_told_clauses => refine' Kc.fn_p ?a ?l ?c ?k; (case a => k_is); (case l => k_is); (case c => k_is); (case k => k_is))
    (case p_answer_start => refine' Kc.fn_p ?a ?l ?c ?k; (case a => k_is); (case l => k_is); (case c => k_is); (case k => k_is))
    (case p_answer_clause => refine' Kc.fn_p ?a ?l ?c ?k; (case a => k_is); (case l => k_is); (case c => k_is); (case k => k_is))
    (case p_answer_mark => refine' Kc.fn_p ?a ?l ?c ?k; (case a => k_is); (case l => k_is); (case c => k_is); (case k => k_is))
    (case p_answer_back => refine' Kc.fn_p ?a ?l ?c ?k; (case a => k_is); (case l => k_is); (case c => k_is); (case k => k_is))
    (case p_answer_decide => refine' Kc.fn_p ?a ?l ?c ?k; (case a => k_is); (case l => k_is); (case c => k_is); (case k => k_is))
    (case p_answer_learnt => refine' Kc.fn_p ?a ?l ?c ?k; (case a => k_is); (case l => k_is); (case c => k_is); (case k => k_is))
    (case p_answer_came => refine' Kc.fn_p ?a ?l ?c ?k; (case a => k_is); (case l => k_is); (case c => k_is); (case k => k_is))
    (case p_answer_forget => refine' Kc.fn_p ?a ?l ?c ?k; (case a => k_is); (case l => k_is); (case c => k_is); (case k => k_is))
    (case p_follows_by_steps => refine' Kc.fn_p ?a ?l ?c ?k; (case a => k_is); (case l => k_is); (case c => k_is); (case k => k_is))
    (case p_answer_steps => refine' Kc.fn_p ?a ?l ?c ?k; (case a => k_is); (case l => k_is); (case c => k_is); (case k => k_is))
    (case p_answer_order => refine' Kc.fn_p ?a ?l ?c ?k; (case a => k_is); (case l => k_is); (case c => k_is); (case k => k_is))
    (case p_answer_shows => refine' Kc.fn_p ?a ?l ?c ?k; (case a => k_is); (case l => k_is); (case c => k_is); (case k => k_is))
    (case p_answer_call => refine' Kc.fn_p ?a ?l ?c ?k; (case a => k_is); (case l => k_is); (case c => k_is); (case k => k_is))
    (case p_answers => refine' Kc.fn_p ?a ?l ?c ?k; (case a => k_is); (case l => k_is); (case c => k_is); (case k => k_is))
  case S =>
    intro K H xs a hO hwi hask hx
    cases hx with
    | cons h1 h2 =>
      cases h2
      cases h1 with
      | lst hs ha =>
        have e := L2.ints_dw a.1 _ ha
        subst e
        exact ⟨_, a.1, rfl, hs, hask, fun H' p hp => .lst (L2.SqL.of hp) (L2.dw_ints _)⟩
