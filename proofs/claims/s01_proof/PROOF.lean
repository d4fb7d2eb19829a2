import PyProof.Rows.All
import Wide.All
import OpenK.AllK
import Wide.FinOn
import Open.SpecLaws
import KE.OsGo
import KE.GoesEnumKw
import HandS.ForSpec
import HandS.Comp
import HandS.Iter
import HandS.Walk
import HandS.Deep
import PyProof.Rows.CallKwBuiltin
import PySem.Challenge.RW_stretches_s01_answers
set_option Elab.async false
/-! The mathematics: what is over before what, by paths, by the rounds of the specification, by the matrix of the program. -/
namespace Stt
open Or03
/-! ### lists -/
theorem filter_len_le {α : Type} {p q : α → Bool} : ∀ {l : List α}, (∀ x ∈ l, p x = true → q x = true) → (l.filter p).length ≤ (l.filter q).length
  | [], _ => Nat.le_refl _
  | a :: l, h => by
    have ih := filter_len_le (l := l) fun x hx => h x (List.mem_cons_of_mem _ hx)
    have ha := h a List.mem_cons_self
    by_cases c : p a = true
    · rw [List.filter_cons_of_pos c, List.filter_cons_of_pos (ha c), List.length_cons, List.length_cons]
      omega
    · rw [List.filter_cons_of_neg c]
      by_cases d : q a = true
      · rw [List.filter_cons_of_pos d, List.length_cons]
        omega
      · rw [List.filter_cons_of_neg d]
        exact ih
theorem filter_len_eq {α : Type} {p q : α → Bool} : ∀ {l : List α}, (∀ x ∈ l, p x = true → q x = true) → (l.filter q).length ≤ (l.filter p).length → l.filter p = l.filter q
  | [], _, _ => rfl
  | a :: l, h, e => by
    have hl : ∀ x ∈ l, p x = true → q x = true := fun x hx => h x (List.mem_cons_of_mem _ hx)
    have ha := h a List.mem_cons_self
    have le := filter_len_le hl
    by_cases c : p a = true
    · rw [List.filter_cons_of_pos c, List.filter_cons_of_pos (ha c)] at *
      rw [List.length_cons, List.length_cons] at e
      rw [filter_len_eq hl (by omega)]
    · rw [List.filter_cons_of_neg c] at *
      by_cases d : q a = true
      · rw [List.filter_cons_of_pos d, List.length_cons] at e
        omega
      · rw [List.filter_cons_of_neg d] at *
        exact filter_len_eq hl e
/-! ### things -/
theorem mem_things {o : Order} {x : Nat} : x ∈ things o ↔ 1 ≤ x ∧ x ≤ o.many := by
  unfold things
  rw [List.mem_map]
  constructor
  · rintro ⟨i, hi, rfl⟩
    rw [List.mem_range] at hi
    omega
  · rintro ⟨a, b⟩
    exact ⟨x - 1, List.mem_range.mpr (by omega), by omega⟩
theorem things_len (o : Order) : (things o).length = o.many := by
  unfold things
  rw [List.length_map, List.length_range]
theorem things_congr {o p : Order} (h : o.many = p.many) : things o = things p := by
  unfold things
  rw [h]
/-! ### paths -/
inductive TC (t : List (Nat × Nat)) : Nat → Nat → Prop
  | one {x y : Nat} : (x, y) ∈ t → TC t x y
  | more {x y z : Nat} : (x, y) ∈ t → TC t y z → TC t x z
theorem TC.trans {t : List (Nat × Nat)} {x y z : Nat} (h : TC t x y) (k : TC t y z) : TC t x z := by
  induction h with
  | one a => exact .more a k
  | more a _ ih => exact .more a (ih k)
theorem TC.mono {t u : List (Nat × Nat)} (s : ∀ p ∈ t, p ∈ u) {x y : Nat} (h : TC t x y) : TC u x y := by
  induction h with
  | one a => exact .one (s _ a)
  | more a _ ih => exact .more (s _ a) ih
theorem TC.first {t : List (Nat × Nat)} {x y : Nat} (h : TC t x y) : ∃ z, (x, z) ∈ t := by
  cases h with
  | one a => exact ⟨_, a⟩
  | more a _ => exact ⟨_, a⟩
theorem TC.last {t : List (Nat × Nat)} {x y : Nat} (h : TC t x y) : ∃ z, (z, y) ∈ t := by
  induction h with
  | one a => exact ⟨_, a⟩
  | more _ _ ih => exact ih
/-- what holds of the order between two calls -/
structure Good (o : Order) : Prop where
  lo : 1 ≤ o.many
  hi : o.many ≤ 8
  inn : ∀ p ∈ o.told, p.1 ∈ things o ∧ p.2 ∈ things o
  irr : ∀ x, ¬ TC o.told x x
/-! ### the rounds of the specification -/
def st (o : Order) (l : List Nat) : List Nat := (things o).filter fun y => l.contains y || l.any fun x => o.told.contains (x, y)
theorem up_succ (o : Order) (n : Nat) (l : List Nat) : up o (n + 1) l = up o n (st o l) := rfl
theorem mem_st {o : Order} {l : List Nat} {y : Nat} : y ∈ st o l ↔ y ∈ things o ∧ (y ∈ l ∨ ∃ x ∈ l, (x, y) ∈ o.told) := by
  unfold st
  rw [List.mem_filter, Bool.or_eq_true, List.contains_iff_mem, List.any_eq_true]
  constructor
  · rintro ⟨a, b⟩
    refine ⟨a, b.imp id ?_⟩
    rintro ⟨x, hx, k⟩
    exact ⟨x, hx, List.contains_iff_mem.mp k⟩
  · rintro ⟨a, b⟩
    refine ⟨a, b.imp id ?_⟩
    rintro ⟨x, hx, k⟩
    exact ⟨x, hx, List.contains_iff_mem.mpr k⟩
theorem up_fix {o : Order} {l : List Nat} (h : st o l = l) : ∀ n, up o n l = l
  | 0 => rfl
  | n + 1 => by
    rw [up_succ, h]
    exact up_fix h n
theorem up_sound {o : Order} : ∀ {n : Nat} {l : List Nat} {y : Nat}, y ∈ up o n l → ∃ x ∈ l, x = y ∨ TC o.told x y
  | 0, _, y, h => ⟨y, h, .inl rfl⟩
  | n + 1, l, y, h => by
    rw [up_succ] at h
    obtain ⟨z, hz, k⟩ := up_sound h
    rcases (mem_st.mp hz).2 with q | ⟨x, hx, q⟩
    · exact ⟨z, q, k⟩
    · refine ⟨x, hx, .inr ?_⟩
      rcases k with e | e
      · subst e
        exact .one q
      · exact .more q e
/-- lists that are things filtered -/
def Sub (o : Order) (l : List Nat) : Prop := ∃ p : Nat → Bool, l = (things o).filter p
theorem sub_st (o : Order) (l : List Nat) : Sub o (st o l) := ⟨_, rfl⟩
theorem st_eq_or {o : Order} {l : List Nat} (h : Sub o l) : st o l = l ∨ l.length < (st o l).length := by
  obtain ⟨p, rfl⟩ := h
  by_cases c : ((things o).filter p).length < (st o ((things o).filter p)).length
  · exact .inr c
  · refine .inl (Eq.symm ?_)
    unfold st
    refine filter_len_eq (fun x hx hp => ?_) (by unfold st at c; omega)
    rw [Bool.or_eq_true]
    exact .inl (List.contains_iff_mem.mpr (List.mem_filter.mpr ⟨hx, hp⟩))
theorem up_closed {o : Order} : ∀ {n : Nat} {l : List Nat}, Sub o l → o.many ≤ n + l.length → st o (up o n l) = up o n l
  | 0, l, s, h => by
    show st o l = l
    rcases st_eq_or s with e | e
    · exact e
    · obtain ⟨q, hq⟩ := sub_st o l
      have := List.length_filter_le q (things o)
      rw [← hq, things_len] at this
      omega
  | n + 1, l, s, h => by
    rw [up_succ]
    rcases st_eq_or s with e | e
    · rw [e, up_fix e, e]
    · exact up_closed (sub_st o l) (by omega)
theorem up_all {o : Order} {x : Nat} (hn : 1 ≤ o.many) (hx : x ∈ things o) : st o (up o o.many [x]) = up o o.many [x] ∧ x ∈ up o o.many [x] := by
  obtain ⟨n, e⟩ : ∃ n, o.many = n + 1 := ⟨o.many - 1, by omega⟩
  have m1 : x ∈ st o [x] := mem_st.mpr ⟨hx, .inl List.mem_cons_self⟩
  have l1 : 1 ≤ (st o [x]).length := List.length_pos_of_mem m1
  have grow : ∀ (n : Nat) (l : List Nat), x ∈ l → x ∈ up o n l := by
    intro n
    induction n with
    | zero => exact fun _ h => h
    | succ n ih => exact fun l h => ih (st o l) (mem_st.mpr ⟨hx, .inl h⟩)
  constructor
  · rw [e, up_succ]
    exact up_closed (sub_st o [x]) (by omega)
  · exact grow _ _ List.mem_cons_self
theorem mem_up {o : Order} (g : Good o) {x y : Nat} (hx : x ∈ things o) : y ∈ up o o.many [x] ↔ x = y ∨ TC o.told x y := by
  obtain ⟨hc, hm⟩ := up_all g.lo hx
  constructor
  · intro h
    obtain ⟨z, hz, k⟩ := up_sound h
    rw [List.mem_singleton] at hz
    subst hz
    exact k
  · intro h
    have close : ∀ {a b : Nat}, TC o.told a b → a ∈ up o o.many [x] → b ∈ up o o.many [x] := by
      intro a b t
      induction t with
      | one q =>
        intro ha
        rw [← hc]
        exact mem_st.mpr ⟨(g.inn _ q).2, .inr ⟨_, ha, q⟩⟩
      | more q _ ih =>
        intro ha
        refine ih ?_
        rw [← hc]
        exact mem_st.mpr ⟨(g.inn _ q).2, .inr ⟨_, ha, q⟩⟩
    rcases h with e | e
    · subst e
      exact hm
    · exact close e hm
theorem below_iff {o : Order} (g : Good o) {x y : Nat} (hx : x ∈ things o) : below o x y = true ↔ TC o.told x y := by
  unfold below
  rw [Bool.and_eq_true, List.contains_iff_mem, mem_up g hx, bne_iff_ne]
  constructor
  · rintro ⟨a, b | b⟩
    · exact absurd b a
    · exact b
  · intro h
    refine ⟨fun e => ?_, .inr h⟩
    subst e
    exact g.irr _ h
/-! ### the matrix of the program -/
abbrev Mat := Nat → Nat → Bool
def phase (M : Mat) (k : Nat) : Mat := fun x y => M x y || (M x k && M k y)
def mat0 (t : List (Nat × Nat)) : Mat := fun x y => t.contains (x, y)
def phases (M : Mat) (n : Nat) : Mat := (List.range n).foldl (fun M i => phase M (i + 1)) M
theorem phases_zero (M : Mat) : phases M 0 = M := rfl
theorem phases_succ (M : Mat) (n : Nat) : phases M (n + 1) = phase (phases M n) (n + 1) := by
  unfold phases
  rw [List.range_succ, List.foldl_append]
  rfl
theorem phase_row (M : Mat) (k x : Nat) : phase M k x k = M x k := by
  unfold phase
  cases M x k <;> simp
theorem phase_col (M : Mat) (k y : Nat) : phase M k k y = M k y := by
  unfold phase
  cases M k y <;> simp
theorem phase_iff {M : Mat} {k x y : Nat} : phase M k x y = true ↔ M x y = true ∨ (M x k = true ∧ M k y = true) := by
  unfold phase
  rw [Bool.or_eq_true, Bool.and_eq_true]
/-- closed through the things up to k -/
def Thru (M : Mat) (k : Nat) : Prop := ∀ j x y, 1 ≤ j → j ≤ k → M x j = true → M j y = true → M x y = true
theorem thru_phase {M : Mat} {k : Nat} (h : Thru M k) : Thru (phase M (k + 1)) (k + 1) := by
  intro j x y h1 h2 a b
  by_cases e : j = k + 1
  · subst e
    rw [phase_row] at a
    rw [phase_col] at b
    exact phase_iff.mpr (.inr ⟨a, b⟩)
  · have hj : j ≤ k := by omega
    rcases phase_iff.mp a with a | ⟨a1, a2⟩ <;> rcases phase_iff.mp b with b | ⟨b1, b2⟩
    · exact phase_iff.mpr (.inl (h j x y h1 hj a b))
    · exact phase_iff.mpr (.inr ⟨h j x _ h1 hj a b1, b2⟩)
    · exact phase_iff.mpr (.inr ⟨a1, h j _ y h1 hj a2 b⟩)
    · exact phase_iff.mpr (.inr ⟨a1, b2⟩)
theorem thru_phases (M : Mat) : ∀ n, Thru (phases M n) n
  | 0 => fun j _ _ h1 h2 => by omega
  | n + 1 => by
    rw [phases_succ]
    exact thru_phase (thru_phases M n)
theorem phases_ge {M : Mat} {x y : Nat} (h : M x y = true) : ∀ n, phases M n x y = true
  | 0 => h
  | n + 1 => by
    rw [phases_succ]
    exact phase_iff.mpr (.inl (phases_ge h n))
theorem phases_sound {t : List (Nat × Nat)} : ∀ {n x y : Nat}, phases (mat0 t) n x y = true → TC t x y
  | 0, x, y, h => .one (List.contains_iff_mem.mp h)
  | n + 1, x, y, h => by
    rw [phases_succ] at h
    rcases phase_iff.mp h with a | ⟨a, b⟩
    · exact phases_sound a
    · exact (phases_sound a).trans (phases_sound b)
theorem phases_iff {o : Order} (g : ∀ p ∈ o.told, p.1 ∈ things o ∧ p.2 ∈ things o) {x y : Nat} : phases (mat0 o.told) o.many x y = true ↔ TC o.told x y := by
  refine ⟨phases_sound, fun h => ?_⟩
  induction h with
  | one a => exact phases_ge (List.contains_iff_mem.mpr a) _
  | @more x y z a _ ih =>
    have hy := mem_things.mp (g _ a).2
    exact thru_phases _ _ y x z hy.1 hy.2 (phases_ge (List.contains_iff_mem.mpr a) _) ih
/-- what is over before what, as the program has it -/
def rel (o : Order) : Mat := phases (mat0 o.told) o.many
theorem rel_iff {o : Order} (g : Good o) {x y : Nat} : rel o x y = true ↔ TC o.told x y := phases_iff g.inn
theorem rel_below {o : Order} (g : Good o) {x y : Nat} (hx : x ∈ things o) : rel o x y = below o x y := by
  rw [Bool.eq_iff_iff, rel_iff g, below_iff g hx]
theorem rel_trans {o : Order} (g : Good o) {x y z : Nat} (h : rel o x y = true) (k : rel o y z = true) : rel o x z = true :=
  (rel_iff g).mpr (((rel_iff g).mp h).trans ((rel_iff g).mp k))
theorem rel_irr {o : Order} (g : Good o) (x : Nat) : rel o x x = false := by
  cases e : rel o x x with
  | false => rfl
  | true => exact absurd ((rel_iff g).mp e) (g.irr x)
theorem rel_in {o : Order} (g : Good o) {x y : Nat} (h : rel o x y = true) : x ∈ things o ∧ y ∈ things o := by
  have t := (rel_iff g).mp h
  obtain ⟨a, ha⟩ := t.first
  obtain ⟨b, hb⟩ := t.last
  exact ⟨(g.inn _ ha).1, (g.inn _ hb).2⟩
theorem below_rel {o : Order} (g : Good o) {x y : Nat} (hx : x ∈ things o) : below o x y = rel o x y := (rel_below g hx).symm
end Stt
set_option Elab.async false
/-! The stretches: the mirror's sets and spans are the specification's; they tell the order just if the sets are a chain. -/
namespace Stt
open Or03
def th (n : Nat) : List Nat := (List.range n).map fun i => i + 1
theorem th_things (o : Order) : th o.many = things o := rfl
theorem mem_th {n x : Nat} : x ∈ th n ↔ 1 ≤ x ∧ x ≤ n := mem_things (o := ⟨n, []⟩)
def befM (n : Nat) (R : Mat) (t : Nat) : List Nat := (th n).filter fun x => R x t
def setsM (n : Nat) (R : Mat) : List (List Nat) := distinct ((th n).map (befM n R))
def lessM (a b : List Nat) : Bool := decide (a.length < b.length) && a.all b.contains
def spanM (n : Nat) (R : Mat) (t : Nat) : Nat × Nat :=
  (((setsM n R).filter fun s => lessM s (befM n R t)).length + 1, ((setsM n R).filter fun s => !s.contains t).length)
def tellsM (n : Nat) (R : Mat) : Bool := (th n).all fun x => (th n).all fun y => R x y == decide ((spanM n R x).2 < (spanM n R y).1)
/-! ### each set once -/
theorem distinct_from (l : List (List Nat)) : ∀ r : List (List Nat), r.Nodup → (l.foldl (fun r a => if r.contains a = true then r else r ++ [a]) r).Nodup ∧ ∀ s, s ∈ l.foldl (fun r a => if r.contains a = true then r else r ++ [a]) r ↔ s ∈ r ∨ s ∈ l := by
  induction l with
  | nil => exact fun r h => ⟨h, fun s => by simp⟩
  | cons a l ih =>
    intro r h
    rw [List.foldl_cons]
    by_cases c : r.contains a = true
    · rw [if_pos c]
      refine ⟨(ih r h).1, fun s => ?_⟩
      rw [(ih r h).2, List.mem_cons]
      have := List.contains_iff_mem.mp c
      constructor
      · rintro (q | q)
        · exact .inl q
        · exact .inr (.inr q)
      · rintro (q | q | q)
        · exact .inl q
        · subst q
          exact .inl this
        · exact .inr q
    · rw [if_neg c]
      have hn : a ∉ r := fun q => c (List.contains_iff_mem.mpr q)
      have nd : (r ++ [a]).Nodup := by
        rw [List.nodup_append]
        refine ⟨h, by simp, fun x hx y hy => ?_⟩
        rw [List.mem_singleton] at hy
        subst hy
        intro e
        subst e
        exact hn hx
      refine ⟨(ih _ nd).1, fun s => ?_⟩
      rw [(ih _ nd).2, List.mem_append, List.mem_singleton, List.mem_cons, or_assoc]
theorem distinct_nodup (l : List (List Nat)) : (distinct l).Nodup := (distinct_from l [] List.nodup_nil).1
theorem mem_distinct {l : List (List Nat)} {s : List Nat} : s ∈ distinct l ↔ s ∈ l := by
  unfold distinct
  rw [(distinct_from l [] List.nodup_nil).2]
  simp
section
variable {n : Nat} {R : Mat}
theorem mem_befM {x t : Nat} : x ∈ befM n R t ↔ x ∈ th n ∧ R x t = true := List.mem_filter
theorem mem_setsM {s : List Nat} : s ∈ setsM n R ↔ ∃ t ∈ th n, befM n R t = s := by
  unfold setsM
  rw [mem_distinct, List.mem_map]
theorem bef_in {t : Nat} (h : t ∈ th n) : befM n R t ∈ setsM n R := mem_setsM.mpr ⟨t, h, rfl⟩
theorem within_bef {a b : Nat} : within (befM n R a) (befM n R b) = true ↔ ∀ x ∈ th n, R x a = true → R x b = true := by
  unfold within
  rw [List.all_eq_true]
  constructor
  · intro h x hx ha
    exact (mem_befM.mp (List.contains_iff_mem.mp (h x (mem_befM.mpr ⟨hx, ha⟩)))).2
  · intro h x hx
    obtain ⟨h1, h2⟩ := mem_befM.mp hx
    exact List.contains_iff_mem.mpr (mem_befM.mpr ⟨h1, h x h1 h2⟩)
/-- less by length, or by being another -/
theorem less_bef {a b : Nat} : lessM (befM n R a) (befM n R b) = (within (befM n R a) (befM n R b) && befM n R a != befM n R b) := by
  rw [Bool.eq_iff_iff]
  unfold lessM
  show (decide _ && within (befM n R a) (befM n R b)) = true ↔ _
  rw [Bool.and_eq_true, Bool.and_eq_true, decide_eq_true_iff, bne_iff_ne]
  constructor
  · rintro ⟨h, k⟩
    refine ⟨k, fun e => ?_⟩
    rw [e] at h
    omega
  · rintro ⟨k, h⟩
    refine ⟨?_, k⟩
    have w := within_bef.mp k
    refine Nat.lt_of_not_le fun q => h ?_
    exact filter_len_eq w q
end
theorem count_not {α : Type} (p : α → Bool) : ∀ l : List α, (l.filter fun x => !p x).length = l.length - (l.filter p).length
  | [] => rfl
  | a :: l => by
    have ih := count_not p l
    have le := List.length_filter_le p l
    cases c : p a with
    | true =>
      rw [List.filter_cons_of_neg (by simp [c]), List.filter_cons_of_pos c, List.length_cons, List.length_cons, ih]
      omega
    | false =>
      rw [List.filter_cons_of_pos (by simp [c]), List.filter_cons_of_neg (by simp [c]), List.length_cons, List.length_cons, ih]
      omega
/-! ### the mirror is the specification -/
section
variable {o : Order} (g : Good o)
include g
theorem befM_before (t : Nat) : befM o.many (rel o) t = before o t := by
  unfold befM before
  rw [th_things]
  exact List.filter_congr fun x hx => rel_below g hx
theorem setsM_befores : setsM o.many (rel o) = befores o := by
  unfold setsM befores
  rw [th_things, show befM o.many (rel o) = before o from funext (befM_before g)]
theorem spanM_begins {t : Nat} : (spanM o.many (rel o) t).1 = begins o t := by
  unfold spanM begins
  show List.length _ + 1 = _
  rw [Nat.add_comm, ← setsM_befores g, ← befM_before g]
  congr 2
  refine List.filter_congr fun s hs => ?_
  obtain ⟨a, _, rfl⟩ := mem_setsM.mp hs
  exact less_bef
theorem spanM_ends {t : Nat} : (spanM o.many (rel o) t).2 = ends o t := by
  unfold spanM ends
  show List.length _ = _
  rw [setsM_befores g]
  exact count_not _ _
end
/-! ### they tell the order just if the sets are a chain -/
section
variable {n : Nat} {R : Mat}
theorem tells_iff : tellsM n R = true ↔ ∀ x ∈ th n, ∀ y ∈ th n, (R x y = true ↔ (spanM n R x).2 < (spanM n R y).1) := by
  unfold tellsM
  rw [List.all_eq_true]
  constructor
  · intro h x hx y hy
    have k := h x hx
    rw [List.all_eq_true] at k
    have e := k y hy
    rw [beq_iff_eq] at e
    rw [e, decide_eq_true_iff]
  · intro h x hx
    rw [List.all_eq_true]
    intro y hy
    rw [beq_iff_eq, Bool.eq_iff_iff, decide_eq_true_iff]
    exact h x hx y hy
def chainM (n : Nat) (R : Mat) : Bool := (setsM n R).all fun s => (setsM n R).all fun t => within s t || within t s
theorem chain_iff : chainM n R = true ↔ ∀ a ∈ th n, ∀ b ∈ th n, (∀ x ∈ th n, R x a = true → R x b = true) ∨ (∀ x ∈ th n, R x b = true → R x a = true) := by
  unfold chainM
  rw [List.all_eq_true]
  constructor
  · intro h a ha b hb
    have k := h _ (bef_in ha)
    rw [List.all_eq_true] at k
    have e := k _ (bef_in hb)
    rw [Bool.or_eq_true, within_bef, within_bef] at e
    exact e
  · intro h s hs
    rw [List.all_eq_true]
    intro t ht
    obtain ⟨a, ha, rfl⟩ := mem_setsM.mp hs
    obtain ⟨b, hb, rfl⟩ := mem_setsM.mp ht
    rw [Bool.or_eq_true, within_bef, within_bef]
    exact h a ha b hb
theorem lt_filter {α : Type} {p q : α → Bool} {l : List α} (h : ∀ x ∈ l, p x = true → q x = true) {z : α} (hz : z ∈ l) (h1 : p z = false) (h2 : q z = true) : (l.filter p).length < (l.filter q).length := by
  refine Nat.lt_of_not_le fun k => ?_
  have e := filter_len_eq h k
  have m : z ∈ l.filter q := List.mem_filter.mpr ⟨hz, h2⟩
  rw [← e, List.mem_filter, h1] at m
  cases m.2
theorem tells_chain : tellsM n R = chainM n R := by
  rw [Bool.eq_iff_iff]
  constructor
  · intro h
    have t := tells_iff.mp h
    rw [chain_iff]
    intro a ha b hb
    by_cases c : ∀ x ∈ th n, R x a = true → R x b = true
    · exact .inl c
    · refine .inr fun y hy yb => ?_
      rw [Classical.not_forall] at c
      obtain ⟨x, c⟩ := c
      rw [Classical.not_imp, Classical.not_imp] at c
      obtain ⟨hx, xa, xb⟩ := c
      cases ya : R y a with
      | true => rfl
      | false =>
        have t1 := (t x hx a ha).mp xa
        have t2 : ¬ _ := fun k => xb ((t x hx b hb).mpr k)
        have t3 := (t y hy b hb).mp yb
        have t4 : ¬ _ := fun k => absurd ((t y hy a ha).mpr k) (by rw [ya]; decide)
        omega
  · intro h
    have c := chain_iff.mp h
    rw [tells_iff]
    intro x hx y hy
    have e1 : (spanM n R x).2 = ((setsM n R).filter fun s => !s.contains x).length := rfl
    have e2 : (spanM n R y).1 = ((setsM n R).filter fun s => lessM s (befM n R y)).length + 1 := rfl
    rw [e1, e2]
    cases q : R x y with
    | true =>
      refine ⟨fun _ => Nat.lt_succ_of_le (filter_len_le fun s hs k => ?_), fun _ => rfl⟩
      obtain ⟨b, hb, rfl⟩ := mem_setsM.mp hs
      have xb : ¬ R x b = true := fun z => by
        have : x ∈ befM n R b := mem_befM.mpr ⟨hx, z⟩
        rw [List.contains_iff_mem.mpr this] at k
        cases k
      rw [less_bef, Bool.and_eq_true, within_bef, bne_iff_ne]
      constructor
      · rcases c b hb y hy with d | d
        · exact d
        · exact absurd (d x hx q) xb
      · intro e
        have : x ∈ befM n R y := mem_befM.mpr ⟨hx, q⟩
        rw [← e] at this
        exact xb (mem_befM.mp this).2
    | false =>
      refine ⟨fun z => (by cases z), fun z => ?_⟩
      have lt : ((setsM n R).filter fun s => lessM s (befM n R y)).length < ((setsM n R).filter fun s => !s.contains x).length := by
        have ny : x ∉ befM n R y := fun z => by
          have := (mem_befM.mp z).2
          rw [q] at this
          cases this
        refine lt_filter (fun s hs k => ?_) (bef_in hy) ?_ ?_
        · obtain ⟨b, hb, rfl⟩ := mem_setsM.mp hs
          rw [less_bef, Bool.and_eq_true, within_bef] at k
          have nb : x ∉ befM n R b := fun z => ny (mem_befM.mpr ⟨hx, k.1 x hx (mem_befM.mp z).2⟩)
          rw [Bool.not_eq_true']
          exact Bool.eq_false_iff.mpr fun z => nb (List.contains_iff_mem.mp z)
        · unfold lessM
          rw [decide_eq_false (Nat.lt_irrefl _), Bool.false_and]
        · rw [Bool.not_eq_true']
          exact Bool.eq_false_iff.mpr fun z => ny (List.contains_iff_mem.mp z)
      omega
end
theorem tells_stretches {o : Order} (g : Good o) : tellsM o.many (rel o) = stretches o := by
  rw [tells_chain]
  unfold chainM stretches
  rw [setsM_befores g]
end Stt
set_option Elab.async false
/-! What holds between two calls is kept by each call. -/
namespace Stt
open Or03
theorem tc_nil {x y : Nat} (h : TC [] x y) : False := by
  obtain ⟨z, hz⟩ := h.first
  cases hz
theorem good_things {n : Nat} (h1 : 1 ≤ n) (h8 : n ≤ 8) : Good ⟨n, []⟩ := ⟨h1, h8, fun p h => (by cases h), fun x h => tc_nil h⟩
theorem good_init : Good Or03.init := good_things (Nat.le_refl _) (by decide)
theorem step_over (o : Order) (x y : Nat) : Or03.step o (.over x y) = if isThing o x = false ∨ isThing o y = false ∨ x = y then (o, [-1]) else if below o y x = true then (o, [-6]) else if below o x y = true then (o, [-4]) else ({ o with told := o.told ++ [(x, y)] }, Or03.ints [(Or03.pairs { o with told := o.told ++ [(x, y)] }).length]) := rfl
theorem tc_snoc {t : List (Nat × Nat)} {x y a b : Nat} (h : TC (t ++ [(x, y)]) a b) : TC t a b ∨ ((a = x ∨ TC t a x) ∧ (b = y ∨ TC t y b)) := by
  induction h with
  | @one a b q =>
    rw [List.mem_append, List.mem_singleton] at q
    rcases q with q | q
    · exact .inl (.one q)
    · cases q
      exact .inr ⟨.inl rfl, .inl rfl⟩
  | @more a c b q _ ih =>
    rw [List.mem_append, List.mem_singleton] at q
    rcases q with q | q
    · rcases ih with k | ⟨k1, k2⟩
      · exact .inl (.more q k)
      · refine .inr ⟨.inr ?_, k2⟩
        rcases k1 with e | e
        · subst e
          exact .one q
        · exact .more q e
    · cases q
      rcases ih with k | ⟨k1, k2⟩
      · exact .inr ⟨.inl rfl, .inr k⟩
      · exact .inr ⟨.inl rfl, k2⟩
theorem good_over {o : Order} (g : Good o) {x y : Nat} (hx : x ∈ things o) (hy : y ∈ things o) (ne : x ≠ y) (nb : below o y x = false) : Good { o with told := o.told ++ [(x, y)] } := by
  have nt : ¬ TC o.told y x := fun t => by
    rw [(below_iff g hy).mpr t] at nb
    cases nb
  refine ⟨g.lo, g.hi, fun p hp => ?_, fun z t => ?_⟩
  · rw [List.mem_append, List.mem_singleton] at hp
    rcases hp with q | q
    · exact g.inn p q
    · subst q
      exact ⟨hx, hy⟩
  · rcases tc_snoc t with k | ⟨k1, k2⟩
    · exact g.irr z k
    · rcases k1 with e | e <;> rcases k2 with d | d
      · subst e
        exact ne d
      · subst e
        exact nt d
      · subst d
        exact nt e
      · exact nt (d.trans e)
theorem good_undo {o : Order} (g : Good o) : Good { o with told := o.told.dropLast } :=
  ⟨g.lo, g.hi, fun p hp => g.inn p (List.dropLast_subset _ hp), fun z t => g.irr z (t.mono fun _ h => List.dropLast_subset _ h)⟩
theorem tc_turn {t : List (Nat × Nat)} {x y : Nat} (h : TC (t.map fun p => (p.2, p.1)) x y) : TC t y x := by
  have m : ∀ {a b : Nat}, (a, b) ∈ t.map (fun p => (p.2, p.1)) → (b, a) ∈ t := by
    intro a b q
    rw [List.mem_map] at q
    obtain ⟨⟨c, d⟩, hp, e⟩ := q
    cases e
    exact hp
  induction h with
  | one q => exact .one (m q)
  | more q _ ih => exact ih.trans (.one (m q))
theorem good_turn {o : Order} (g : Good o) : Good { o with told := o.told.map fun p => (p.2, p.1) } := by
  refine ⟨g.lo, g.hi, fun p hp => ?_, fun z t => g.irr z (tc_turn t)⟩
  obtain ⟨q, hq, e⟩ := List.mem_map.mp hp
  subst e
  exact ⟨(g.inn q hq).2, (g.inn q hq).1⟩
theorem spans_le : ∀ {l : List Nat} {s : List (Nat × Nat)}, Or03.spans l = some s → ∀ p ∈ s, p.1 ≤ p.2
  | [], s, h, p, hp => by
    cases h
    cases hp
  | [a], s, h, p, hp => by cases h
  | a :: b :: l, s, h, p, hp => by
    unfold Or03.spans at h
    by_cases c : a ≤ b ∧ b ≤ 100000
    · rw [if_pos c] at h
      cases e : Or03.spans l with
      | none =>
        rw [e] at h
        cases h
      | some r =>
        rw [e] at h
        have e2 : (a, b) :: r = s := Option.some.inj h
        subst e2
        rcases List.mem_cons.mp hp with q | q
        · subst q
          exact c.1
        · exact spans_le e p q
    · rw [if_neg c] at h
      cases h
theorem mem_ofSpans {s : List (Nat × Nat)} {p : Nat × Nat} : p ∈ (ofSpans s).told ↔ ∃ i j, i < s.length ∧ j < s.length ∧ (s.getD i (0, 0)).2 < (s.getD j (0, 0)).1 ∧ p = (i + 1, j + 1) := by
  unfold ofSpans
  simp only [List.mem_flatMap, List.mem_map, List.mem_filter, List.mem_range, decide_eq_true_iff]
  constructor
  · rintro ⟨i, hi, j, ⟨hj, c⟩, e⟩
    exact ⟨i, j, hi, hj, c, e.symm⟩
  · rintro ⟨i, j, hi, hj, c, e⟩
    exact ⟨i, hi, j, ⟨hj, c⟩, e.symm⟩
theorem good_told {l : List Nat} {s : List (Nat × Nat)} (h : Or03.spans l = some s) (h0 : s ≠ []) (h8 : s.length ≤ 8) : Good (ofSpans s) := by
  have le := spans_le h
  have m : (ofSpans s).many = s.length := rfl
  have lt : ∀ {x y : Nat}, TC (ofSpans s).told x y → (s.getD (x - 1) (0, 0)).2 < (s.getD (y - 1) (0, 0)).1 := by
    intro x y t
    induction t with
    | one q =>
      obtain ⟨i, j, _, _, c, e⟩ := mem_ofSpans.mp q
      cases e
      exact c
    | more q _ ih =>
      obtain ⟨i, j, hi, hj, c, e⟩ := mem_ofSpans.mp q
      cases e
      have k := le (s.getD j (0, 0)) (by
        rw [List.getD_eq_getElem?_getD, List.getElem?_eq_getElem hj]
        exact List.getElem_mem hj)
      rw [Nat.add_sub_cancel] at *
      omega
  refine ⟨?_, h8, fun p hp => ?_, fun x t => ?_⟩
  · rw [m]
    exact List.length_pos_iff.mpr h0
  · obtain ⟨i, j, hi, hj, _, e⟩ := mem_ofSpans.mp hp
    subst e
    rw [mem_things, mem_things, m]
    constructor <;> constructor <;> show _ ≤ _ <;> simp <;> omega
  · have k := lt t
    obtain ⟨z, hz⟩ := t.first
    obtain ⟨i, j, hi, hj, c, e⟩ := mem_ofSpans.mp hz
    cases e
    have := le (s.getD i (0, 0)) (by
        rw [List.getD_eq_getElem?_getD, List.getElem?_eq_getElem hi]
        exact List.getElem_mem hi)
    rw [Nat.add_sub_cancel] at k
    omega
/-- each call keeps what holds -/
theorem good_step {o : Order} (g : Good o) (c : Call) : Good (Or03.step o c).1 := by
  cases c with
  | things n =>
    show Good (if n = 0 ∨ 8 < n then (o, [-1]) else (⟨n, []⟩, [0])).1
    by_cases c : n = 0 ∨ 8 < n
    · rw [if_pos c]
      exact g
    · rw [if_neg c]
      exact good_things (by omega) (by omega)
  | over x y =>
    rw [step_over]
    by_cases c : isThing o x = false ∨ isThing o y = false ∨ x = y
    · rw [if_pos c]
      exact g
    · rw [if_neg c]
      by_cases c2 : below o y x = true
      · rw [if_pos c2]
        exact g
      · rw [if_neg c2]
        by_cases c3 : below o x y = true
        · rw [if_pos c3]
          exact g
        · rw [if_neg c3]
          have tt : ∀ z, ¬ isThing o z = false → z ∈ things o := fun z hz => by
            rw [Bool.not_eq_false, isThing, Bool.and_eq_true, decide_eq_true_iff, decide_eq_true_iff] at hz
            exact mem_things.mpr hz
          refine good_over g (tt x fun z => c (.inl z)) (tt y fun z => c (.inr (.inl z))) (fun z => c (.inr (.inr z))) ?_
          exact Bool.eq_false_iff.mpr c2
  | undo =>
    unfold Or03.step
    by_cases c : o.told = []
    · rw [if_pos c]
      exact g
    · rw [if_neg c]
      exact good_undo g
  | told l =>
    unfold Or03.step
    show Good (match Or03.spans l with
      | none => (o, [-1])
      | some s => if s.isEmpty = true ∨ 8 < s.length then (o, [-1]) else (ofSpans s, pairRow (Or03.pairs (ofSpans s)))).1
    cases e : Or03.spans l with
    | none => exact g
    | some s =>
      show Good (if s.isEmpty = true ∨ 8 < s.length then (o, [-1]) else (ofSpans s, pairRow (Or03.pairs (ofSpans s)))).1
      by_cases c : s.isEmpty = true ∨ 8 < s.length
      · rw [if_pos c]
        exact g
      · rw [if_neg c]
        refine good_told e (fun z => c (.inl ?_)) (by omega)
        subst z
        rfl
  | turn => exact good_turn g
  | stretches => exact g
  | at_ t => exact g
  | long => exact g
  | twoTwo => exact g
  | threeOne => exact g
  | pairs => exact g
  | crowd => exact g
end Stt
set_option Elab.async false
/-! Stretches told by a list of begins and ends. -/
namespace Stt
def pairUp : List Nat → List (Nat × Nat)
  | a :: b :: l => (a, b) :: pairUp l
  | _ => []
theorem pairUp_len : ∀ l : List Nat, (pairUp l).length = l.length / 2
  | [] => rfl
  | [_] => by simp [pairUp]
  | a :: b :: l => by
    show (pairUp l).length + 1 = (l.length + 1 + 1) / 2
    rw [pairUp_len l]
    omega
theorem pairUp_get : ∀ {l : List Nat} {i a b : Nat}, l[2 * i]? = some a → l[2 * i + 1]? = some b → (pairUp l)[i]? = some (a, b)
  | [], i, a, b, h, _ => by
    rw [List.getElem?_nil] at h
    cases h
  | [x], 0, a, b, _, h => by
    rw [show 2 * 0 + 1 = 0 + 1 by omega, List.getElem?_cons_succ, List.getElem?_nil] at h
    cases h
  | [x], i + 1, a, b, h, _ => by
    rw [show 2 * (i + 1) = (2 * i + 1) + 1 by omega, List.getElem?_cons_succ, List.getElem?_nil] at h
    cases h
  | x :: y :: l, 0, a, b, h, k => by
    have e1 : x = a := Option.some.inj h
    have e2 : y = b := Option.some.inj k
    rw [← e1, ← e2]
    rfl
  | x :: y :: l, i + 1, a, b, h, k => by
    rw [show 2 * (i + 1) = (2 * i + 1) + 1 by omega, List.getElem?_cons_succ, List.getElem?_cons_succ] at h
    rw [show 2 * (i + 1) + 1 = (2 * i + 1 + 1) + 1 by omega, List.getElem?_cons_succ, List.getElem?_cons_succ] at k
    exact pairUp_get (l := l) (i := i) h k
theorem pairUp_mem : ∀ {l : List Nat} {v : Nat}, l.length % 2 = 0 → v ∈ l → ∃ p ∈ pairUp l, v = p.1 ∨ v = p.2
  | [], v, _, h => by cases h
  | [x], v, e, _ => by
    exfalso
    simp at e
  | x :: y :: l, v, e, h => by
    rcases List.mem_cons.mp h with z | h
    · exact ⟨(x, y), List.mem_cons_self, .inl z⟩
    · rcases List.mem_cons.mp h with z | h
      · exact ⟨(x, y), List.mem_cons_self, .inr z⟩
      · obtain ⟨p, hp, z⟩ := pairUp_mem (l := l) (by simp only [List.length_cons] at e; omega) h
        exact ⟨p, List.mem_cons_of_mem _ hp, z⟩
def SpOk (l : List Nat) : Prop := l.length % 2 = 0 ∧ ∀ p ∈ pairUp l, p.1 ≤ p.2 ∧ p.2 ≤ 100000
theorem spans_some : ∀ {l : List Nat}, SpOk l → Or03.spans l = some (pairUp l)
  | [], _ => rfl
  | [x], h => by
    have := h.1
    simp at this
  | x :: y :: l, h => by
    have c := h.2 (x, y) List.mem_cons_self
    have ih : Or03.spans l = some (pairUp l) := spans_some ⟨by have := h.1; simp only [List.length_cons] at this; omega, fun p hp => h.2 p (List.mem_cons_of_mem _ hp)⟩
    unfold Or03.spans
    rw [if_pos c, ih]
    rfl
theorem spans_ok : ∀ {l : List Nat} {s : List (Nat × Nat)}, Or03.spans l = some s → SpOk l
  | [], s, _ => ⟨rfl, fun p hp => by cases hp⟩
  | [x], s, h => by cases h
  | x :: y :: l, s, h => by
    unfold Or03.spans at h
    by_cases c : x ≤ y ∧ y ≤ 100000
    · rw [if_pos c] at h
      cases e : Or03.spans l with
      | none =>
        rw [e] at h
        cases h
      | some r =>
        have ih := spans_ok e
        refine ⟨by have := ih.1; simp only [List.length_cons]; omega, fun p hp => ?_⟩
        rcases List.mem_cons.mp hp with z | z
        · rw [z]
          exact c
        · exact ih.2 p z
    · rw [if_neg c] at h
      cases h
theorem spans_none {l : List Nat} (h : ¬ SpOk l) : Or03.spans l = none := by
  cases e : Or03.spans l with
  | none => rfl
  | some s => exact absurd (spans_ok e) h
/-- told takes the list -/
def Takes2 (l : List Nat) : Prop := SpOk l ∧ l.length ≠ 0 ∧ l.length ≤ 16
theorem step_told_no {x : Or03.Order} {l : List Nat} (h : ¬ Takes2 l) : Or03.step x (.told l) = (x, [-1]) := by
  show (match Or03.spans l with
    | none => (x, [-1])
    | some s => if s.isEmpty = true ∨ 8 < s.length then (x, [-1]) else (Or03.ofSpans s, Or03.pairRow (Or03.pairs (Or03.ofSpans s)))) = _
  by_cases c : SpOk l
  · rw [spans_some c]
    show (if (pairUp l).isEmpty = true ∨ 8 < (pairUp l).length then _ else _) = _
    have e := pairUp_len l
    have ev := c.1
    rw [if_pos]
    by_cases z : l.length = 0
    · left
      rw [List.isEmpty_iff]
      exact List.length_eq_zero_iff.mp (by omega)
    · right
      have : ¬ l.length ≤ 16 := fun k => h ⟨c, z, k⟩
      omega
  · rw [spans_none c]
theorem step_told_yes {x : Or03.Order} {l : List Nat} (h : Takes2 l) : Or03.step x (.told l) = (Or03.ofSpans (pairUp l), Or03.pairRow (Or03.pairs (Or03.ofSpans (pairUp l)))) := by
  show (match Or03.spans l with
    | none => (x, [-1])
    | some s => if s.isEmpty = true ∨ 8 < s.length then (x, [-1]) else (Or03.ofSpans s, Or03.pairRow (Or03.pairs (Or03.ofSpans s)))) = _
  rw [spans_some h.1]
  show (if (pairUp l).isEmpty = true ∨ 8 < (pairUp l).length then _ else _) = _
  have e := pairUp_len l
  have ev := h.1.1
  rw [if_neg]
  rintro (z | z)
  · rw [List.isEmpty_iff] at z
    rw [z] at e
    have : l.length / 2 = 0 := e.symm
    have := h.2.1
    omega
  · have := h.2.2
    omega
theorem takes_good {l : List Nat} (h : Takes2 l) : Good (Or03.ofSpans (pairUp l)) := by
  have e := pairUp_len l
  have ev := h.1.1
  refine good_told (spans_some h.1) (fun z => ?_) (by have := h.2.2; omega)
  rw [z] at e
  have : l.length / 2 = 0 := e.symm
  have := h.2.1
  omega
end Stt
set_option Elab.async false
set_option linter.all false
/-! The calls as they lie in the list. -/
namespace Stt
open PyOr03 (shape whole bound)
def toI (l : List Nat) : List Int := l.map fun n : Nat => (n : Int)
theorem toI_len (l : List Nat) : (toI l).length = l.length := List.length_map _
/-- what one call's turn finds at the head of the list -/
structure DecAt (l : List Int) (raw : List (List Int)) (t : List Int) (p : Nat) (ns : List Nat) (c : Or03.Call) : Prop where
  list : l = (p : Int) :: ((if p = 3 then [(ns.length : Int)] else []) ++ toI ns) ++ t
  call : Or03Neutral.callIn (p :: ns) = some c
  step : ∀ s, Or03Neutral.step s ((whole raw).headD []) = Or03.step s c
  rows : p = 3 → raw = [[3], toI ns]
theorem nat_toNat {z : Int} (h : 0 ≤ z) : ((z.toNat : Nat) : Int) = z := Int.toNat_of_nonneg h
def Nats (l : List Int) : Prop := ∀ z ∈ l, 0 ≤ z ∧ z ≤ 4294967295
theorem Nats.cons {z : Int} {l : List Int} (h : Nats (z :: l)) : (0 ≤ z ∧ z ≤ 4294967295) ∧ Nats l := ⟨h z List.mem_cons_self, fun y hy => h y (List.mem_cons_of_mem _ hy)⟩
theorem toI_toNat : ∀ {l : List Int}, Nats l → toI (l.map Int.toNat) = l
  | [], _ => rfl
  | z :: l, h => by
    have hz := h.cons
    show ((z.toNat : Nat) : Int) :: toI (l.map Int.toNat) = z :: l
    rw [nat_toNat hz.1.1, toI_toNat hz.2]
theorem all_nat {l : List Int} (h : Nats l) : l.all Or03Neutral.nat = true := by
  rw [List.all_eq_true]
  intro z hz
  have := h z hz
  unfold Or03Neutral.nat
  rw [Bool.and_eq_true, decide_eq_true_iff, decide_eq_true_iff]
  omega
theorem step_of {l : List Int} {c : Or03.Call} (h : Nats l) (e : Or03Neutral.callIn (l.map Int.toNat) = some c) (s : Or03.Order) : Or03Neutral.step s l = Or03.step s c := by
  have e2 : Or03Neutral.callOf l = some c := by
    unfold Or03Neutral.callOf
    rw [all_nat h, if_neg (by decide), e]
  unfold Or03Neutral.step
  rw [e2]
theorem call_head (q : Int) (r : List Int) : PyFlat.call shape (q :: r) = match shape q with
    | none => none
    | some (n, k) => if r.length < n then none else match PyFlat.rows k (r.drop n) with
      | none => none
      | some (xs, t) => some ((q :: r.take n) :: xs, t) := rfl
theorem call_plain {q : Int} {n : Nat} {r : List Int} (h : shape q = some (n, 0)) : PyFlat.call shape (q :: r) = if r.length < n then none else some ([q :: r.take n], r.drop n) := by
  rw [call_head, h]
  rfl
theorem dec0 {q : Nat} {r t : List Int} {raw : List (List Int)} {c : Or03.Call} (hs : shape (q : Int) = some (0, 0)) (q3 : q ≠ 3) (hq : q ≤ 11) (hc : Or03Neutral.callIn [q] = some c) (hw : whole [[(q : Int)]] = [[(q : Int)]])
    (h : PyFlat.call shape ((q : Int) :: r) = some (raw, t)) : DecAt ((q : Int) :: r) raw t q [] c := by
  rw [call_plain hs, if_neg (by omega)] at h
  cases h
  refine ⟨?_, hc, fun s => ?_, fun z => absurd z q3⟩
  · rw [if_neg q3]
    rfl
  · show Or03Neutral.step s ((whole [[(q : Int)]]).headD []) = _
    rw [hw]
    refine step_of (l := [(q : Int)]) (fun z hz => ?_) ?_ s
    · rw [List.mem_singleton] at hz
      omega
    · exact hc
theorem dec1 {q : Nat} {r t : List Int} {raw : List (List Int)} {cf : Nat → Or03.Call} (hs : shape (q : Int) = some (1, 0)) (q3 : q ≠ 3) (hq : q ≤ 11) (hc : ∀ n, Or03Neutral.callIn [q, n] = some (cf n)) (hw : ∀ x, whole [[(q : Int), x]] = [[(q : Int), x]])
    (hr : Nats r) (h : PyFlat.call shape ((q : Int) :: r) = some (raw, t)) : ∃ n, DecAt ((q : Int) :: r) raw t q [n] (cf n) := by
  rw [call_plain hs] at h
  cases r with
  | nil =>
    rw [if_pos (by decide)] at h
    cases h
  | cons x r =>
    rw [if_neg (by rw [List.length_cons]; omega)] at h
    cases h
    have hx := hr.cons.1
    refine ⟨x.toNat, ?_, hc _, fun s => ?_, fun z => absurd z q3⟩
    · rw [if_neg q3]
      show (q : Int) :: x :: r = (q : Int) :: ((x.toNat : Nat) : Int) :: r
      rw [nat_toNat hx.1]
    · show Or03Neutral.step s ((whole [[(q : Int), x]]).headD []) = _
      rw [hw]
      refine step_of (l := [(q : Int), x]) (fun z hz => ?_) ?_ s
      · rcases List.mem_cons.mp hz with e | e
        · omega
        · rw [List.mem_singleton] at e
          omega
      · exact hc _
theorem dec2 {r t : List Int} {raw : List (List Int)} (hr : Nats r) (h : PyFlat.call shape (1 :: r) = some (raw, t)) : ∃ x y, DecAt (1 :: r) raw t 1 [x, y] (.over x y) := by
  rw [call_plain (n := 2) rfl] at h
  cases r with
  | nil =>
    rw [if_pos (by decide)] at h
    cases h
  | cons x r =>
    cases r with
    | nil =>
      rw [if_pos (by simp)] at h
      cases h
    | cons y r =>
      rw [if_neg (by simp)] at h
      cases h
      have hx := hr.cons.1
      have hy := hr.cons.2.cons.1
      refine ⟨x.toNat, y.toNat, ?_, rfl, fun s => ?_, fun z => by cases z⟩
      · show (1 : Int) :: x :: y :: r = (1 : Int) :: ((x.toNat : Nat) : Int) :: ((y.toNat : Nat) : Int) :: r
        rw [nat_toNat hx.1, nat_toNat hy.1]
      · show Or03Neutral.step s ((whole [[(1 : Int), x, y]]).headD []) = _
        refine step_of (l := [(1 : Int), x, y]) (fun z hz => ?_) rfl s
        rcases List.mem_cons.mp hz with e | e
        · omega
        · rcases List.mem_cons.mp e with e | e
          · omega
          · rw [List.mem_singleton] at e
            omega
theorem dec3 {r t : List Int} {raw : List (List Int)} (hr : Nats r) (h : PyFlat.call shape (3 :: r) = some (raw, t)) : ∃ l, DecAt (3 :: r) raw t 3 l (.told l) := by
  cases r with
  | nil => cases h
  | cons n r =>
    have hn := hr.cons.1
    have e : PyFlat.call shape (3 :: n :: r) = if 0 ≤ n ∧ n.toNat ≤ r.length then some ([[3], r.take n.toNat], r.drop n.toNat) else none := by
      show (match (match (if 0 ≤ n ∧ n.toNat ≤ r.length then some (r.take n.toNat, r.drop n.toNat) else none) with
        | none => none
        | some (x, s) => some ([x], s)) with
        | none => none
        | some (xs, t) => some ([3] :: xs, t)) = _
      by_cases c : 0 ≤ n ∧ n.toNat ≤ r.length
      · rw [if_pos c, if_pos c]
      · rw [if_neg c, if_neg c]
    rw [e] at h
    by_cases c : 0 ≤ n ∧ n.toNat ≤ r.length
    · rw [if_pos c] at h
      cases h
      have hN : Nats (r.take n.toNat) := fun z hz => hr.cons.2 z (List.mem_of_mem_take hz)
      have el : ((r.take n.toNat).map Int.toNat).length = n.toNat := by
        rw [List.length_map, List.length_take]
        omega
      refine ⟨(r.take n.toNat).map Int.toNat, ?_, rfl, fun s => ?_, fun _ => ?_⟩
      · rw [if_pos rfl, toI_toNat hN, el, nat_toNat hn.1]
        show (3 : Int) :: n :: r = (3 : Int) :: n :: (r.take n.toNat ++ r.drop n.toNat)
        rw [List.take_append_drop]
      · show Or03Neutral.step s ((3 : Int) :: r.take n.toNat) = _
        refine step_of (fun z hz => ?_) rfl s
        rcases List.mem_cons.mp hz with e | e
        · omega
        · exact hN z e
      · rw [toI_toNat hN]
    · rw [if_neg c] at h
      cases h
theorem shape_none {q : Int} (h : ∀ n : Nat, n ≤ 11 → q ≠ (n : Int)) : shape q = none := by
  unfold shape
  have h0 : q ≠ 0 := h 0 (by decide); have h1 : q ≠ 1 := h 1 (by decide); have h2 : q ≠ 2 := h 2 (by decide); have h3 : q ≠ 3 := h 3 (by decide); have h4 : q ≠ 4 := h 4 (by decide); have h5 : q ≠ 5 := h 5 (by decide)
  have h6 : q ≠ 6 := h 6 (by decide); have h7 : q ≠ 7 := h 7 (by decide); have h8 : q ≠ 8 := h 8 (by decide); have h9 : q ≠ 9 := h 9 (by decide); have h10 : q ≠ 10 := h 10 (by decide); have h11 : q ≠ 11 := h 11 (by decide)
  rw [if_neg h0, if_neg h1, if_neg h2, if_neg h3, if_neg h4, if_neg h5, if_neg h6, if_neg h7, if_neg h8, if_neg h9, if_neg h10, if_neg h11]
theorem dec_all {q : Int} {r t : List Int} {raw : List (List Int)} (hr : Nats r) (h : PyFlat.call shape (q :: r) = some (raw, t)) : ∃ p ns c, DecAt (q :: r) raw t p ns c := by
  by_cases hq : ∃ n : Nat, n ≤ 11 ∧ q = (n : Int)
  · obtain ⟨n, hn, rfl⟩ := hq
    match n, hn with
    | 0, _ => obtain ⟨m, d⟩ := dec1 (q := 0) (cf := .things) rfl (by decide) (by decide) (fun _ => rfl) (fun _ => rfl) hr h; exact ⟨_, _, _, d⟩
    | 1, _ => obtain ⟨x, y, d⟩ := dec2 hr h; exact ⟨_, _, _, d⟩
    | 2, _ => exact ⟨_, _, _, dec0 (q := 2) rfl (by decide) (by decide) rfl rfl h⟩
    | 3, _ => obtain ⟨l, d⟩ := dec3 hr h; exact ⟨_, _, _, d⟩
    | 4, _ => exact ⟨_, _, _, dec0 (q := 4) rfl (by decide) (by decide) rfl rfl h⟩
    | 5, _ => obtain ⟨m, d⟩ := dec1 (q := 5) (cf := .at_) rfl (by decide) (by decide) (fun _ => rfl) (fun _ => rfl) hr h; exact ⟨_, _, _, d⟩
    | 6, _ => exact ⟨_, _, _, dec0 (q := 6) rfl (by decide) (by decide) rfl rfl h⟩
    | 7, _ => exact ⟨_, _, _, dec0 (q := 7) rfl (by decide) (by decide) rfl rfl h⟩
    | 8, _ => exact ⟨_, _, _, dec0 (q := 8) rfl (by decide) (by decide) rfl rfl h⟩
    | 9, _ => exact ⟨_, _, _, dec0 (q := 9) rfl (by decide) (by decide) rfl rfl h⟩
    | 10, _ => exact ⟨_, _, _, dec0 (q := 10) rfl (by decide) (by decide) rfl rfl h⟩
    | 11, _ => exact ⟨_, _, _, dec0 (q := 11) rfl (by decide) (by decide) rfl rfl h⟩
  · have e : PyFlat.call shape (q :: r) = none := by
      rw [call_head, shape_none fun n hn z => hq ⟨n, hn, z⟩]
    rw [e] at h
    cases h
theorem calls_cons {f : Nat} {q : Int} {r : List Int} {cs : List (List (List Int))} (h : PyFlat.calls shape f (q :: r) = some cs) : ∃ f' raw t cs', PyFlat.call shape (q :: r) = some (raw, t) ∧ PyFlat.calls shape f' t = some cs' ∧ cs = raw :: cs' := by
  cases f with
  | zero => cases h
  | succ f =>
    have e : PyFlat.calls shape (f + 1) (q :: r) = (match PyFlat.call shape (q :: r) with
      | none => none
      | some (c, t) => match PyFlat.calls shape f t with
        | none => none
        | some cs => some (c :: cs)) := rfl
    rw [e] at h
    cases e1 : PyFlat.call shape (q :: r) with
    | none =>
      rw [e1] at h
      cases h
    | some z =>
      obtain ⟨c, t⟩ := z
      rw [e1] at h
      dsimp only at h
      cases e2 : PyFlat.calls shape f t with
      | none =>
        rw [e2] at h
        cases h
      | some cs' =>
        rw [e2] at h
        exact ⟨f, c, t, cs', rfl, e2, (Option.some.inj h).symm⟩
theorem calls_nil {f : Nat} {cs : List (List (List Int))} (h : PyFlat.calls shape f [] = some cs) : cs = [] := by
  cases f with
  | zero => exact (Option.some.inj h).symm
  | succ f => exact (Option.some.inj h).symm
/-- what is answered from a state on -/
def rest (s : Or03.Order) (cs : List (List (List Int))) : List Int := PyFlat.told (PyFlat.played (fun s c => Or03Neutral.step s (c.headD [])) s (cs.map whole))
theorem rest_cons {s : Or03.Order} {raw : List (List Int)} {cs : List (List (List Int))} {l t : List Int} {p : Nat} {ns : List Nat} {c : Or03.Call} (d : DecAt l raw t p ns c) :
    rest s (raw :: cs) = (((Or03.step s c).2.length : Int) :: (Or03.step s c).2) ++ rest (Or03.step s c).1 cs := by
  unfold rest
  rw [List.map_cons]
  show PyFlat.told ((Or03Neutral.step s ((whole raw).headD [])).2 :: PyFlat.played _ (Or03Neutral.step s ((whole raw).headD [])).1 (cs.map whole)) = _
  rw [d.step]
  rfl
theorem rest_nil (s : Or03.Order) : rest s [] = [] := rfl
theorem answers_rest {l : List Int} {cs : List (List (List Int))} (h : PyFlat.calls shape l.length l = some cs) : PyOr03.answers l = rest Or03.init cs := by
  unfold PyOr03.answers PyOr03.calls
  rw [h]
  rfl
/-- what the request gives -/
theorem asked_of {l : List Int} (h : PyOr03.answers_asked l = true) : ∃ cs, PyFlat.calls shape l.length l = some cs ∧ cs.length ≤ 30 ∧ PyInside.calls bound cs = true ∧ (PyOr03.answers l).length ≤ 10000000 := by
  unfold PyOr03.answers_asked at h
  cases e : PyFlat.calls shape l.length l with
  | none =>
    rw [e] at h
    cases h
  | some cs =>
    rw [e] at h
    dsimp only at h
    rw [Bool.and_eq_true, Bool.and_eq_true, Bool.and_eq_true, Bool.and_eq_true] at h
    obtain ⟨⟨⟨⟨_, h1⟩, h2⟩, _⟩, h3⟩ := h
    exact ⟨cs, rfl, of_decide_eq_true h1, h2, of_decide_eq_true h3⟩
theorem inside_row {raw : List (List Int)} {l : List Nat} (e : raw = [[3], toI l]) (h : PyInside.call bound raw = true) : l.length ≤ 40 := by
  subst e
  have h2 : (PyInside.each [] [] && PyInside.lists [((0 : Int), (4294967295 : Int), 0, 40)] [toI l]) = true := h
  rw [Bool.and_eq_true] at h2
  have h3 : (((decide (0 ≤ (toI l).length) && decide ((toI l).length ≤ 40)) && (toI l).all (PyInside.within 0 4294967295)) && PyInside.lists [] []) = true := h2.2
  rw [Bool.and_eq_true, Bool.and_eq_true, Bool.and_eq_true] at h3
  have := of_decide_eq_true h3.1.1.2
  rw [toI_len] at this
  exact this
/-! how many pairs are told -/
theorem pairs_told_len (s : List (Nat × Nat)) (h : s.length ≤ 8) : (Or03.ofSpans s).told.length ≤ 64 := by
  have g : ∀ l : List Nat, (l.flatMap fun i => ((List.range s.length).filter fun j => decide ((s.getD i (0, 0)).2 < (s.getD j (0, 0)).1)).map fun j => (i + 1, j + 1)).length ≤ l.length * s.length := by
    intro l
    induction l with
    | nil => exact Nat.zero_le _
    | cons i l ih =>
      rw [List.flatMap_cons, List.length_append, List.length_cons, Nat.succ_mul, Nat.add_comm]
      refine Nat.add_le_add ih ?_
      rw [List.length_map]
      exact Nat.le_trans (List.length_filter_le _ _) (by rw [List.length_range]; exact Nat.le_refl _)
  have := g (List.range s.length)
  rw [List.length_range] at this
  have h2 : s.length * s.length ≤ 8 * 8 := Nat.mul_le_mul h h
  exact Nat.le_trans this h2
theorem step_told_len (x : Or03.Order) (c : Or03.Call) : (Or03.step x c).1.told.length ≤ x.told.length + 1 ∨ (Or03.step x c).1.told.length ≤ 64 := by
  cases c with
  | things n =>
    left
    show (if n = 0 ∨ 8 < n then (x, [-1]) else (⟨n, []⟩, [0])).1.told.length ≤ _
    split
    · show x.told.length ≤ _
      omega
    · exact Nat.zero_le _
  | over a b =>
    left
    rw [step_over]
    split
    · show x.told.length ≤ _
      omega
    · split
      · show x.told.length ≤ _
        omega
      · split
        · show x.told.length ≤ _
          omega
        · show (x.told ++ [(a, b)]).length ≤ _
          rw [List.length_append]
          exact Nat.le_refl _
  | undo =>
    left
    show (if x.told = [] then (x, [-3]) else ({ x with told := x.told.dropLast }, Or03.ints [x.told.length - 1])).1.told.length ≤ _
    split
    · show x.told.length ≤ _
      omega
    · show x.told.dropLast.length ≤ _
      rw [List.length_dropLast]
      omega
  | told l =>
    by_cases h : Takes2 l
    · right
      rw [step_told_yes h]
      refine pairs_told_len _ ?_
      rw [pairUp_len]
      have := h.2.2
      omega
    · left
      rw [step_told_no h]
      show x.told.length ≤ _
      omega
  | turn =>
    left
    show (x.told.map fun p => (p.2, p.1)).length ≤ _
    rw [List.length_map]
    omega
  | stretches => exact .inl (Nat.le_succ _)
  | at_ t => exact .inl (Nat.le_succ _)
  | long => exact .inl (Nat.le_succ _)
  | twoTwo => exact .inl (Nat.le_succ _)
  | threeOne => exact .inl (Nat.le_succ _)
  | pairs => exact .inl (Nat.le_succ _)
  | crowd => exact .inl (Nat.le_succ _)
end Stt
set_option Elab.async false
set_option linter.all false
/-! Stretches all as long: the rounds of the specification come to rest at the least places, if there are any. -/
namespace Stt
open Or03
/-! ### lists -/
theorem nodup_le {α : Type} [DecidableEq α] : ∀ {L T : List α}, L.Nodup → (∀ z ∈ L, z ∈ T) → L.length ≤ T.length
  | [], _, _, _ => Nat.zero_le _
  | a :: L, T, nd, h => by
    have ha := h a List.mem_cons_self
    have nd' := List.nodup_cons.mp nd
    have ih := nodup_le (L := L) (T := T.erase a) nd'.2 fun z hz => (List.mem_erase_of_ne (fun e => nd'.1 (by rw [← e]; exact hz))).mpr (h z (List.mem_cons_of_mem _ hz))
    rw [List.length_erase_of_mem ha] at ih
    have := List.length_pos_of_mem ha
    rw [List.length_cons]
    omega
theorem foldl_max_ge {α : Type} (f : α → Nat) : ∀ (l : List α) (m : Nat), m ≤ l.foldl (fun m x => max m (f x)) m
  | [], m => Nat.le_refl _
  | a :: l, m => by
    rw [List.foldl_cons]
    exact Nat.le_trans (Nat.le_max_left _ _) (foldl_max_ge f l _)
theorem foldl_max_mem {α : Type} (f : α → Nat) : ∀ (l : List α) (m : Nat) (x : α), x ∈ l → f x ≤ l.foldl (fun m x => max m (f x)) m
  | a :: l, m, x, h => by
    rw [List.foldl_cons]
    rcases List.mem_cons.mp h with e | e
    · rw [e]
      exact Nat.le_trans (Nat.le_max_right _ _) (foldl_max_ge f l _)
    · exact foldl_max_mem f l _ x e
theorem foldl_max_or {α : Type} (f : α → Nat) : ∀ (l : List α) (m : Nat), l.foldl (fun m x => max m (f x)) m = m ∨ ∃ x ∈ l, l.foldl (fun m x => max m (f x)) m = f x
  | [], m => .inl rfl
  | a :: l, m => by
    rw [List.foldl_cons]
    rcases foldl_max_or f l (max m (f a)) with e | ⟨x, hx, e⟩
    · rw [e]
      rcases Nat.le_total m (f a) with h | h
      · exact .inr ⟨a, List.mem_cons_self, Nat.max_eq_right h⟩
      · exact .inl (Nat.max_eq_left h)
    · exact .inr ⟨x, List.mem_cons_of_mem _ hx, e⟩
/-! ### one round -/
/-- what x asks of y -/
def ask (o : Order) (q : Nat → Nat) (x y : Nat) : Nat := if below o x y = true then q x + o.many + 1 else if x ≠ y ∧ open_ o x y = true then q x - o.many else 0
def val (p : List Nat) (x : Nat) : Nat := p.getD (x - 1) 0
theorem round_def (o : Order) (p : List Nat) : round_ o p = (things o).map fun y => (things o).foldl (fun m x => max m (ask o (val p) x y)) (val p y) := rfl
theorem things_at {o : Order} {y : Nat} (h : y ∈ things o) : (things o)[y - 1]? = some y := by
  obtain ⟨h1, h2⟩ := mem_things.mp h
  unfold things
  rw [List.getElem?_map, List.getElem?_range (by omega)]
  show some (y - 1 + 1) = some y
  congr 1
  omega
theorem val_map {o : Order} {f : Nat → Nat} {y : Nat} (h : y ∈ things o) : val ((things o).map f) y = f y := by
  unfold val
  rw [List.getD_eq_getElem?_getD, List.getElem?_map, things_at h]
  rfl
theorem val_round {o : Order} {p : List Nat} {y : Nat} (h : y ∈ things o) : val (round_ o p) y = (things o).foldl (fun m x => max m (ask o (val p) x y)) (val p y) := by
  rw [round_def]
  exact val_map h
theorem round_len (o : Order) (p : List Nat) : (round_ o p).length = o.many := by
  rw [round_def, List.length_map, things_len]
theorem round_ge {o : Order} {p : List Nat} {y : Nat} (h : y ∈ things o) : val p y ≤ val (round_ o p) y := by
  rw [val_round h]
  exact foldl_max_ge _ _ _
theorem round_ask {o : Order} {p : List Nat} {x y : Nat} (h : y ∈ things o) (hx : x ∈ things o) : ask o (val p) x y ≤ val (round_ o p) y := by
  rw [val_round h]
  exact foldl_max_mem (fun x => ask o (val p) x y) _ _ x hx
theorem round_or {o : Order} {p : List Nat} {y : Nat} (h : y ∈ things o) : val (round_ o p) y = val p y ∨ ∃ x ∈ things o, val (round_ o p) y = ask o (val p) x y := by
  rw [val_round h]
  exact foldl_max_or _ _ _
/-- places that tell the order by stretches all as long -/
def Sol (o : Order) (q : Nat → Nat) : Prop := ∀ x ∈ things o, ∀ y ∈ things o, ask o q x y ≤ q y
theorem ask_mono {o : Order} {q r : Nat → Nat} {x y : Nat} (h : q x ≤ r x) : ask o q x y ≤ ask o r x y := by
  unfold ask
  split
  · omega
  · split
    · omega
    · exact Nat.le_refl _
theorem list_ext_val {o : Order} {p r : List Nat} (hp : p.length = o.many) (hr : r.length = o.many) (h : ∀ y ∈ things o, val p y = val r y) : p = r := by
  apply List.ext_getElem?
  intro i
  by_cases hi : i < o.many
  · have := h (i + 1) (mem_things.mpr ⟨by omega, by omega⟩)
    unfold val at this
    rw [Nat.add_sub_cancel, List.getD_eq_getElem?_getD, List.getD_eq_getElem?_getD, List.getElem?_eq_getElem (by omega), List.getElem?_eq_getElem (by omega)] at this
    rw [List.getElem?_eq_getElem (by omega), List.getElem?_eq_getElem (by omega)]
    exact congrArg some this
  · rw [List.getElem?_eq_none (by omega), List.getElem?_eq_none (by omega)]
theorem round_fix {o : Order} {p : List Nat} (hp : p.length = o.many) : round_ o p = p ↔ Sol o (val p) := by
  constructor
  · intro h x hx y hy
    have := round_ask (p := p) hy hx
    rw [h] at this
    exact this
  · intro h
    refine list_ext_val (round_len o p) hp fun y hy => ?_
    rcases round_or (p := p) hy with e | ⟨x, hx, e⟩
    · exact e
    · have h1 := h x hx y hy
      have h2 := round_ge (p := p) hy
      omega
theorem round_below {o : Order} {p : List Nat} {q : Nat → Nat} (s : Sol o q) (h : ∀ y ∈ things o, val p y ≤ q y) : ∀ y ∈ things o, val (round_ o p) y ≤ q y := by
  intro y hy
  rcases round_or (p := p) hy with e | ⟨x, hx, e⟩
  · rw [e]
    exact h y hy
  · rw [e]
    exact Nat.le_trans (ask_mono (h x hx)) (s x hx y hy)
/-! ### all rounds -/
def Pk (o : Order) : Nat → List Nat
  | 0 => List.replicate o.many 0
  | k + 1 => round_ o (Pk o k)
theorem from_succ (o : Order) : ∀ (k : Nat) (p : List Nat), placesFrom o (k + 1) p = round_ o (placesFrom o k p)
  | 0, _ => rfl
  | k + 1, p => from_succ o k (round_ o p)
theorem from_Pk (o : Order) : ∀ k, placesFrom o k (List.replicate o.many 0) = Pk o k
  | 0 => rfl
  | k + 1 => by
    rw [from_succ, from_Pk o k]
    rfl
theorem Pk_len (o : Order) : ∀ k, (Pk o k).length = o.many
  | 0 => List.length_replicate
  | _ + 1 => round_len o _
theorem Pk_zero {o : Order} {y : Nat} : val (Pk o 0) y = 0 := by
  unfold val Pk
  rw [List.getD_eq_getElem?_getD, List.getElem?_replicate]
  split <;> rfl
theorem Pk_mono {o : Order} {y : Nat} (hy : y ∈ things o) {i j : Nat} (h : i ≤ j) : val (Pk o i) y ≤ val (Pk o j) y := by
  induction h with
  | refl => exact Nat.le_refl _
  | step _ ih => exact Nat.le_trans ih (round_ge hy)
theorem Pk_below {o : Order} {q : Nat → Nat} (s : Sol o q) : ∀ k, ∀ y ∈ things o, val (Pk o k) y ≤ q y
  | 0, y, _ => by
    rw [Pk_zero]
    exact Nat.zero_le _
  | k + 1, y, hy => round_below s (Pk_below s k) y hy
/-- what grew in one round grew by what grew in the round ahead -/
theorem grow {o : Order} {q : Nat → Nat} (s : Sol o q) {k y : Nat} (hy : y ∈ things o) (g : val (Pk o (k + 1)) y < val (Pk o (k + 1 + 1)) y) :
    ∃ x ∈ things o, val (Pk o k) x < val (Pk o (k + 1)) x ∧ q x - val (Pk o (k + 1)) x ≤ q y - val (Pk o (k + 1 + 1)) y := by
  rcases round_or (p := Pk o (k + 1)) hy with e | ⟨x, hx, e⟩
  · have e' : val (Pk o (k + 1 + 1)) y = val (Pk o (k + 1)) y := e
    omega
  · have e' : val (Pk o (k + 1 + 1)) y = ask o (val (Pk o (k + 1))) x y := e
    have h1 : ask o (val (Pk o k)) x y ≤ val (Pk o (k + 1)) y := round_ask (p := Pk o k) hy hx
    have h2 := s x hx y hy
    have b := Pk_below s (k + 1) x hx
    refine ⟨x, hx, ?_⟩
    unfold ask at e' h1 h2
    by_cases c : below o x y = true
    · rw [if_pos c] at e' h1 h2
      omega
    · rw [if_neg c] at e' h1 h2
      by_cases d : x ≠ y ∧ open_ o x y = true
      · rw [if_pos d] at e' h1 h2
        omega
      · rw [if_neg d] at e' h1 h2
        omega
theorem chain_of {o : Order} {q : Nat → Nat} (s : Sol o q) : ∀ (k y : Nat), y ∈ things o → val (Pk o k) y < val (Pk o (k + 1)) y →
    ∃ L : List Nat, L.Nodup ∧ L.length = k + 1 ∧ (∀ z ∈ L, z ∈ things o) ∧ ∀ z ∈ L, ∃ j, j ≤ k ∧ q z - val (Pk o (j + 1)) z ≤ q y - val (Pk o (k + 1)) y
  | 0, y, hy, g => ⟨[y], by simp, rfl, fun z hz => by rw [List.mem_singleton] at hz; rw [hz]; exact hy, fun z hz => by
      rw [List.mem_singleton] at hz
      rw [hz]
      exact ⟨0, Nat.le_refl _, Nat.le_refl _⟩⟩
  | k + 1, y, hy, g => by
    obtain ⟨x, hx, gx, sl⟩ := grow s hy g
    obtain ⟨L, nd, len, inn, hL⟩ := chain_of s k x hx gx
    refine ⟨y :: L, List.nodup_cons.mpr ⟨fun hm => ?_, nd⟩, by rw [List.length_cons, len], fun z hz => ?_, fun z hz => ?_⟩
    · obtain ⟨j, hj, h⟩ := hL y hm
      have m1 := Pk_mono hy (show j + 1 ≤ k + 1 by omega)
      have b := Pk_below s (k + 1 + 1) y hy
      omega
    · rcases List.mem_cons.mp hz with e | e
      · rw [e]
        exact hy
      · exact inn z e
    · rcases List.mem_cons.mp hz with e | e
      · rw [e]
        exact ⟨k + 1, Nat.le_refl _, Nat.le_refl _⟩
      · obtain ⟨j, hj, h⟩ := hL z e
        exact ⟨j, by omega, Nat.le_trans h sl⟩
theorem rest_at {o : Order} {q : Nat → Nat} (s : Sol o q) : round_ o (Pk o o.many) = Pk o o.many := by
  refine list_ext_val (round_len o _) (Pk_len o _) fun y hy => ?_
  refine Nat.le_antisymm (Nat.le_of_not_lt fun g => ?_) (round_ge hy)
  obtain ⟨L, nd, len, inn, _⟩ := chain_of s o.many y hy g
  have := nodup_le nd inn
  rw [things_len] at this
  omega
theorem Pk_stay {o : Order} {k : Nat} (h : round_ o (Pk o k) = Pk o k) : ∀ j, Pk o (k + j) = Pk o k
  | 0 => rfl
  | j + 1 => by
    show round_ o (Pk o (k + j)) = Pk o k
    rw [Pk_stay h j, h]
theorem places_Pk (o : Order) : places o = Pk o (o.many * o.many) := from_Pk o _
theorem asLong_iff {o : Order} (h1 : 1 ≤ o.many) : asLong o = true ↔ ∃ q, Sol o q := by
  unfold asLong
  rw [beq_iff_eq, places_Pk]
  constructor
  · intro h
    exact ⟨_, (round_fix (Pk_len o _)).mp h⟩
  · rintro ⟨q, s⟩
    have st := rest_at s
    have le : o.many ≤ o.many * o.many := Nat.le_mul_of_pos_left _ h1
    have e : Pk o (o.many * o.many) = Pk o o.many := by
      have := Pk_stay st (o.many * o.many - o.many)
      rw [show o.many + (o.many * o.many - o.many) = o.many * o.many by omega] at this
      exact this
    rw [e, st]
theorem places_sol {o : Order} (h : asLong o = true) : Sol o (val (places o)) := by
  unfold asLong at h
  rw [beq_iff_eq] at h
  rw [places_Pk] at h ⊢
  exact (round_fix (Pk_len o _)).mp h
theorem places_least {o : Order} {q : Nat → Nat} (s : Sol o q) : ∀ y ∈ things o, val (places o) y ≤ q y := by
  rw [places_Pk]
  exact Pk_below s _
theorem places_len (o : Order) : (places o).length = o.many := by
  rw [places_Pk]
  exact Pk_len o _
/-- any places that tell the order and lie below all that do are the specification's -/
theorem places_eq {o : Order} (h1 : 1 ≤ o.many) {p : List Nat} (hl : p.length = o.many) (s : Sol o (val p)) (least : ∀ q, Sol o q → ∀ y ∈ things o, val p y ≤ q y) : asLong o = true ∧ places o = p := by
  have a := (asLong_iff h1).mpr ⟨_, s⟩
  refine ⟨a, list_ext_val (places_len o) hl fun y hy => Nat.le_antisymm (places_least s y hy) (least _ (places_sol a) y hy)⟩
/-- places that grow at least as the rounds do, and lie below what tells the order: behind as many rounds as there are things they tell it -/
theorem fast_rest {o : Order} {q : Nat → Nat} (s : Sol o q) {p : List Nat} (hl : p.length = o.many) (up : ∀ y ∈ things o, val (Pk o o.many) y ≤ val p y) (low : ∀ q, Sol o q → ∀ y ∈ things o, val p y ≤ q y) : p = Pk o o.many := by
  have st := (round_fix (Pk_len o _)).mp (rest_at s)
  exact list_ext_val hl (Pk_len o _) fun y hy => Nat.le_antisymm (low _ st y hy) (up y hy)
end Stt
set_option Elab.async false
set_option linter.all false
/-! Stretches all as long: the program's rounds are the specification's, and rest one round earlier. -/
namespace Stt
open Or03
theorem below_self (o : Order) (x : Nat) : below o x x = false := by
  unfold below
  rw [show (x != x) = false from bne_self_eq_false x, Bool.false_and]
theorem chain2 {o : Order} {q : Nat → Nat} (s : Sol o q) : ∀ (k y : Nat), y ∈ things o → val (Pk o k) y < val (Pk o (k + 1)) y →
    ∃ L : List Nat, L.Nodup ∧ L.length = k + 2 ∧ (∀ z ∈ L, z ∈ things o) ∧ ∀ z ∈ L, ∃ j, j ≤ k + 1 ∧ q z - val (Pk o j) z ≤ q y - val (Pk o (k + 1)) y
  | 0, y, hy, g => by
    have z1 : ∀ x, val (Pk o 0) x = 0 := fun x => Pk_zero
    rcases round_or (p := Pk o 0) hy with e | ⟨x, hx, e⟩
    · have e' : val (Pk o (0 + 1)) y = val (Pk o 0) y := e
      omega
    · have e' : val (Pk o (0 + 1)) y = ask o (val (Pk o 0)) x y := e
      have h2 := s x hx y hy
      by_cases c : below o x y = true
      · unfold ask at e' h2
        rw [if_pos c] at e' h2
        have ne : ¬ y = x := fun w => by
          rw [w, below_self] at c
          cases c
        have zx := z1 x
        refine ⟨[y, x], by simp [ne], rfl, fun z hz => ?_, fun z hz => ?_⟩
        · rcases List.mem_cons.mp hz with w | w
          · rw [w]
            exact hy
          · rw [List.mem_singleton] at w
            rw [w]
            exact hx
        · rcases List.mem_cons.mp hz with w | w
          · rw [w]
            exact ⟨1, Nat.le_refl _, Nat.le_refl _⟩
          · rw [List.mem_singleton] at w
            rw [w]
            exact ⟨0, by omega, by omega⟩
      · have zx := z1 x
        unfold ask at e'
        rw [if_neg c] at e'
        split at e' <;> omega
  | k + 1, y, hy, g => by
    obtain ⟨x, hx, gx, sl⟩ := grow s hy g
    obtain ⟨L, nd, len, inn, hL⟩ := chain2 s k x hx gx
    refine ⟨y :: L, List.nodup_cons.mpr ⟨fun hm => ?_, nd⟩, by rw [List.length_cons, len], fun z hz => ?_, fun z hz => ?_⟩
    · obtain ⟨j, hj, h⟩ := hL y hm
      have m1 := Pk_mono hy (show j ≤ k + 1 by omega)
      have b := Pk_below s (k + 1 + 1) y hy
      omega
    · rcases List.mem_cons.mp hz with e | e
      · rw [e]
        exact hy
      · exact inn z e
    · rcases List.mem_cons.mp hz with e | e
      · rw [e]
        exact ⟨k + 1 + 1, Nat.le_refl _, Nat.le_refl _⟩
      · obtain ⟨j, hj, h⟩ := hL z e
        exact ⟨j, by omega, Nat.le_trans h sl⟩
theorem rest_at2 {o : Order} {q : Nat → Nat} (s : Sol o q) {m : Nat} (hm : o.many = m + 1) : Pk o (m + 1) = Pk o m := by
  refine list_ext_val (Pk_len o _) (Pk_len o _) fun y hy => ?_
  refine Nat.le_antisymm (Nat.le_of_not_lt fun g => ?_) (round_ge hy)
  obtain ⟨L, nd, len, inn, _⟩ := chain2 s m y hy g
  have := nodup_le nd inn
  rw [things_len] at this
  omega
/-- where the rounds rest they are the places -/
theorem rest_places {o : Order} (h1 : 1 ≤ o.many) {k : Nat} (h : Pk o (k + 1) = Pk o k) : asLong o = true ∧ places o = Pk o k :=
  places_eq h1 (Pk_len o k) ((round_fix (Pk_len o k)).mp h) fun q s y hy => Pk_below s k y hy
theorem rest_none {o : Order} (h1 : 1 ≤ o.many) (h : ∀ k, k < o.many → Pk o (k + 1) ≠ Pk o k) : asLong o = false := by
  refine Bool.eq_false_iff.mpr fun a => ?_
  obtain ⟨q, s⟩ := (asLong_iff h1).mp a
  obtain ⟨m, e⟩ : ∃ m, o.many = m + 1 := ⟨o.many - 1, by omega⟩
  exact h m (by omega) (rest_at2 s e)
/-! ### the program's round -/
/-- what x asks of t, as the program asks it -/
def con (n : Nat) (M : Mat) (b : Nat → Nat) (t x : Nat) : Nat := if M x t = true then b x + n + 1 else if M t x = true then 0 else b x - n
def earI (n : Nat) (M : Mat) (b : Nat → Nat) (t : Nat) : Nat → Nat
  | 0 => 0
  | i + 1 => max (earI n M b t i) (con n M b t (i + 1))
theorem earI_le {n : Nat} {M : Mat} {b : Nat → Nat} {t B : Nat} : ∀ {i : Nat}, (∀ x, 1 ≤ x → x ≤ i → con n M b t x ≤ B) → earI n M b t i ≤ B
  | 0, _ => Nat.zero_le _
  | i + 1, h => Nat.max_le.mpr ⟨earI_le fun x h1 h2 => h x h1 (by omega), h (i + 1) (by omega) (Nat.le_refl _)⟩
theorem earI_ge {n : Nat} {M : Mat} {b : Nat → Nat} {t : Nat} : ∀ {i x : Nat}, 1 ≤ x → x ≤ i → con n M b t x ≤ earI n M b t i
  | 0, x, h1, h2 => by omega
  | i + 1, x, h1, h2 => by
    by_cases e : x = i + 1
    · rw [e]
      exact Nat.le_max_right _ _
    · exact Nat.le_trans (earI_ge h1 (by omega)) (Nat.le_max_left _ _)
theorem con_mono {n : Nat} {M : Mat} {b b' : Nat → Nat} {t x : Nat} (h : b x ≤ b' x) : con n M b t x ≤ con n M b' t x := by
  unfold con
  split
  · omega
  · split <;> omega
theorem earI_mono {n : Nat} {M : Mat} {b b' : Nat → Nat} {t i : Nat} (h : ∀ x, 1 ≤ x → x ≤ i → b x ≤ b' x) : earI n M b t i ≤ earI n M b' t i :=
  earI_le fun x h1 h2 => Nat.le_trans (con_mono (h x h1 h2)) (earI_ge h1 h2)
theorem con_ask {o : Order} (g : Good o) {b : Nat → Nat} {t x : Nat} (ht : t ∈ things o) (hx : x ∈ things o) (ne : x ≠ t) : con o.many (rel o) b t x = ask o b x t := by
  unfold con ask open_
  rw [rel_below g hx, rel_below g ht]
  cases c : below o x t with
  | true => rfl
  | false =>
    cases d : below o t x with
    | true => simp
    | false => simp [ne]
theorem con_self {o : Order} (g : Good o) {b : Nat → Nat} {t : Nat} : con o.many (rel o) b t t = b t - o.many := by
  unfold con
  rw [rel_irr g, if_neg (by decide), if_neg (by decide)]
theorem ask_self (o : Order) (b : Nat → Nat) (t : Nat) : ask o b t t = 0 := by
  unfold ask
  rw [below_self, if_neg (by decide), if_neg (fun h => h.1 rfl)]
theorem earI_Pk {o : Order} (g : Good o) : ∀ (k t : Nat), t ∈ things o → earI o.many (rel o) (val (Pk o k)) t o.many = val (Pk o (k + 1)) t := by
  have up : ∀ (k t : Nat), t ∈ things o → earI o.many (rel o) (val (Pk o k)) t o.many ≤ val (Pk o (k + 1)) t := by
    intro k t ht
    refine earI_le fun x h1 h2 => ?_
    by_cases e : x = t
    · rw [e, con_self g]
      have := round_ge (p := Pk o k) ht
      exact Nat.le_trans (Nat.sub_le _ _) this
    · rw [con_ask g ht (mem_things.mpr ⟨h1, h2⟩) e]
      exact round_ask (p := Pk o k) ht (mem_things.mpr ⟨h1, h2⟩)
  have lo : ∀ (k t : Nat), t ∈ things o → val (Pk o k) t ≤ earI o.many (rel o) (val (Pk o k)) t o.many → val (Pk o (k + 1)) t ≤ earI o.many (rel o) (val (Pk o k)) t o.many := by
    intro k t ht h
    rcases round_or (p := Pk o k) ht with e | ⟨x, hx, e⟩
    · have e' : val (Pk o (k + 1)) t = val (Pk o k) t := e
      rw [e']
      exact h
    · have e' : val (Pk o (k + 1)) t = ask o (val (Pk o k)) x t := e
      rw [e']
      by_cases c : x = t
      · rw [c, ask_self]
        exact Nat.zero_le _
      · rw [← con_ask g ht hx c]
        have hx' := mem_things.mp hx
        exact earI_ge hx'.1 hx'.2
  intro k
  induction k with
  | zero =>
    intro t ht
    refine Nat.le_antisymm (up 0 t ht) (lo 0 t ht ?_)
    rw [Pk_zero]
    exact Nat.zero_le _
  | succ k ih =>
    intro t ht
    refine Nat.le_antisymm (up (k + 1) t ht) (lo (k + 1) t ht ?_)
    rw [← ih t ht]
    rw [ih t ht]
    refine Nat.le_trans (Nat.le_of_eq (ih t ht).symm) (earI_mono fun x h1 h2 => ?_)
    exact round_ge (p := Pk o k) (mem_things.mpr ⟨h1, h2⟩)
theorem Pk_map {o : Order} (g : Good o) (k : Nat) : (th o.many).map (fun t => earI o.many (rel o) (val (Pk o k)) t o.many) = Pk o (k + 1) := by
  refine list_ext_val (o := o) (by rw [th_things, List.length_map, things_len]) (Pk_len o _) fun y hy => ?_
  rw [th_things, val_map hy]
  exact earI_Pk g k y hy
end Stt
set_option Elab.async false
set_option linter.all false
/-! The fours: walks that end at the first, as the specification's search. -/
namespace Stt
open Or03
theorem fs_congr {α β : Type} {f g : α → Option β} : ∀ {l : List α}, (∀ x ∈ l, f x = g x) → l.findSome? f = l.findSome? g
  | [], _ => rfl
  | a :: l, h => by
    rw [List.findSome?_cons, List.findSome?_cons, h a List.mem_cons_self, fs_congr fun x hx => h x (List.mem_cons_of_mem _ hx)]
theorem fs_none {α β : Type} : ∀ l : List α, l.findSome? (fun _ => (none : Option β)) = none
  | [] => rfl
  | a :: l => by
    rw [List.findSome?_cons]
    exact fs_none l
theorem fs_flatMap {α β γ : Type} (g : α → List β) (f : β → Option γ) : ∀ l : List α, (l.flatMap g).findSome? f = l.findSome? fun x => (g x).findSome? f
  | [] => rfl
  | a :: l => by
    rw [List.flatMap_cons, List.findSome?_append, List.findSome?_cons, fs_flatMap g f l]
    cases (g a).findSome? f <;> rfl
theorem fs_map {α β γ : Type} (g : α → β) (f : β → Option γ) : ∀ l : List α, (l.map g).findSome? f = l.findSome? fun x => f (g x)
  | [] => rfl
  | a :: l => by
    rw [List.map_cons, List.findSome?_cons, List.findSome?_cons, fs_map g f l]
theorem fs_filter {α γ : Type} (p : α → Bool) (f : α → Option γ) : ∀ l : List α, (l.filter p).findSome? f = l.findSome? fun x => if p x = true then f x else none
  | [] => rfl
  | a :: l => by
    rw [List.findSome?_cons, ← fs_filter p f l]
    by_cases c : p a = true
    · rw [List.filter_cons_of_pos c, List.findSome?_cons, if_pos c]
    · rw [List.filter_cons_of_neg c, if_neg c]
theorem find_fs {α : Type} (p : α → Bool) : ∀ l : List α, l.find? p = l.findSome? fun x => if p x = true then some x else none
  | [] => rfl
  | a :: l => by
    rw [List.find?_cons, List.findSome?_cons, find_fs p l]
    cases p a <;> rfl
theorem map_fs {α β γ : Type} (h : β → γ) (f : α → Option β) : ∀ l : List α, (l.findSome? f).map h = l.findSome? fun x => (f x).map h
  | [] => rfl
  | a :: l => by
    rw [List.findSome?_cons, List.findSome?_cons, ← map_fs h f l]
    cases f a <;> rfl
def sel (b : Bool) (l : List Nat) : Option (List Nat) := if b = true then some l else none
/-- the first four -/
def four (T : List Nat) (P : Nat → Nat → Nat → Nat → Bool) : Option (List Nat) :=
  T.findSome? fun a => T.findSome? fun b => T.findSome? fun c => T.findSome? fun d => sel (P a b c d) [a, b, c, d]
theorem find4 (T : List Nat) (P : Nat → Nat → Nat → Nat → Bool) : ((T.flatMap fun a => T.flatMap fun b => T.flatMap fun c => T.map fun d => (a, b, c, d)).find? fun q => P q.1 q.2.1 q.2.2.1 q.2.2.2).map (fun q => [q.1, q.2.1, q.2.2.1, q.2.2.2]) = four T P := by
  rw [find_fs, map_fs, fs_flatMap]
  refine fs_congr fun a _ => ?_
  rw [fs_flatMap]
  refine fs_congr fun b _ => ?_
  rw [fs_flatMap]
  refine fs_congr fun c _ => ?_
  rw [fs_map]
  refine fs_congr fun d _ => ?_
  show Option.map _ (if P a b c d = true then some (a, b, c, d) else none) = _
  cases P a b c d <;> rfl
theorem pairs_fs {γ : Type} (o : Order) (F : Nat × Nat → Option γ) : (pairs o).findSome? F = (things o).findSome? fun a => (things o).findSome? fun b => if below o a b = true then F (a, b) else none := by
  unfold pairs
  rw [fs_flatMap]
  refine fs_congr fun a _ => ?_
  rw [fs_map, fs_filter]
theorem mem_pairs {o : Order} {p : Nat × Nat} (h : p ∈ pairs o) : p.1 ∈ things o ∧ p.2 ∈ things o := by
  unfold pairs at h
  rw [List.mem_flatMap] at h
  obtain ⟨a, ha, h⟩ := h
  rw [List.mem_map] at h
  obtain ⟨b, hb, e⟩ := h
  rw [← e]
  exact ⟨ha, (List.mem_filter.mp hb).1⟩
/-! ### two and two -/
def ttT (M : Mat) (p q : Nat × Nat) : Option (List Nat) := sel (!M p.1 q.2 && !M q.1 p.2) [p.1, p.2, q.1, q.2]
def ttO (o : Order) : Option (List Nat) := (pairs o).findSome? fun p => (pairs o).findSome? fun q => ttT (rel o) p q
theorem ttO_spec {o : Order} (g : Good o) : (twoTwo o).map (fun q => [q.1, q.2.1, q.2.2.1, q.2.2.2]) = ttO o := by
  have e := find4 (things o) fun a b c d => below o a b && (below o c d && (!below o a d && !below o c b))
  unfold twoTwo ttO
  rw [e, pairs_fs]
  unfold four
  refine fs_congr fun a ha => fs_congr fun b hb => ?_
  rw [pairs_fs]
  by_cases c1 : below o a b = true
  · rw [if_pos c1]
    refine fs_congr fun c hc => fs_congr fun d hd => ?_
    dsimp only
    rw [c1, Bool.true_and]
    unfold ttT
    show _ = if below o c d = true then (sel (!rel o a d && !rel o c b) [a, b, c, d]) else none
    rw [rel_below g ha, rel_below g hc]
    cases below o c d <;> rfl
  · rw [if_neg c1]
    refine Eq.trans (fs_congr fun c _ => Eq.trans (fs_congr fun d _ => ?_) (fs_none _)) (fs_none _)
    dsimp only
    rw [Bool.eq_false_iff.mpr c1]
    rfl
/-! ### three and one -/
def opM (M : Mat) (x y : Nat) : Bool := x != y && (!M x y && !M y x)
def toT (M : Mat) (p : Nat × Nat) (c d : Nat) : Option (List Nat) := sel (M p.2 c && [p.1, p.2, c].all (opM M d)) [p.1, p.2, c, d]
def toO (o : Order) : Option (List Nat) := (pairs o).findSome? fun p => (things o).findSome? fun c => (things o).findSome? fun d => toT (rel o) p c d
theorem toO_spec {o : Order} (g : Good o) : (threeOne o).map (fun q => [q.1, q.2.1, q.2.2.1, q.2.2.2]) = toO o := by
  have e := find4 (things o) fun a b c d => below o a b && (below o b c && (open_ o a d && (open_ o b d && (open_ o c d && (d != a && (d != b && d != c))))))
  unfold threeOne toO
  rw [e, pairs_fs]
  unfold four
  refine fs_congr fun a ha => fs_congr fun b hb => ?_
  by_cases c1 : below o a b = true
  · rw [if_pos c1]
    refine fs_congr fun c hc => fs_congr fun d hd => ?_
    have eq : (below o a b && (below o b c && (open_ o a d && (open_ o b d && (open_ o c d && (d != a && (d != b && d != c))))))) = (rel o b c && [a, b, c].all (opM (rel o) d)) := by
      unfold opM open_
      simp only [List.all_cons, List.all_nil]
      rw [rel_below g ha, rel_below g hb, rel_below g hb, rel_below g hc, rel_below g hd, rel_below g hd, rel_below g hd, c1]
      generalize below o b c = v1
      generalize below o a d = v2
      generalize below o d a = v3
      generalize below o b d = v4
      generalize below o d b = v5
      generalize below o c d = v6
      generalize below o d c = v7
      generalize (d != a) = v8
      generalize (d != b) = v9
      generalize (d != c) = v10
      cases v1 <;> cases v2 <;> cases v3 <;> cases v4 <;> cases v5 <;> cases v6 <;> cases v7 <;> cases v8 <;> cases v9 <;> cases v10 <;> rfl
    dsimp only
    rw [eq]
    rfl
  · rw [if_neg c1]
    refine Eq.trans (fs_congr fun c _ => Eq.trans (fs_congr fun d _ => ?_) (fs_none _)) (fs_none _)
    dsimp only
    rw [Bool.eq_false_iff.mpr c1]
    rfl
end Stt
set_option Elab.async false
set_option linter.all false
/-! The crowds: level by level, as the specification's choice among all subsets. -/
namespace Stt
open Or03
def comb : Nat → List Nat → List (List Nat)
  | 0, _ => [[]]
  | _ + 1, [] => []
  | k + 1, x :: l => (comb k l).map (fun s => x :: s) ++ comb (k + 1) l
theorem subsets_cons (x : Nat) (l : List Nat) : subsets (x :: l) = (subsets l).map (fun s => x :: s) ++ subsets l := rfl
theorem subsets_comb : ∀ (l : List Nat) (k : Nat), (subsets l).filter (fun s => s.length == k) = comb k l
  | [], 0 => rfl
  | [], _ + 1 => rfl
  | x :: l, 0 => by
    rw [subsets_cons, List.filter_append, List.filter_map, subsets_comb l 0]
    have e : (subsets l).filter ((fun s : List Nat => s.length == 0) ∘ fun s => x :: s) = [] := by
      rw [List.filter_eq_nil_iff]
      intro s _
      simp
    rw [e]
    cases l <;> rfl
  | x :: l, k + 1 => by
    rw [subsets_cons, List.filter_append, List.filter_map, subsets_comb l (k + 1)]
    have e : (subsets l).filter ((fun s : List Nat => s.length == k + 1) ∘ fun s => x :: s) = comb k l := by
      rw [← subsets_comb l k]
      refine List.filter_congr fun s _ => ?_
      show (s.length + 1 == k + 1) = (s.length == k)
      rw [Bool.eq_iff_iff, beq_iff_eq, beq_iff_eq]
      omega
    rw [e]
    rfl
theorem subsets_len : ∀ l : List Nat, (subsets l).length = 2 ^ l.length
  | [] => rfl
  | x :: l => by
    rw [subsets_cons, List.length_append, List.length_map, subsets_len l, List.length_cons, Nat.pow_succ]
    omega
theorem comb_len (k : Nat) (l : List Nat) : (comb k l).length ≤ 2 ^ l.length := by
  rw [← subsets_comb, ← subsets_len]
  exact List.length_filter_le _ _
theorem comb_sub : ∀ {k : Nat} {l s : List Nat}, s ∈ comb k l → s.Sublist l ∧ s.length = k
  | 0, l, s, h => by
    have h' : s ∈ [[]] := by
      cases l <;> exact h
    rw [List.mem_singleton] at h'
    rw [h']
    exact ⟨List.nil_sublist _, rfl⟩
  | k + 1, [], s, h => by cases h
  | k + 1, x :: l, s, h => by
    have h' : s ∈ (comb k l).map (fun s => x :: s) ++ comb (k + 1) l := h
    rw [List.mem_append, List.mem_map] at h'
    rcases h' with ⟨t, ht, e⟩ | h'
    · have ih := comb_sub ht
      rw [← e]
      exact ⟨ih.1.cons₂ x, by rw [List.length_cons, ih.2]⟩
    · have ih := comb_sub h'
      exact ⟨ih.1.cons x, ih.2⟩
theorem comb_one : ∀ l : List Nat, comb 1 l = l.map fun t => [t]
  | [] => rfl
  | x :: l => by
    show (comb 0 l).map (fun s => x :: s) ++ comb 1 l = [x] :: l.map fun t => [t]
    rw [comb_one l]
    cases l <;> rfl
/-! ### one thing more -/
def aft (l : List Nat) (t : Nat) : List Nat := l.filter fun y => decide (t < y)
def lastOf : List Nat → Nat
  | [] => 0
  | [a] => a
  | _ :: b :: l => lastOf (b :: l)
theorem lastOf_cons {a : Nat} {s : List Nat} (h : s ≠ []) : lastOf (a :: s) = lastOf s := by
  cases s with
  | nil => exact absurd rfl h
  | cons b s => rfl
theorem lastOf_snoc : ∀ {s : List Nat}, s ≠ [] → ∃ u, s = u ++ [lastOf s]
  | [], h => absurd rfl h
  | [a], _ => ⟨[], rfl⟩
  | a :: b :: l, _ => by
    obtain ⟨u, e⟩ := lastOf_snoc (s := b :: l) (by simp)
    refine ⟨a :: u, ?_⟩
    show a :: b :: l = a :: (u ++ [lastOf (b :: l)])
    rw [← e]
theorem last_mem {s : List Nat} (h : s ≠ []) : lastOf s ∈ s := by
  obtain ⟨u, e⟩ := lastOf_snoc h
  have : lastOf s ∈ u ++ [lastOf s] := by simp
  rw [← e] at this
  exact this
theorem le_last : ∀ {s : List Nat}, s.Pairwise (· < ·) → ∀ x ∈ s, x ≤ lastOf s
  | [], _, x, h => by cases h
  | [a], _, x, h => by
    rw [List.mem_singleton] at h
    rw [h]
    exact Nat.le_refl _
  | a :: b :: l, p, x, h => by
    rw [List.pairwise_cons] at p
    rw [lastOf_cons (by simp)]
    rcases List.mem_cons.mp h with e | e
    · rw [e]
      exact Nat.le_of_lt (p.1 _ (last_mem (by simp)))
    · exact le_last p.2 x e
def grown (l : List Nat) (S : List (List Nat)) : List (List Nat) := S.flatMap fun s => (aft l (lastOf s)).map fun t => s ++ [t]
theorem fm_congr {α β : Type} {f g : α → List β} : ∀ {l : List α}, (∀ x ∈ l, f x = g x) → l.flatMap f = l.flatMap g
  | [], _ => rfl
  | a :: l, h => by
    rw [List.flatMap_cons, List.flatMap_cons, h a List.mem_cons_self, fm_congr fun x hx => h x (List.mem_cons_of_mem _ hx)]
theorem aft_cons {x t : Nat} {l : List Nat} (h : x < t) : aft (x :: l) t = aft l t := by
  unfold aft
  rw [List.filter_cons_of_neg]
  rw [decide_eq_true_iff]
  omega
theorem grow_comb : ∀ {l : List Nat}, l.Pairwise (· < ·) → ∀ k, grown l (comb (k + 1) l) = comb (k + 2) l
  | [], _, k => rfl
  | x :: l, p, k => by
    rw [List.pairwise_cons] at p
    have e1 : comb (k + 1) (x :: l) = (comb k l).map (fun s => x :: s) ++ comb (k + 1) l := rfl
    have e2 : comb (k + 2) (x :: l) = (comb (k + 1) l).map (fun s => x :: s) ++ comb (k + 2) l := rfl
    have big : ∀ {j : Nat} {s : List Nat}, s ∈ comb (j + 1) l → s ≠ [] ∧ x < lastOf s := by
      intro j s hs
      obtain ⟨h1, h2⟩ := comb_sub hs
      have ne : s ≠ [] := fun z => by
        rw [z] at h2
        cases h2
      exact ⟨ne, p.1 _ (h1.subset (last_mem ne))⟩
    rw [e1, e2]
    unfold grown
    rw [List.flatMap_append, List.flatMap_map]
    congr 1
    · cases k with
      | zero =>
        have e3 : comb 0 l = [[]] := by cases l <;> rfl
        have e4 : aft (x :: l) x = l := by
          unfold aft
          rw [List.filter_cons_of_neg (by rw [decide_eq_true_iff]; omega), List.filter_eq_self]
          intro y hy
          exact decide_eq_true (p.1 y hy)
        rw [e3, comb_one, List.map_map]
        show (aft (x :: l) x).map (fun t => [x] ++ [t]) ++ [] = _
        rw [e4, List.append_nil]
        rfl
      | succ k =>
        rw [← grow_comb p.2 k]
        unfold grown
        rw [List.map_flatMap]
        refine fm_congr fun s hs => ?_
        obtain ⟨ne, lt⟩ := big hs
        rw [lastOf_cons ne, aft_cons lt, List.map_map]
        rfl
    · rw [← grow_comb p.2 k]
      unfold grown
      refine fm_congr fun s hs => ?_
      rw [aft_cons (big hs).2]
/-! ### crowds -/
def okB (o : Order) (s : List Nat) : Bool := s.all fun x => s.all fun y => x == y || open_ o x y
def lev (o : Order) (k : Nat) : List (List Nat) := (comb k (things o)).filter (okB o)
def largerM (n : Nat) (M : Mat) (S : List (List Nat)) : List (List Nat) := S.flatMap fun s => ((aft (th n) (lastOf s)).filter fun t => s.all (opM M t)).map fun t => s ++ [t]
theorem okB_iff {o : Order} {s : List Nat} : okB o s = true ↔ ∀ x ∈ s, ∀ y ∈ s, x = y ∨ (below o x y = false ∧ below o y x = false) := by
  unfold okB open_
  simp only [List.all_eq_true, Bool.or_eq_true, beq_iff_eq, Bool.and_eq_true, Bool.not_eq_true']
theorem ok_snoc {o : Order} (g : Good o) {s : List Nat} {t : Nat} (hs : ∀ x ∈ s, x ∈ things o) (ht : t ∈ things o) (lt : ∀ x ∈ s, x < t) : okB o (s ++ [t]) = (okB o s && s.all (opM (rel o) t)) := by
  rw [Bool.eq_iff_iff, Bool.and_eq_true, okB_iff, okB_iff, List.all_eq_true]
  constructor
  · intro h
    refine ⟨fun x hx y hy => h x (List.mem_append_left _ hx) y (List.mem_append_left _ hy), fun x hx => ?_⟩
    have k := h x (List.mem_append_left _ hx) t (List.mem_append_right _ (List.mem_singleton.mpr rfl))
    have l := lt x hx
    unfold opM
    rw [rel_below g ht, rel_below g (hs x hx), Bool.and_eq_true, Bool.and_eq_true, Bool.not_eq_true', Bool.not_eq_true', bne_iff_ne]
    rcases k with e | ⟨e1, e2⟩
    · omega
    · exact ⟨by omega, e2, e1⟩
  · rintro ⟨h1, h2⟩ x hx y hy
    have sym : ∀ z ∈ s, below o z t = false ∧ below o t z = false := fun z hz => by
      have k := h2 z hz
      unfold opM at k
      rw [rel_below g ht, rel_below g (hs z hz), Bool.and_eq_true, Bool.and_eq_true, Bool.not_eq_true', Bool.not_eq_true'] at k
      exact ⟨k.2.2, k.2.1⟩
    rw [List.mem_append, List.mem_singleton] at hx hy
    rcases hx with hx | hx <;> rcases hy with hy | hy
    · exact h1 x hx y hy
    · rw [hy]
      exact .inr (sym x hx)
    · rw [hx]
      exact .inr ⟨(sym y hy).2, (sym y hy).1⟩
    · exact .inl (hx.trans hy.symm)
theorem things_rise (o : Order) : (things o).Pairwise (· < ·) := by
  unfold things
  rw [List.pairwise_map]
  exact List.pairwise_lt_range.imp fun h => by omega
theorem filter_fm {α β : Type} (p : α → Bool) (f : α → List β) : ∀ l : List α, (l.filter p).flatMap f = l.flatMap fun x => if p x = true then f x else []
  | [] => rfl
  | a :: l => by
    rw [List.flatMap_cons, ← filter_fm p f l]
    by_cases c : p a = true
    · rw [List.filter_cons_of_pos c, List.flatMap_cons, if_pos c]
    · rw [List.filter_cons_of_neg c, if_neg c]
      rfl
theorem larger_lev {o : Order} (g : Good o) (k : Nat) : largerM o.many (rel o) (lev o (k + 1)) = lev o (k + 2) := by
  unfold lev largerM
  rw [← grow_comb (things_rise o) k, filter_fm]
  unfold grown
  rw [List.filter_flatMap]
  refine fm_congr fun s hs => ?_
  obtain ⟨h1, h2⟩ := comb_sub hs
  have srt : s.Pairwise (· < ·) := (things_rise o).sublist h1
  have lel := le_last srt
  rw [List.filter_map, th_things]
  have e : (aft (things o) (lastOf s)).filter (okB o ∘ fun t => s ++ [t]) = (aft (things o) (lastOf s)).filter fun t => okB o s && s.all (opM (rel o) t) := by
    refine List.filter_congr fun t ht => ?_
    unfold aft at ht
    rw [List.mem_filter, decide_eq_true_iff] at ht
    exact ok_snoc g (fun x hx => h1.subset hx) ht.1 fun x hx => Nat.lt_of_le_of_lt (lel x hx) ht.2
  rw [e]
  cases okB o s with
  | true =>
    rw [if_pos rfl]
    congr 1
  | false =>
    rw [if_neg (by decide)]
    simp
theorem lev_one (o : Order) : lev o 1 = (things o).map fun t => [t] := by
  unfold lev
  rw [comb_one, List.filter_eq_self]
  intro s hs
  rw [List.mem_map] at hs
  obtain ⟨t, _, e⟩ := hs
  rw [← e, okB_iff]
  intro x hx y hy
  rw [List.mem_singleton] at hx hy
  exact .inl (hx.trans hy.symm)
theorem lev_len {o : Order} (g : Good o) (k : Nat) : (lev o k).length ≤ 256 := by
  unfold lev
  refine Nat.le_trans (List.length_filter_le _ _) (Nat.le_trans (comb_len _ _) ?_)
  rw [things_len]
  have : 2 ^ o.many ≤ 2 ^ 8 := Nat.pow_le_pow_right (by decide) g.hi
  exact this
theorem lev_mem {o : Order} {k : Nat} {s : List Nat} (h : s ∈ lev o k) : s.length = k ∧ (∀ x ∈ s, x ∈ things o) ∧ k ≤ o.many := by
  unfold lev at h
  obtain ⟨h1, h2⟩ := comb_sub (List.mem_filter.mp h).1
  refine ⟨h2, fun x hx => h1.subset hx, ?_⟩
  have := h1.length_le
  rw [things_len] at this
  omega
/-! ### the choice -/
def pick (b s : List Nat) : List Nat := if b.length < s.length then s else b
theorem pick_stay : ∀ (L : List (List Nat)) (b : List Nat), (∀ s ∈ L, s.length ≤ b.length) → L.foldl pick b = b
  | [], b, _ => rfl
  | a :: L, b, h => by
    have ha := h a List.mem_cons_self
    rw [List.foldl_cons, show pick b a = b from if_neg (by omega)]
    exact pick_stay L b fun s hs => h s (List.mem_cons_of_mem _ hs)
theorem pick_first : ∀ (L : List (List Nat)) (b : List Nat) (m : Nat) (s : List Nat) (r : List (List Nat)), b.length < m → (∀ s ∈ L, s.length ≤ m) → L.filter (fun s => s.length == m) = s :: r → L.foldl pick b = s
  | [], b, m, s, r, _, _, e => by cases e
  | a :: L, b, m, s, r, hb, h, e => by
    have ha := h a List.mem_cons_self
    have hL : ∀ s ∈ L, s.length ≤ m := fun s hs => h s (List.mem_cons_of_mem _ hs)
    rw [List.foldl_cons]
    by_cases c : a.length = m
    · rw [List.filter_cons_of_pos (by rw [beq_iff_eq]; exact c)] at e
      have e1 : a = s := (List.cons.inj e).1
      rw [show pick b a = a from if_pos (by omega), ← e1]
      exact pick_stay L a fun s hs => by
        have := hL s hs
        omega
    · rw [List.filter_cons_of_neg (by rw [beq_iff_eq]; exact c)] at e
      refine pick_first L (pick b a) m s r ?_ hL e
      unfold pick
      split <;> omega
theorem lev_over {o : Order} (g : Good o) {k : Nat} (h : lev o (k + 1) = []) : ∀ j, lev o (k + 1 + j) = []
  | 0 => h
  | j + 1 => by
    have ih := lev_over g h j
    have e := larger_lev g (k + j)
    rw [show k + j + 1 = k + 1 + j by omega, ih] at e
    rw [show k + 1 + (j + 1) = k + j + 2 by omega, ← e]
    rfl
theorem crowd_of {o : Order} (g : Good o) {k : Nat} {s : List Nat} {r : List (List Nat)} (h : lev o (k + 1) = s :: r) (h2 : lev o (k + 2) = []) : crowd o = s := by
  have e : crowd o = ((subsets (things o)).filter (okB o)).foldl pick [] := rfl
  rw [e]
  have lv : ∀ m, ((subsets (things o)).filter (okB o)).filter (fun s => s.length == m) = lev o m := by
    intro m
    unfold lev
    rw [← subsets_comb, List.filter_filter, List.filter_filter]
    refine List.filter_congr fun s _ => ?_
    rw [Bool.and_comm]
  refine pick_first _ [] (k + 1) s r (by show 0 < _; omega) (fun t ht => ?_) ((lv _).trans h)
  refine Nat.le_of_not_lt fun lt => ?_
  have m : t ∈ lev o t.length := by
    rw [← lv, List.mem_filter]
    exact ⟨ht, beq_self_eq_true _⟩
  have z := lev_over g h2 (t.length - (k + 2))
  rw [show k + 1 + 1 + (t.length - (k + 2)) = t.length by omega] at z
  rw [z] at m
  cases m
end Stt
set_option Elab.async false
set_option maxRecDepth 100000
/-! Heaps: how the order, its matrix and lists of pairs lie in them. -/
namespace Stt
open PySem PySem.Spec PyProof.Rows L2
def topS (i : Nat) : Stmt := PySem.Challenge.pw_stretches_s01_answers.main.body.getD i (.Pass ⟨0, 0, 0, 0⟩)
/-! ### heaps -/
theorem same_upd {H : Hp} {p : Addr} {o : HO} (h : H p = none) : Same H (upd H p o) := fun b x e => by
  rw [upd_ne (ne_of_none e h)]
  exact e
/-- a store to what was not there -/
theorem same_put {H0 H : Hp} {p : Addr} {o : HO} (s : Same H0 H) (h : H0 p = none) : Same H0 (upd H p o) := fun b x e => by
  rw [upd_ne (ne_of_none e h)]
  exact s _ _ e
theorem ne_kind {H : Hp} {a b : Addr} {x y : HO} (h1 : H a = some x) (h2 : H b = some y) (n : x ≠ y) : a ≠ b := fun e => by
  subst e
  rw [h1] at h2
  exact n (Option.some.inj h2)
theorem keep_ne {H : Hp} {a b : Addr} {x y : HO} (h : H a = some x) (n : a ≠ b) : upd H b y a = some x := by
  rw [upd_ne n]
  exact h
theorem small_sz {n : Nat} (h : n ≤ 100000) : n < sizeLine := Nat.lt_of_le_of_lt h (by decide)
/-! ### a row of truths -/
def rowV (n : Nat) (f : Nat → Bool) : List V := (List.range (n + 1)).map fun y => .bl (f y)
theorem rowV_len (n : Nat) (f : Nat → Bool) : (rowV n f).length = n + 1 := by
  unfold rowV
  rw [List.length_map, List.length_range]
theorem range_get {n i : Nat} (h : i < n) : (List.range n)[i]? = some i := by
  rw [List.getElem?_range h]
theorem rowV_get {n : Nat} {f : Nat → Bool} {y : Nat} (h : y ≤ n) : (rowV n f)[y]? = some (.bl (f y)) := by
  unfold rowV
  rw [List.getElem?_map, range_get (Nat.lt_succ_of_le h)]
  rfl
def setF (f : Nat → Bool) (y : Nat) : Nat → Bool := fun z => if z = y then true else f z
theorem rowV_set {n : Nat} {f : Nat → Bool} {y : Nat} : (rowV n f).set y (.bl true) = rowV n (setF f y) := by
  apply List.ext_getElem?
  intro k
  by_cases hk : k ≤ n
  · by_cases e : y = k
    · subst e
      rw [List.getElem?_set_self (by rw [rowV_len]; omega), rowV_get hk]
      unfold setF
      rw [if_pos rfl]
    · rw [List.getElem?_set_ne e, rowV_get hk, rowV_get hk]
      unfold setF
      rw [if_neg (Ne.symm e)]
  · rw [List.getElem?_eq_none (by rw [List.length_set, rowV_len]; omega), List.getElem?_eq_none (by rw [rowV_len]; omega)]
def refsV (n : Nat) (r : Nat → Addr) : List V := (List.range (n + 1)).map fun x => .ref (r x)
theorem refsV_len (n : Nat) (r : Nat → Addr) : (refsV n r).length = n + 1 := by
  unfold refsV
  rw [List.length_map, List.length_range]
theorem refsV_get {n : Nat} {r : Nat → Addr} {y : Nat} (h : y ≤ n) : (refsV n r)[y]? = some (.ref (r y)) := by
  unfold refsV
  rw [List.getElem?_map, range_get (Nat.lt_succ_of_le h)]
  rfl
/-- the matrix M of n things lies at p, its rows at r -/
structure MatAt (H : Hp) (p : Addr) (n : Nat) (M : Mat) (r : Nat → Addr) : Prop where
  here : H p = some (.lst (refsV n r))
  row : ∀ x, x ≤ n → H (r x) = some (.lst (rowV n (M x)))
theorem MatAt.same {H H' : Hp} {p : Addr} {n : Nat} {M : Mat} {r : Nat → Addr} (h : MatAt H p n M r) (s : Same H H') : MatAt H' p n M r := ⟨s _ _ h.here, fun x hx => s _ _ (h.row x hx)⟩
/-- what over[x][y] asks, where it is read -/
theorem MatAt.cell {K : PySem.W.Frag} {H : Hp} {p : Addr} {n : Nat} {M : Mat} {r : Nat → Addr} (h : MatAt H p n M r) {σ : L2.St} {tp tx ty : TE} {x y : Nat} {Q : V → Hp → Prop}
    (hp : ∀ Q : V → Hp → Prop, Q (.ref p) H → tp σ H Q) (hx : ∀ Q : V → Hp → Prop, Q (.int x) H → tx σ H Q) (hy : ∀ Q : V → Hp → Prop, Q (.int y) H → ty σ H Q)
    (lx : x ≤ n) (ly : y ≤ n) (q : Q (.bl (M x y)) H) : tOp (rIxL K) (tOp (rIxL K) tp tx) ty σ H Q :=
  hp _ (hx _ ⟨p, _, _, _, rfl, rfl, SqL.of h.here, atI_nat (refsV_get lx), hy _ ⟨r x, _, _, _, rfl, rfl, SqL.of (h.row x lx), atI_nat (rowV_get ly), q⟩⟩)
/-! ### lists of pairs -/
def Tups (H : Hp) : List Addr → List (Nat × Nat) → Prop
  | [], [] => True
  | a :: as, p :: ps => H a = some (.tup [.int p.1, .int p.2]) ∧ Tups H as ps
  | _, _ => False
theorem Tups.len {H : Hp} : ∀ {as : List Addr} {ps : List (Nat × Nat)}, Tups H as ps → as.length = ps.length
  | [], [], _ => rfl
  | _ :: _, _ :: _, h => by
    rw [List.length_cons, List.length_cons, Tups.len h.2]
  | [], _ :: _, h => h.elim
  | _ :: _, [], h => h.elim
theorem Tups.snoc {H : Hp} {a : Addr} {p : Nat × Nat} (ha : H a = some (.tup [.int p.1, .int p.2])) : ∀ {as : List Addr} {ps : List (Nat × Nat)}, Tups H as ps → Tups H (as ++ [a]) (ps ++ [p])
  | [], [], _ => ⟨ha, trivial⟩
  | _ :: _, _ :: _, h => ⟨h.1, Tups.snoc ha h.2⟩
  | [], _ :: _, h => h.elim
  | _ :: _, [], h => h.elim
theorem Tups.mono {H H' : Hp} (s : ∀ a x y, H a = some (.tup [.int x, .int y]) → H' a = some (.tup [.int x, .int y])) : ∀ {as : List Addr} {ps : List (Nat × Nat)}, Tups H as ps → Tups H' as ps
  | [], [], _ => trivial
  | _ :: _, _ :: _, h => ⟨s _ _ _ h.1, Tups.mono s h.2⟩
  | [], _ :: _, h => h.elim
  | _ :: _, [], h => h.elim
theorem Tups.same {H H' : Hp} (s : Same H H') {as : List Addr} {ps : List (Nat × Nat)} (h : Tups H as ps) : Tups H' as ps := h.mono fun _ _ _ e => s _ _ e
theorem Tups.put {H : Hp} {q : Addr} {xs ys : List V} (hq : H q = some (.lst xs)) {as : List Addr} {ps : List (Nat × Nat)} (h : Tups H as ps) : Tups (upd H q (.lst ys)) as ps :=
  h.mono fun a x y e => keep_ne e (ne_kind e hq (by intro z; cases z))
theorem Tups.get {H : Hp} : ∀ {as : List Addr} {ps : List (Nat × Nat)} {k : Nat} {p : Nat × Nat}, Tups H as ps → ps[k]? = some p → ∃ a, as[k]? = some a ∧ H a = some (.tup [.int p.1, .int p.2])
  | a :: as, q :: ps, 0, p, h, e => by
    have e' : q = p := Option.some.inj e
    subst e'
    exact ⟨a, rfl, h.1⟩
  | a :: as, q :: ps, k + 1, p, h, e => Tups.get h.2 (k := k) e
  | [], [], k, p, h, e => by
    rw [List.getElem?_nil] at e
    cases e
  | [], _ :: _, _, _, h, _ => h.elim
  | _ :: _, [], _, _, h, _ => h.elim
theorem Tups.dropLast {H : Hp} : ∀ {as : List Addr} {ps : List (Nat × Nat)}, Tups H as ps → Tups H as.dropLast ps.dropLast
  | [], [], _ => trivial
  | [_], [_], _ => trivial
  | _ :: a :: as, _ :: p :: ps, h => ⟨h.1, Tups.dropLast (as := a :: as) (ps := p :: ps) h.2⟩
  | [_], _ :: _ :: _, h => h.2.elim
  | _ :: _ :: _, [_], h => h.2.elim
  | [], _ :: _, h => h.elim
  | _ :: _, [], h => h.elim
def refs (as : List Addr) : List V := as.map V.ref
theorem refs_snoc (as : List Addr) (a : Addr) : refs as ++ [V.ref a] = refs (as ++ [a]) := by
  unfold refs
  rw [List.map_append]
  rfl
theorem refs_len (as : List Addr) : (refs as).length = as.length := List.length_map _
/-- a list of pairs lies at q -/
def PairsAt (H : Hp) (q : Addr) (ps : List (Nat × Nat)) : Prop := ∃ as, H q = some (.lst (refs as)) ∧ Tups H as ps
theorem PairsAt.same {H H' : Hp} {q : Addr} {ps : List (Nat × Nat)} (h : PairsAt H q ps) (s : Same H H') : PairsAt H' q ps := let ⟨as, a, b⟩ := h; ⟨as, s _ _ a, b.same s⟩
theorem th_succ (n : Nat) : th (n + 1) = th n ++ [n + 1] := by
  unfold th
  rw [List.range_succ, List.map_append]
  rfl
theorem th_len (n : Nat) : (th n).length = n := by
  unfold th
  rw [List.length_map, List.length_range]
/-! ### range(1, n + 1) -/
theorem one_add (i : Nat) : (1 : Int) + (i : Int) = ((i + 1 : Nat) : Int) := by omega
theorem for_r1 {n : Nat} {m : Int} (hm : m = ((n + 1 : Nat) : Int)) {g : TG} {tb : TS} {D : Ends} {σ : L2.St} {H : Hp} (Pv : Nat → L2.St → Hp → Prop) (h0 : Pv 0 σ H)
    (hs : ∀ i σ H, i < n → Pv i σ H → g (.int ((i + 1 : Nat) : Int)) σ H fun σ2 H2 => tb { D with nx := Pv (i + 1), ct := Pv (i + 1), bk := D.nx } σ2 H2) (hd : ∀ σ H, Pv n σ H → D.nx σ H) :
    ∃ W : Nat → Nat → L2.St → Hp → Prop, (∃ k, W 0 k σ H) ∧ ∀ i k σ H, W i k σ H →
      ((Itr 1 (m - 1).toNat).stop i H ∧ D.nx σ H) ∨ ((Itr 1 (m - 1).toNat).go i H ∧ ∃ N : L2.St → Hp → Prop, (∀ σ' H', N σ' H' → ∃ m', m' < k ∧ W (i + 1) m' σ' H') ∧ ∀ x H', (Itr 1 (m - 1).toNat).yld i H x H' → g x σ H' fun σ2 H2 => tb { D with nx := N, ct := N, bk := D.nx } σ2 H2) := by
  have e : (m - 1).toNat = n := by omega
  rw [e]
  refine for_range Pv h0 (fun i σ H hi p => ?_) hd
  rw [one_add]
  exact hs i σ H hi p
theorem rb1 {n : Nat} {m : Int} (hm : m = ((n + 1 : Nat) : Int)) (h : n ≤ 100000) : -(2 ^ 62) ≤ (1 : Int) ∧ (1 : Int) < 2 ^ 62 ∧ -(2 ^ 62) ≤ m ∧ m < 2 ^ 62 := by omega
theorem refsV_leni (n : Nat) (r : Nat → Addr) : (((refsV n r).length : Nat) : Int) = ((n + 1 : Nat) : Int) := by rw [refsV_len]
end Stt
set_option Elab.async false
set_option maxRecDepth 100000
set_option maxHeartbeats 2000000
namespace Stt
open PySem PySem.Spec PyProof.Rows L2
/-! ### pairs_over -/
abbrev sPairs : Stmt := topS 2
theorem scPairs : FnScope ["over", "pairs", "x", "y"] ["over"] (defScope sPairs) := ⟨rfl, rfl, rfl, by decide +kernel, rfl, by decide +kernel, by decide +kernel⟩
def rowPairs (M : Mat) (x j : Nat) : List (Nat × Nat) := ((th j).filter (M x)).map fun y => (x, y)
def pairsM (n : Nat) (M : Mat) (i : Nat) : List (Nat × Nat) := (th i).flatMap fun x => rowPairs M x n
theorem rowPairs_zero (M : Mat) (x : Nat) : rowPairs M x 0 = [] := rfl
theorem rowPairs_succ (M : Mat) (x j : Nat) : rowPairs M x (j + 1) = rowPairs M x j ++ (if M x (j + 1) = true then [(x, j + 1)] else []) := by
  unfold rowPairs
  rw [th_succ, List.filter_append, List.map_append]
  by_cases c : M x (j + 1) = true
  · rw [List.filter_cons_of_pos c, if_pos c]
    rfl
  · rw [List.filter_cons_of_neg c, if_neg c]
    rfl
theorem pairsM_succ (n : Nat) (M : Mat) (i : Nat) : pairsM n M (i + 1) = pairsM n M i ++ rowPairs M (i + 1) n := by
  unfold pairsM
  rw [th_succ, List.flatMap_append, List.flatMap_singleton]
theorem rowPairs_len (M : Mat) (x j : Nat) : (rowPairs M x j).length ≤ j := by
  unfold rowPairs
  rw [List.length_map]
  exact Nat.le_trans (List.length_filter_le _ _) (by rw [th_len]; exact Nat.le_refl _)
theorem pairsM_len (n : Nat) (M : Mat) : ∀ i, (pairsM n M i).length ≤ i * n
  | 0 => Nat.zero_le _
  | i + 1 => by
    rw [pairsM_succ, List.length_append, Nat.succ_mul]
    exact Nat.add_le_add (pairsM_len n M i) (rowPairs_len _ _ _)
def spPairs : Sp := fun vs H Q _ => ∃ (p : Addr) (n : Nat) (M : Mat) (r : Nat → Addr), vs = [.ref p] ∧ MatAt H p n M r ∧ n ≤ 8 ∧
  ∀ H' q, Same H H' → H q = none → PairsAt H' q (pairsM n M n) → Q (.ref q) H'
theorem range_bounds {n : Nat} (h : n ≤ 100000) : -(2 ^ 62) ≤ (1 : Int) ∧ (1 : Int) < 2 ^ 62 ∧ -(2 ^ 62) ≤ ((n + 1 : Nat) : Int) ∧ ((n + 1 : Nat) : Int) < 2 ^ 62 := by omega
section
variable {P : Program} {w : World} {K : PySem.W.Frag} {mg : Str → Option Value} {base : Heap}
theorem ok_pairs {f : Addr} {fd : FuncData} {k : Nat} (F : Fun K "pairs_over" "pairs_over" sPairs f fd) (ml : mg "len" = none) (mr : mg "range" = none) : FnOk P w K mg base CX0 (k + 1) f fd ["over"] spPairs := by
  refine F.ok scPairs (fun vs H Q E h => ?_) (fun cdv A outer s H vs Q E hr h => ?_)
  · obtain ⟨a, n, M, r, rfl, _⟩ := h
    rfl
  · obtain ⟨p, n, M, r, rfl, hM, hn, q⟩ := h
    refine ⟨_, pss_cons (ps_set (i := 1) scPairs.nd rfl (.inl rfl) (pe_lst pa_nil))
      (pss_cons (ps_for PassesOwn.never rfl (pi_range2 (by rfl) mr (pa_cons pe_int (pa_cons (pe_callB call_len_seq (by rfl) ml PySem.boot_len (pa_cons (pv 0) pa_nil)) pa_nil)))
          (pg_name (i := 2) scPairs.nd rfl (.inl rfl))
        (pss_one (ps_for PassesOwn.never rfl (pi_range2 (by rfl) mr (pa_cons pe_int (pa_cons (pe_callB call_len_seq (by rfl) ml PySem.boot_len (pa_cons (pv 0) pa_nil)) pa_nil)))
          (pg_name (i := 3) scPairs.nd rfl (.inl rfl))
          (pss_one (ps_if (pt_val (pe_ix ix_list (pe_ix ix_list (pv 0) (pv 2) (fun _ _ => rfl)) (pv 3) (fun _ _ => rfl)))
            (pss_one (ps_expr (pe_bm PySem.F.plainAttrs_list PySem.F.slot_list_append PySem.F.type_list_append mt_append (pv 1) (pa_cons (pe_tup (pa_cons (pv 2) (pa_cons (pv 3) pa_nil))) pa_nil))))
            pss_nil)))))
      (pss_one (ps_ret (pv 1)))), ?_⟩
    -- pairs = []
    refine ⟨Nat.zero_le _, fun t nt => ?_⟩
    have s1 : Same H (upd H t (.lst [])) := same_upd nt
    -- range(1, len(over))
    refine ⟨.ref p, rfl, p, _, rfl, .inl (SqL.of (s1 _ _ hM.here)), 1, _, rfl, rb1 (refsV_leni n r) (by omega), ?_⟩
    refine for_r1 (refsV_leni n r) (fun i σ H' => ∃ vx vy, σ = [some (.ref p), some (.ref t), vx, vy] ∧ Same H H' ∧ PairsAt H' t (pairsM n M i)) ⟨none, none, rfl, s1, [], upd_same, trivial⟩ ?_ ?_
    · rintro i σ H1 hi ⟨vx, vy, rfl, sm, hP⟩
      refine ⟨.ref p, rfl, p, _, rfl, .inl (SqL.of (sm _ _ hM.here)), 1, _, rfl, rb1 (refsV_leni n r) (by omega), ?_⟩
      refine for_r1 (refsV_leni n r) (fun j σ H' => ∃ vy, σ = [some (.ref p), some (.ref t), some (.int ((i + 1 : Nat) : Int)), vy] ∧ Same H H' ∧ PairsAt H' t (pairsM n M i ++ rowPairs M (i + 1) j)) ⟨vy, rfl, sm, ?_⟩ ?_ ?_
      · rw [rowPairs_zero, List.append_nil]
        exact hP
      · rintro j σ H2 hj ⟨vy, rfl, sm2, as, ht, hT⟩
        refine (hM.same sm2).cell (fun Q h => ⟨_, rfl, h⟩) (fun Q h => ⟨_, rfl, h⟩) (fun Q h => ⟨_, rfl, h⟩) (by omega) (by omega) ⟨_, rfl, ?_⟩
        have e := rowPairs_succ M (i + 1) j
        refine ite2 (fun c => ?_) (fun c => ?_)
        · rw [if_pos c] at e
          refine ⟨.ref t, rfl, .inl ⟨rfl, _, SqL.of ht⟩, _, rfl, _, rfl, (by show 2 ≤ sizeLine; decide), fun u nu => ?_⟩
          have ht2 : (upd H2 u (.tup [.int ((i + 1 : Nat) : Int), .int ((j + 1 : Nat) : Int)])) t = some (.lst (refs as)) := same_upd nu _ _ ht
          refine ⟨t, _, _, rfl, rfl, ht2, ?_, ?_⟩
          · rw [refs_len, hT.len, List.length_append]
            have l1 := pairsM_len n M i
            have l2 := rowPairs_len M (i + 1) j
            have l3 : i * n ≤ 8 * 8 := Nat.mul_le_mul (by omega) hn
            exact small_sz (by omega)
          · refine ⟨_, rfl, same_put (sm2.trans (same_upd nu)) nt, as ++ [u], ?_, ?_⟩
            · rw [upd_same, refs_snoc]
            · rw [e, ← List.append_assoc]
              exact Tups.put ht2 (Tups.snoc (p := (i + 1, j + 1)) upd_same (hT.same (same_upd nu)))
        · rw [if_neg c, List.append_nil] at e
          refine ⟨_, rfl, sm2, as, ht, ?_⟩
          rw [e]
          exact hT
      · rintro σ H2 ⟨vy, rfl, sm2, hP2⟩
        refine ⟨_, _, rfl, sm2, ?_⟩
        rw [pairsM_succ]
        exact hP2
    · rintro σ H1 ⟨vx, vy, rfl, sm, hP⟩
      exact ⟨_, rfl, q _ _ sm nt hP⟩
end
end Stt
set_option Elab.async false
set_option maxRecDepth 100000
set_option maxHeartbeats 2000000
namespace Stt
open PySem PySem.Spec PyProof.Rows L2
/-! ### over_before: its matrix, changed cell by cell -/
def setM (M : Mat) (x y : Nat) : Mat := fun a b => if a = x ∧ b = y then true else M a b
theorem setM_row (M : Mat) (x y : Nat) : setM M x y x = setF (M x) y := by
  funext b
  unfold setM setF
  by_cases c : b = y
  · rw [if_pos ⟨rfl, c⟩, if_pos c]
  · rw [if_neg (fun z => c z.2), if_neg c]
theorem setM_other {M : Mat} {x y a : Nat} (h : a ≠ x) : setM M x y a = M a := by
  funext b
  unfold setM
  rw [if_neg (fun z => h z.1)]
def mix (M : Mat) (k i j : Nat) : Mat := fun a b => if 1 ≤ a ∧ 1 ≤ b ∧ (a ≤ i ∨ (a = i + 1 ∧ b ≤ j)) then phase M k a b else M a b
theorem mix_row (M : Mat) (k i j a : Nat) : mix M k i j a k = M a k := by
  unfold mix
  split
  · exact phase_row M k a
  · rfl
theorem mix_col (M : Mat) (k i j b : Nat) : mix M k i j k b = M k b := by
  unfold mix
  split
  · exact phase_col M k b
  · rfl
theorem mix_set {M : Mat} {k i j : Nat} (h1 : M (i + 1) k = true) (h2 : M k (j + 1) = true) : setM (mix M k i j) (i + 1) (j + 1) = mix M k i (j + 1) := by
  funext a b
  unfold setM mix
  by_cases c : a = i + 1 ∧ b = j + 1
  · obtain ⟨rfl, rfl⟩ := c
    rw [if_pos ⟨rfl, rfl⟩, if_pos (by omega)]
    exact (phase_iff.mpr (.inr ⟨h1, h2⟩)).symm
  · rw [if_neg c]
    by_cases d : 1 ≤ a ∧ 1 ≤ b ∧ (a ≤ i ∨ (a = i + 1 ∧ b ≤ j))
    · rw [if_pos d, if_pos (by omega)]
    · rw [if_neg d, if_neg (by omega)]
theorem mix_not {M : Mat} {k i j : Nat} (h : ¬ (M (i + 1) k = true ∧ M k (j + 1) = true)) : mix M k i j = mix M k i (j + 1) := by
  funext a b
  unfold mix
  by_cases c : a = i + 1 ∧ b = j + 1
  · obtain ⟨rfl, rfl⟩ := c
    rw [if_neg (by omega), if_pos (by omega)]
    rw [Bool.eq_iff_iff, phase_iff]
    exact ⟨fun z => .inl z, fun z => z.elim id fun z => absurd z h⟩
  · by_cases d : 1 ≤ a ∧ 1 ≤ b ∧ (a ≤ i ∨ (a = i + 1 ∧ b ≤ j))
    · rw [if_pos d, if_pos (by omega)]
    · rw [if_neg d, if_neg (by omega)]
theorem mix_start (M : Mat) (k : Nat) : mix M k 0 0 = M := by
  funext a b
  unfold mix
  rw [if_neg (by omega)]
theorem mix_next (M : Mat) (k i n : Nat) {a b : Nat} (hb : b ≤ n) : mix M k i n a b = mix M k (i + 1) 0 a b := by
  unfold mix
  by_cases d : 1 ≤ a ∧ 1 ≤ b ∧ (a ≤ i ∨ (a = i + 1 ∧ b ≤ n))
  · rw [if_pos d, if_pos (by omega)]
  · rw [if_neg d, if_neg (by omega)]
theorem mix_end {M : Mat} {k n a b : Nat} (ha : a ≤ n) (z1 : ∀ b, M 0 b = false) (z2 : ∀ a, M a 0 = false) : mix M k n 0 a b = phase M k a b := by
  unfold mix
  by_cases d : 1 ≤ a ∧ 1 ≤ b ∧ (a ≤ n ∨ (a = n + 1 ∧ b ≤ 0))
  · rw [if_pos d]
  · rw [if_neg d]
    unfold phase
    by_cases e : a = 0
    · subst e
      rw [z1, z1, Bool.false_and]
      rfl
    · have e2 : b = 0 := by omega
      subst e2
      rw [z2, z2, Bool.and_false]
      rfl
theorem phases_z {n : Nat} {t : List (Nat × Nat)} (g : ∀ p ∈ t, 1 ≤ p.1 ∧ p.1 ≤ n ∧ 1 ≤ p.2 ∧ p.2 ≤ n) (i a : Nat) : phases (mat0 t) i 0 a = false ∧ phases (mat0 t) i a 0 = false := by
  constructor
  · refine Bool.eq_false_iff.mpr fun h => ?_
    obtain ⟨z, hz⟩ := (phases_sound h).first
    have := (g _ hz).1
    omega
  · refine Bool.eq_false_iff.mpr fun h => ?_
    obtain ⟨z, hz⟩ := (phases_sound h).last
    have := (g _ hz).2.2.1
    omega
theorem mat0_take {t : List (Nat × Nat)} {i x y : Nat} (h : t[i]? = some (x, y)) : mat0 (t.take (i + 1)) = setM (mat0 (t.take i)) x y := by
  have e : t.take (i + 1) = t.take i ++ [(x, y)] := by rw [List.take_add_one, h]; rfl
  funext a b
  unfold mat0 setM
  rw [e, Bool.eq_iff_iff, List.contains_iff_mem, List.mem_append, List.mem_singleton]
  by_cases c : a = x ∧ b = y
  · obtain ⟨rfl, rfl⟩ := c
    rw [if_pos ⟨rfl, rfl⟩]
    exact ⟨fun _ => rfl, fun _ => .inr rfl⟩
  · rw [if_neg c, List.contains_iff_mem]
    constructor
    · rintro (z | z)
      · exact z
      · cases z
        exact absurd ⟨rfl, rfl⟩ c
    · exact fun z => .inl z
/-! the rows are the def's own -/
structure Rows (H0 : Hp) (n : Nat) (r : Nat → Addr) : Prop where
  inj : ∀ x y, x ≤ n → y ≤ n → r x = r y → x = y
  new : ∀ x, x ≤ n → H0 (r x) = none
theorem refs_ne_row (n : Nat) (r : Nat → Addr) (f : Nat → Bool) : HO.lst (refsV n r) ≠ HO.lst (rowV n f) := by
  intro e
  have e1 : refsV n r = rowV n f := HO.lst.inj e
  have e2 : (refsV n r)[0]? = (rowV n f)[0]? := by rw [e1]
  rw [refsV_get (Nat.zero_le _), rowV_get (Nat.zero_le _)] at e2
  cases e2
theorem MatAt.put {H : Hp} {p : Addr} {n : Nat} {M : Mat} {r : Nat → Addr} (h : MatAt H p n M r) (inj : ∀ x y, x ≤ n → y ≤ n → r x = r y → x = y) {x y : Nat} (hx : x ≤ n) :
    MatAt (upd H (r x) (.lst ((rowV n (M x)).set y (.bl true)))) p n (setM M x y) r := by
  refine ⟨?_, fun a ha => ?_⟩
  · rw [upd_ne (ne_kind h.here (h.row x hx) (refs_ne_row n r (M x)))]
    exact h.here
  · by_cases e : a = x
    · subst e
      rw [upd_same, rowV_set, setM_row]
    · rw [upd_ne fun z => e (inj a x ha hx z), setM_other e]
      exact h.row a ha
theorem MatAt.congr {H : Hp} {p : Addr} {n : Nat} {M M' : Mat} {r : Nat → Addr} (h : MatAt H p n M r) (e : ∀ a b, a ≤ n → b ≤ n → M a b = M' a b) : MatAt H p n M' r := by
  refine ⟨h.here, fun a ha => ?_⟩
  rw [h.row a ha]
  congr 2
  unfold rowV
  refine List.map_congr_left fun b hb => ?_
  rw [List.mem_range] at hb
  rw [e a b ha (by omega)]
/-- what over[x][y] = True asks -/
theorem MatAt.store {K : PySem.W.Frag} {H : Hp} {p : Addr} {n : Nat} {M : Mat} {r : Nat → Addr} (h : MatAt H p n M r) (inj : ∀ x y, x ≤ n → y ≤ n → r x = r y → x = y) {σ : L2.St} {tp tx ty : TE} {x y : Nat} {Q : L2.St → Hp → Prop}
    (hp : ∀ Q : V → Hp → Prop, Q (.ref p) H → tp σ H Q) (hx : ∀ Q : V → Hp → Prop, Q (.int x) H → tx σ H Q) (hy : ∀ Q : V → Hp → Prop, Q (.int y) H → ty σ H Q)
    (lx : x ≤ n) (ly : y ≤ n) (q : ∀ H', MatAt H' p n (setM M x y) r → (∀ b o, H b = some o → b ≠ r x → H' b = some o) → Q σ H') : gSub (tOp (rIxL K) tp tx) ty rSetL (.bl true) σ H Q :=
  hp _ (hx _ ⟨p, _, _, _, rfl, rfl, SqL.of h.here, atI_nat (refsV_get lx), hy _ ⟨r x, _, _, y, rfl, rfl, h.row x lx, by
    rw [rowV_len]
    unfold ixN
    rw [if_pos (by omega), if_pos (by omega)]
    simp, q _ (h.put inj lx) fun b o e ne => by
      rw [upd_ne ne]
      exact e⟩⟩)
abbrev sOver : Stmt := topS 1
theorem scOver : FnScope ["size", "told", "over", "x", "y", "between", "thing"] ["size", "told"] (defScope sOver) := ⟨rfl, rfl, rfl, by decide +kernel, rfl, by decide +kernel, by decide +kernel⟩
def Within (n : Nat) (t : List (Nat × Nat)) : Prop := ∀ p ∈ t, 1 ≤ p.1 ∧ p.1 ≤ n ∧ 1 ≤ p.2 ∧ p.2 ≤ n
def spOver : Sp := fun vs H Q _ => ∃ (n : Nat) (t : Addr) (told : List (Nat × Nat)), vs = [.int n, .ref t] ∧ n ≤ 8 ∧ Within n told ∧ PairsAt H t told ∧
  ∀ H' p r, Same H H' → H p = none → MatAt H' p n (phases (mat0 told) n) r → Q (.ref p) H'
theorem rep_false (n : Nat) : (List.replicate (n + 1) [V.bl false]).flatten = rowV n (fun _ => false) := by
  unfold rowV
  have e : ∀ m, (List.replicate m [V.bl false]).flatten = List.replicate m (V.bl false) := by
    intro m
    induction m with
    | zero => rfl
    | succ m ih => rw [List.replicate_succ, List.flatten_cons, ih, List.replicate_succ]; rfl
  rw [e]
  apply List.ext_getElem?
  intro k
  by_cases hk : k < n + 1
  · rw [List.getElem?_map, range_get hk, List.getElem?_replicate, if_pos hk]
    rfl
  · rw [List.getElem?_eq_none (by rw [List.length_replicate]; omega), List.getElem?_eq_none (by rw [List.length_map, List.length_range]; omega)]
def extR (r : Nat → Addr) (i : Nat) (v : Addr) : Nat → Addr := fun x => if x = i then v else r x
theorem extR_self (r : Nat → Addr) (i : Nat) (v : Addr) : extR r i v i = v := if_pos rfl
theorem extR_lt {r : Nat → Addr} {i x : Nat} {v : Addr} (h : x < i) : extR r i v x = r x := if_neg (by omega)
theorem extR_map (r : Nat → Addr) (i : Nat) (v : Addr) : ((List.range (i + 1)).map fun x => V.ref (extR r i v x)) = ((List.range i).map fun x => V.ref (r x)) ++ [V.ref v] := by
  rw [List.range_succ, List.map_append]
  have e : (List.range i).map (fun x => V.ref (extR r i v x)) = (List.range i).map fun x => V.ref (r x) := List.map_congr_left fun x hx => by
    rw [extR_lt (List.mem_range.mp hx)]
  rw [e, List.map_singleton, extR_self]
section
variable {P : Program} {w : World} {K : PySem.W.Frag} {mg : Str → Option Value} {base : Heap}
theorem ok_over {f : Addr} {fd : FuncData} {k : Nat} (F : Fun K "over_before" "over_before" sOver f fd) (mr : mg "range" = none) : FnOk P w K mg base CX0 (k + 1) f fd ["size", "told"] spOver := by
  refine F.ok scOver (fun vs H Q E h => ?_) (fun cdv A outer s H vs Q E hr h => ?_)
  · obtain ⟨n, t, told, rfl, _⟩ := h
    rfl
  · obtain ⟨n, t, told, rfl, hn, hw, hT, q⟩ := h
    refine ⟨_, pss_cons (ps_setLc (i := 2) (own := [("thing", 6)]) (g := gName 6) (tt := tYes) rfl scOver.nd rfl rfl (sw_true rfl rfl rfl (by decide +kernel))
          (pi_range1 (by rfl) mr (pa_cons (pe_op op_add (pv 0) pe_int) pa_nil))
          (blkOk_by (N := ["size", "told", "over", "x", "y", "between", "thing"]) (sc := defScope sOver) (by decide +kernel))
          (fun _ _ _ _ _ => pg_name (i := 6) scOver.nd rfl (Or.inl rfl)) (fun _ _ _ _ _ => pts_nil)
          (fun _ _ _ _ _ => pe_op op_rep (pe_lst (pa_cons pe_bl pa_nil)) (pe_op op_add (pv 0) pe_int)))
      (pss_cons (ps_for PassesOwn.never rfl (pi_list (pv 1)) (pg_tup rfl (pgs_cons (pg_name (i := 3) scOver.nd rfl (.inl rfl)) (pgs_cons (pg_name (i := 4) scOver.nd rfl (.inl rfl)) pgs_nil)))
          (pss_one (ps_asg pe_bl (pg_sub (pe_ix ix_list (pv 2) (pv 3) (fun _ _ => rfl)) (pv 4) set_list))))
      (pss_cons (ps_for PassesOwn.never rfl (pi_range2 (by rfl) mr (pa_cons pe_int (pa_cons (pe_op op_add (pv 0) pe_int) pa_nil))) (pg_name (i := 5) scOver.nd rfl (.inl rfl))
          (pss_one (ps_for PassesOwn.never rfl (pi_range2 (by rfl) mr (pa_cons pe_int (pa_cons (pe_op op_add (pv 0) pe_int) pa_nil))) (pg_name (i := 3) scOver.nd rfl (.inl rfl))
            (pss_one (ps_for PassesOwn.never rfl (pi_range2 (by rfl) mr (pa_cons pe_int (pa_cons (pe_op op_add (pv 0) pe_int) pa_nil))) (pg_name (i := 4) scOver.nd rfl (.inl rfl))
              (pss_one (ps_if (PW.pt (pw_and (pt_val (pe_ix ix_list (pe_ix ix_list (pv 2) (pv 3) (fun _ _ => rfl)) (pv 5) (fun _ _ => rfl)))
                  (pw_and1 (pt_val (pe_ix ix_list (pe_ix ix_list (pv 2) (pv 5) (fun _ _ => rfl)) (pv 4) (fun _ _ => rfl))))))
                (pss_one (ps_asg pe_bl (pg_sub (pe_ix ix_list (pv 2) (pv 3) (fun _ _ => rfl)) (pv 4) set_list)))
                pss_nil)))))))
      (pss_one (ps_ret (pv 2))))), ?_⟩
    -- over = [[False] * (size + 1) for thing in range(size + 1)]
    refine ⟨_, rfl, _, _, rfl, rfl, _, rfl, by omega, by omega, fun D nD => ?_⟩
    refine lc_range (lo := 0) (n := ((n : Int) + 1).toNat) (fun i H' => ∃ r : Nat → Addr, Same H H' ∧ H' D = some (.lst ((List.range i).map fun x => .ref (r x))) ∧
      (∀ x, x < i → H' (r x) = some (.lst (rowV n fun _ => false))) ∧ (∀ x y, x < i → y < i → r x = r y → x = y) ∧ ∀ x, x < i → H (r x) = none)
      ⟨fun _ => 0, same_upd nD, upd_same, fun x h => by omega, fun x y h => by omega, fun x h => by omega⟩ ?_ ?_
    · rintro i H' hi ⟨r, sm, eD, er, inj, new⟩
      refine ⟨rfl, (by show 1 ≤ sizeLine; decide), fun u nu => ?_⟩
      have su := same_upd (o := .lst [.bl false]) nu
      refine ⟨_, rfl, _, _, rfl, rfl, u, _, _, rfl, rfl, upd_same, by omega, by omega, ?_, fun v nv => ?_⟩
      · show 1 * _ ≤ sizeLine
        exact Nat.le_of_lt (small_sz (by omega))
      · have sv := same_upd (o := .lst (List.replicate ((n : Int) + 1).toNat [V.bl false]).flatten) nv
        have snv : H v = none := sm.free (su.free nv)
        refine ⟨_, sv _ _ (su _ _ eD), ?_, extR r i v, ?_, ?_, ?_, ?_, ?_⟩
        · rw [List.length_map, List.length_range]
          exact small_sz (by omega)
        · exact same_put (sm.trans (su.trans sv)) nD
        · rw [upd_same, extR_map]
        · intro x hx
          by_cases e : x = i
          · subst e
            rw [extR_self, upd_ne (fun z => ?_), upd_same, show ((n : Int) + 1).toNat = n + 1 by omega, rep_false]
            rw [z] at nv
            rw [su _ _ eD] at nv
            cases nv
          · have hx' : x < i := by omega
            rw [extR_lt hx', upd_ne (fun z => ?_)]
            · exact sv _ _ (su _ _ (er x hx'))
            · have := new x hx'
              have e1 := er x hx'
              rw [z, eD] at e1
              have e2 := HO.lst.inj (Option.some.inj e1)
              have e3 := congrArg (fun l => l[0]?) e2
              rw [rowV_get (Nat.zero_le _), List.getElem?_map] at e3
              cases q0 : (List.range i)[0]? with
              | none =>
                rw [q0] at e3
                cases e3
              | some z0 =>
                rw [q0] at e3
                cases e3
        · intro x y hx hy e
          by_cases ex : x = i <;> by_cases ey : y = i
          · omega
          · exfalso
            have hy' : y < i := by omega
            rw [ex, extR_self, extR_lt hy'] at e
            rw [e, su _ _ (er y hy')] at nv
            cases nv
          · exfalso
            have hx' : x < i := by omega
            rw [ey, extR_self, extR_lt hx'] at e
            rw [← e, su _ _ (er x hx')] at nv
            cases nv
          · rw [extR_lt (by omega), extR_lt (by omega)] at e
            exact inj x y (by omega) (by omega) e
        · intro x hx
          by_cases e : x = i
          · subst e
            rw [extR_self]
            exact snv
          · rw [extR_lt (by omega)]
            exact new x (by omega)
    · rintro H1 ⟨r, s1, eD, er, inj, new⟩
      have en : ((n : Int) + 1).toNat = n + 1 := by omega
      rw [en] at eD er inj new
      have inj' : ∀ x y, x ≤ n → y ≤ n → r x = r y → x = y := fun x y hx hy => inj x y (by omega) (by omega)
      have new' : ∀ x, x ≤ n → H (r x) = none := fun x hx => new x (by omega)
      have hM0 : MatAt H1 D n (mat0 (told.take 0)) r := ⟨eD, fun x hx => er x (by omega)⟩
      obtain ⟨as, ht, hT⟩ := hT
      -- for x, y in told
      refine ⟨_, rfl, t, rfl, ⟨_, SqL.of (s1 _ _ ht)⟩, for_list (K := K) (a := t) (xs := refs as) (fun i σ H' => ∃ vx vy, σ = [some (.int n), some (.ref t), some (.ref D), vx, vy, none, none] ∧ Same H H' ∧ MatAt H' D n (mat0 (told.take i)) r)
        ⟨none, none, rfl, s1, hM0⟩ (fun i σ H' _ ⟨_, _, _, s2, _⟩ => SqL.of (s2 _ _ ht)) ?_ ?_⟩
      · rintro i v σ H2 hi ⟨vx, vy, rfl, s2, hM⟩
        have hlt : i < told.length := by
          rw [← hT.len, ← refs_len]
          exact (List.getElem?_eq_some_iff.mp hi).1
        have hp : told[i]? = some told[i] := List.getElem?_eq_getElem hlt
        obtain ⟨a, ea, ha⟩ := hT.get hp
        have ev : v = .ref a := by
          unfold refs at hi
          rw [List.getElem?_map, ea] at hi
          exact (Option.some.inj hi).symm
        subst ev
        have hin := hw _ (List.getElem_mem hlt)
        refine ⟨a, _, rfl, .inl (.inl (s2 _ _ ha)), rfl, _, _, rfl, _, _, rfl, rfl, ?_⟩
        refine hM.store inj' (fun Q h => ⟨_, rfl, h⟩) (fun Q h => ⟨_, rfl, h⟩) (fun Q h => ⟨_, rfl, h⟩) hin.2.1 hin.2.2.2 fun H3 hM3 k3 => ⟨_, _, rfl, ?_, ?_⟩
        · exact fun b o e => k3 b o (s2 b o e) (ne_of_none e (new' _ hin.2.1))
        · rw [mat0_take hp]
          exact hM3
      · rintro σ H2 ⟨vx, vy, rfl, s2, hM⟩
        rw [refs_len, hT.len, List.take_length] at hM
        have zz := fun i a => phases_z hw i a
        -- for between in range(1, size + 1)
        refine ⟨_, rfl, _, _, rfl, rfl, 1, _, rfl, rb1 (n := n) (by omega) (by omega), ?_⟩
        refine for_r1 (n := n) (by omega) (fun i σ H' => ∃ vx vy vb, σ = [some (.int n), some (.ref t), some (.ref D), vx, vy, vb, none] ∧ Same H H' ∧ MatAt H' D n (phases (mat0 told) i) r) ⟨vx, vy, none, rfl, s2, hM⟩ ?_ ?_
        · rintro kk σ H3 hk ⟨vx, vy, vb, rfl, s3, hM3⟩
          refine ⟨_, rfl, _, _, rfl, rfl, 1, _, rfl, rb1 (n := n) (by omega) (by omega), ?_⟩
          refine for_r1 (n := n) (by omega) (fun i σ H' => ∃ vx vy, σ = [some (.int n), some (.ref t), some (.ref D), vx, vy, some (.int ((kk + 1 : Nat) : Int)), none] ∧ Same H H' ∧ MatAt H' D n (mix (phases (mat0 told) kk) (kk + 1) i 0) r) ⟨vx, vy, rfl, s3, ?_⟩ ?_ ?_
          · rw [mix_start]
            exact hM3
          · rintro i σ H4 hi ⟨vx, vy, rfl, s4, hM4⟩
            refine ⟨_, rfl, _, _, rfl, rfl, 1, _, rfl, rb1 (n := n) (by omega) (by omega), ?_⟩
            refine for_r1 (n := n) (by omega) (fun j σ H' => ∃ vy, σ = [some (.int n), some (.ref t), some (.ref D), some (.int ((i + 1 : Nat) : Int)), vy, some (.int ((kk + 1 : Nat) : Int)), none] ∧ Same H H' ∧ MatAt H' D n (mix (phases (mat0 told) kk) (kk + 1) i j) r) ⟨vy, rfl, s4, hM4⟩ ?_ ?_
            · rintro j σ H5 hj ⟨vy, rfl, s5, hM5⟩
              refine hM5.cell (fun Q h => ⟨_, rfl, h⟩) (fun Q h => ⟨_, rfl, h⟩) (fun Q h => ⟨_, rfl, h⟩) (by omega) (by omega) ⟨_, rfl, ?_⟩
              rw [mix_row]
              refine ite2 (fun c1 => ?_) (fun c1 => ?_)
              · refine hM5.cell (fun Q h => ⟨_, rfl, h⟩) (fun Q h => ⟨_, rfl, h⟩) (fun Q h => ⟨_, rfl, h⟩) (by omega) (by omega) ⟨_, rfl, ?_⟩
                rw [mix_col]
                refine ite2 (fun c2 => ?_) (fun c2 => ?_)
                · refine hM5.store inj' (fun Q h => ⟨_, rfl, h⟩) (fun Q h => ⟨_, rfl, h⟩) (fun Q h => ⟨_, rfl, h⟩) (by omega) (by omega) fun H6 hM6 k6 => ⟨_, rfl, ?_, ?_⟩
                  · exact fun b o e => k6 b o (s5 b o e) (ne_of_none e (new' _ (by omega)))
                  · rw [← mix_set c1 c2]
                    exact hM6
                · refine ⟨_, rfl, s5, ?_⟩
                  rw [← mix_not fun z => c2 z.2]
                  exact hM5
              · refine iteF ⟨_, rfl, s5, ?_⟩
                rw [← mix_not fun z => c1 z.1]
                exact hM5
            · rintro σ H5 ⟨vy, rfl, s5, hM5⟩
              exact ⟨_, _, rfl, s5, hM5.congr fun a b _ hb => mix_next _ _ _ _ hb⟩
          · rintro σ H4 ⟨vx, vy, rfl, s4, hM4⟩
            refine ⟨_, _, _, rfl, s4, ?_⟩
            rw [phases_succ]
            exact hM4.congr fun a b ha _ => mix_end ha (fun b => (zz kk b).1) (fun a => (zz kk a).2)
        · rintro σ H3 ⟨vx, vy, vb, rfl, s3, hM3⟩
          exact ⟨_, rfl, q _ _ _ s3 nD hM3⟩
end
end Stt
set_option Elab.async false
set_option maxRecDepth 100000
set_option maxHeartbeats 2000000
set_option linter.all false
namespace Stt
open PySem PySem.Spec PyProof.Rows L2
/-! ### lists of things, lists of such lists -/
def natsV (l : List Nat) : List V := l.map fun x => .int (x : Nat)
theorem natsV_len (l : List Nat) : (natsV l).length = l.length := List.length_map _
theorem natsV_snoc (l : List Nat) (x : Nat) : natsV (l ++ [x]) = natsV l ++ [.int (x : Nat)] := by
  unfold natsV
  rw [List.map_append]
  rfl
theorem natsV_get {l : List Nat} {i x : Nat} (h : l[i]? = some x) : (natsV l)[i]? = some (.int x) := by
  unfold natsV
  rw [List.getElem?_map, h]
  rfl
theorem natsV_of {l : List Nat} {i : Nat} {v : V} (h : (natsV l)[i]? = some v) : ∃ x : Nat, l[i]? = some x ∧ v = .int (x : Nat) := by
  unfold natsV at h
  rw [List.getElem?_map] at h
  cases e : l[i]? with
  | none =>
    rw [e] at h
    cases h
  | some x =>
    rw [e] at h
    exact ⟨x, rfl, (Option.some.inj h).symm⟩
theorem natsV_flat (l : List Nat) : (natsV l).all flatV = true := by
  rw [List.all_eq_true]
  intro v hv
  unfold natsV at hv
  obtain ⟨x, _, rfl⟩ := List.mem_map.mp hv
  rfl
theorem inV_nats (x : Nat) (l : List Nat) : inV (.int (x : Nat)) (natsV l) = l.contains x := by
  rw [Bool.eq_iff_iff, List.contains_iff_mem]
  unfold inV natsV
  rw [List.any_eq_true]
  constructor
  · rintro ⟨v, hv, e⟩
    obtain ⟨y, hy, rfl⟩ := List.mem_map.mp hv
    have e1 : ((y : Int) == (x : Int)) = true := e
    have e2 : (y : Int) = (x : Int) := eq_of_beq e1
    have e3 : y = x := by omega
    subst e3
    exact hy
  · intro h
    refine ⟨_, List.mem_map.mpr ⟨x, h, rfl⟩, ?_⟩
    show ((x : Int) == (x : Int)) = true
    exact beq_self_eq_true _
def Lsts (H : Hp) : List Addr → List (List Nat) → Prop
  | [], [] => True
  | a :: as, s :: ss => H a = some (.lst (natsV s)) ∧ Lsts H as ss
  | _, _ => False
theorem Lsts.len {H : Hp} : ∀ {as : List Addr} {ps : List (List Nat)}, Lsts H as ps → as.length = ps.length
  | [], [], _ => rfl
  | _ :: _, _ :: _, h => by
    rw [List.length_cons, List.length_cons, Lsts.len h.2]
  | [], _ :: _, h => h.elim
  | _ :: _, [], h => h.elim
theorem Lsts.snoc {H : Hp} {a : Addr} {p : List Nat} (ha : H a = some (.lst (natsV p))) : ∀ {as : List Addr} {ps : List (List Nat)}, Lsts H as ps → Lsts H (as ++ [a]) (ps ++ [p])
  | [], [], _ => ⟨ha, trivial⟩
  | _ :: _, _ :: _, h => ⟨h.1, Lsts.snoc ha h.2⟩
  | [], _ :: _, h => h.elim
  | _ :: _, [], h => h.elim
theorem Lsts.mono {H H' : Hp} (s : ∀ a l, H a = some (.lst (natsV l)) → H' a = some (.lst (natsV l))) : ∀ {as : List Addr} {ps : List (List Nat)}, Lsts H as ps → Lsts H' as ps
  | [], [], _ => trivial
  | _ :: _, _ :: _, h => ⟨s _ _ h.1, Lsts.mono s h.2⟩
  | [], _ :: _, h => h.elim
  | _ :: _, [], h => h.elim
theorem Lsts.same {H H' : Hp} (s : Same H H') {as : List Addr} {ps : List (List Nat)} (h : Lsts H as ps) : Lsts H' as ps := h.mono fun _ _ e => s _ _ e
theorem Lsts.get {H : Hp} : ∀ {as : List Addr} {ps : List (List Nat)} {k : Nat} {p : List Nat}, Lsts H as ps → ps[k]? = some p → ∃ a, as[k]? = some a ∧ H a = some (.lst (natsV p))
  | a :: as, q :: ps, 0, p, h, e => by
    have e' : q = p := Option.some.inj e
    subst e'
    exact ⟨a, rfl, h.1⟩
  | a :: as, q :: ps, k + 1, p, h, e => Lsts.get h.2 (k := k) e
  | [], [], k, p, h, e => by
    rw [List.getElem?_nil] at e
    cases e
  | [], _ :: _, _, _, h, _ => h.elim
  | _ :: _, [], _, _, h, _ => h.elim
/-- a store to a list of references leaves lists of things -/
theorem Lsts.put {H : Hp} {q : Addr} {bs : List Addr} {o : HO} (ha : ∀ a ∈ bs, a ≠ q) : ∀ {ps : List (List Nat)}, Lsts H bs ps → Lsts (upd H q o) bs ps := by
  induction bs with
  | nil =>
    intro ps h
    cases ps with
    | nil => trivial
    | cons _ _ => exact h.elim
  | cons b bs ih =>
    intro ps h
    cases ps with
    | nil => exact h.elim
    | cons p ps =>
      refine ⟨?_, ih (fun a h' => ha a (List.mem_cons_of_mem _ h')) h.2⟩
      rw [upd_ne (ha b List.mem_cons_self)]
      exact h.1
def SetsAt (H : Hp) (q : Addr) (ss : List (List Nat)) : Prop := ∃ as, H q = some (.lst (refs as)) ∧ Lsts H as ss
theorem SetsAt.same {H H' : Hp} {q : Addr} {ps : List (List Nat)} (h : SetsAt H q ps) (s : Same H H') : SetsAt H' q ps := let ⟨as, a, b⟩ := h; ⟨as, s _ _ a, b.same s⟩
/-! as data -/
def dS (s : List Nat) : PyData := .list (s.map fun x => .int (x : Nat))
theorem dS_lay (s : List Nat) : (dS s).canLay0 = true := by
  unfold dS
  simp only [PyData.canLay0]
  induction s with
  | nil => simp [PyData.canLayAll0]
  | cons a s ih => simp [PyData.canLayAll0, PyData.canLay0, ih]
theorem dInts_depth : ∀ s : List Nat, PyData.depthAll (s.map fun x => PyData.int (x : Nat)) ≤ 1
  | [] => by simp [PyData.depthAll]
  | a :: s => by
    have := dInts_depth s
    simp only [List.map_cons, PyData.depthAll, PyData.depth]
    omega
theorem dS_depth (s : List Nat) : (dS s).depth ≤ 2 := by
  have := dInts_depth s
  unfold dS
  simp only [PyData.depth]
  omega
theorem dS_shaped (s : List Nat) : SeqAt.shaped (dS s) = true := by
  have := dS_depth s
  show ((dS s).canLay0 && decide ((dS s).depth ≤ 64)) = true
  rw [Bool.and_eq_true]
  exact ⟨dS_lay s, decide_eq_true (by omega)⟩
theorem dSs_lay : ∀ ss : List (List Nat), PyData.canLayAll0 (ss.map dS) = true
  | [] => by simp [PyData.canLayAll0]
  | s :: ss => by simp [PyData.canLayAll0, dS_lay s, dSs_lay ss]
theorem dSs_depth : ∀ ss : List (List Nat), PyData.depthAll (ss.map dS) ≤ 2
  | [] => by simp [PyData.depthAll]
  | s :: ss => by
    have h1 := dSs_depth ss
    have h2 := dS_depth s
    simp only [List.map_cons, PyData.depthAll]
    omega
theorem dSs_shaped (ss : List (List Nat)) : SeqAt.shaped (.list (ss.map dS)) = true := by
  have h1 := dSs_depth ss
  have h2 : PyData.depth (.list (ss.map dS)) ≤ 64 := by
    simp only [PyData.depth]
    omega
  show (PyData.canLay0 (.list (ss.map dS)) && decide (PyData.depth (.list (ss.map dS)) ≤ 64)) = true
  rw [Bool.and_eq_true]
  exact ⟨by simp only [PyData.canLay0]; exact dSs_lay ss, decide_eq_true h2⟩
theorem dS_eqv : ∀ a b : List Nat, PyData.eqv (dS a) (dS b) = (a == b)
  | [], [] => by simp [dS, PyData.eqv, PyData.eqvAll]
  | [], _ :: _ => by simp [dS, PyData.eqv, PyData.eqvAll]
  | _ :: _, [] => by simp [dS, PyData.eqv, PyData.eqvAll]
  | x :: a, y :: b => by
    have ih := dS_eqv a b
    unfold dS at ih ⊢
    simp only [PyData.eqv] at ih
    simp only [List.map_cons, PyData.eqv, PyData.eqvAll, ih]
    show ((x : Int) == (y : Int) && (a == b)) = (x == y && a == b)
    congr 1
    rw [Bool.eq_iff_iff, beq_iff_eq, beq_iff_eq]
    omega
theorem any_dS (ss : List (List Nat)) (s : List Nat) : ((ss.map dS).any fun z => PyData.eqv z (dS s)) = ss.contains s := by
  rw [Bool.eq_iff_iff, List.any_eq_true, List.contains_iff_mem]
  constructor
  · rintro ⟨z, hz, e⟩
    obtain ⟨t, ht, rfl⟩ := List.mem_map.mp hz
    rw [dS_eqv, beq_iff_eq] at e
    subst e
    exact ht
  · intro h
    exact ⟨_, List.mem_map.mpr ⟨s, h, rfl⟩, by rw [dS_eqv]; exact beq_self_eq_true _⟩
theorem dpAll_nats {K : PySem.W.Frag} {H : Hp} : ∀ l : List Nat, DpAll K H (natsV l) (l.map fun x => .int (x : Nat))
  | [] => .nil
  | x :: l => .cons (.int _) (dpAll_nats l)
theorem dp_list {K : PySem.W.Frag} {H : Hp} {a : Addr} {l : List Nat} (h : H a = some (.lst (natsV l))) : Dp K H (.ref a) (dS l) := .lst (SqL.of h) (dpAll_nats l)
theorem dpAll_sets {K : PySem.W.Frag} {H : Hp} : ∀ {as : List Addr} {ss : List (List Nat)}, Lsts H as ss → DpAll K H (refs as) (ss.map dS)
  | [], [], _ => .nil
  | a :: as, s :: ss, h => .cons (dp_list h.1) (dpAll_sets h.2)
  | [], _ :: _, h => h.elim
  | _ :: _, [], h => h.elim
theorem dp_sets {K : PySem.W.Frag} {H : Hp} {q : Addr} {as : List Addr} {ss : List (List Nat)} (h : H q = some (.lst (refs as))) (l : Lsts H as ss) : Dp K H (.ref q) (.list (ss.map dS)) := .lst (SqL.of h) (dpAll_sets l)
theorem befM_len (n : Nat) (M : Mat) (t : Nat) : (befM n M t).length ≤ n := by
  unfold befM
  exact Nat.le_trans (List.length_filter_le _ _) (by rw [th_len]; exact Nat.le_refl _)
theorem units65 {k : Nat} {A : Around} (hr : Room k A) : A.units + 65 < cLine := by
  have := hr.un
  omega
/-! ### all_before -/
abbrev sBef : Stmt := topS 3
theorem scBef : FnScope ["over", "thing", "x"] ["over", "thing"] (defScope sBef) := ⟨rfl, rfl, rfl, by decide +kernel, rfl, by decide +kernel, by decide +kernel⟩
def spBef : Sp := fun vs H Q _ => ∃ (p : Addr) (n : Nat) (M : Mat) (r : Nat → Addr) (t : Nat), vs = [.ref p, .int t] ∧ MatAt H p n M r ∧ n ≤ 8 ∧ t ≤ n ∧
  ∀ H' q, Same H H' → H q = none → H' q = some (.lst (natsV (befM n M t))) → Q (.ref q) H'
theorem bef_succ (M : Mat) (t i : Nat) : (th (i + 1)).filter (fun x => M x t) = (th i).filter (fun x => M x t) ++ (if M (i + 1) t = true then [i + 1] else []) := by
  rw [th_succ, List.filter_append]
  by_cases c : M (i + 1) t = true
  · rw [List.filter_cons_of_pos (p := fun x => M x t) c, if_pos c]
    rfl
  · rw [List.filter_cons_of_neg (p := fun x => M x t) c, if_neg c]
    rfl
theorem befI_len (M : Mat) (t i : Nat) : ((th i).filter fun x => M x t).length ≤ i := Nat.le_trans (List.length_filter_le _ _) (by rw [th_len]; exact Nat.le_refl _)
section
variable {P : Program} {w : World} {K : PySem.W.Frag} {mg : Str → Option Value} {base : Heap}
theorem ok_bef {f : Addr} {fd : FuncData} {k : Nat} (F : Fun K "all_before" "all_before" sBef f fd) (ml : mg "len" = none) (mr : mg "range" = none) : FnOk P w K mg base CX0 (k + 1) f fd ["over", "thing"] spBef := by
  refine F.ok scBef (fun vs H Q E h => ?_) (fun cdv A outer s H vs Q E hr h => ?_)
  · obtain ⟨p, n, M, r, t, rfl, _⟩ := h
    rfl
  · obtain ⟨p, n, M, r, t, rfl, hM, hn, ht, q⟩ := h
    refine ⟨_, pss_one (ps_ret (pe_lc (own := [("x", 2)]) (g := gName 2) (tt := tB (tOp (rIxL K) (tOp (rIxL K) (tVar 0) (tVar 2)) (tVar 1))) (te := tVar 2) rfl scBef.nd (pi_range2 (by rfl) mr (pa_cons pe_int (pa_cons (pe_callB call_len_seq (by rfl) ml PySem.boot_len (pa_cons (pv 0) pa_nil)) pa_nil)))
        (blkOk_by (N := ["over", "thing", "x"]) (sc := defScope sBef) (by decide +kernel))
        (fun _ _ _ _ _ => pg_name (i := 2) scBef.nd rfl (Or.inl rfl))
        (fun _ _ _ _ _ => pts_one (pt_val (pe_ix ix_list (pe_ix ix_list (pv 0) (pv 2) (fun _ _ => rfl)) (pv 1) (fun _ _ => rfl))))
        (fun _ _ _ _ _ => pv 2))), ?_⟩
    refine ⟨.ref p, rfl, p, _, rfl, .inl (SqL.of hM.here), 1, _, rfl, rb1 (refsV_leni n r) (by omega), fun D nD => ?_⟩
    have en : (((refsV n r).length : Int) - 1).toNat = n := by rw [refsV_len]; omega
    rw [en]
    refine lc_range (lo := 1) (n := n) (fun i H' => Same H H' ∧ H' D = some (.lst (natsV ((th i).filter fun x => M x t)))) ⟨same_upd nD, upd_same⟩ ?_ ?_
    · rintro i H1 hi ⟨sm, eD⟩
      rw [one_add]
      refine ⟨rfl, ?_⟩
      refine (hM.same sm).cell (fun Q h => ⟨_, rfl, h⟩) (fun Q h => ⟨_, rfl, h⟩) (fun Q h => ⟨_, rfl, h⟩) (by omega) ht ⟨_, rfl, ?_⟩
      have e := bef_succ M t i
      refine ite2 (fun c => ?_) (fun c => ?_)
      · rw [if_pos c] at e
        refine ⟨_, rfl, _, eD, ?_, same_put sm nD, ?_⟩
        · rw [natsV_len]
          exact small_sz (Nat.le_trans (befI_len M t i) (by omega))
        · rw [upd_same, e, natsV_snoc]
      · rw [if_neg c, List.append_nil] at e
        rw [e]
        exact ⟨sm, eD⟩
    · rintro H1 ⟨sm, eD⟩
      exact q _ _ sm nD eD
/-! ### sets_before -/
abbrev sSets : Stmt := topS 4
theorem scSets : FnScope ["over", "sets", "thing", "before"] ["over"] (defScope sSets) := ⟨rfl, rfl, rfl, by decide +kernel, rfl, by decide +kernel, by decide +kernel⟩
def setsI (n : Nat) (M : Mat) (i : Nat) : List (List Nat) := Or03.distinct ((th i).map (befM n M))
theorem setsI_succ (n : Nat) (M : Mat) (i : Nat) : setsI n M (i + 1) = if (setsI n M i).contains (befM n M (i + 1)) = true then setsI n M i else setsI n M i ++ [befM n M (i + 1)] := by
  unfold setsI Or03.distinct
  rw [th_succ, List.map_append, List.foldl_append]
  rfl
theorem setsI_len (n : Nat) (M : Mat) : ∀ i, (setsI n M i).length ≤ i
  | 0 => Nat.le_refl _
  | i + 1 => by
    have := setsI_len n M i
    rw [setsI_succ]
    split
    · omega
    · rw [List.length_append, List.length_singleton]
      omega
def spSets : Sp := fun vs H Q _ => ∃ (p : Addr) (n : Nat) (M : Mat) (r : Nat → Addr), vs = [.ref p] ∧ MatAt H p n M r ∧ n ≤ 8 ∧
  ∀ H' q, Same H H' → H q = none → SetsAt H' q (setsM n M) → Q (.ref q) H'
theorem ok_sets {f fB : Addr} {fd fdB : FuncData} {k : Nat} (F : Fun K "sets_before" "sets_before" sSets f fd) (FB : Fun K "all_before" "all_before" sBef fB fdB) (bB : Binds K fdB ["over", "thing"] []) (gB : mg "all_before" = some (.ref fB))
    (ml : mg "len" = none) (mr : mg "range" = none) : FnOk P w K mg base CX0 (k + 2) f fd ["over"] spSets := by
  have GB : FnOk P w K mg base CX0 (k + 1) fB fdB ["over", "thing"] spBef := ok_bef FB ml mr
  refine F.ok scSets (fun vs H Q E h => ?_) (fun cdv A outer s H vs Q E hr h => ?_)
  · obtain ⟨p, n, M, r, rfl, _⟩ := h
    rfl
  · obtain ⟨p, n, M, r, rfl, hM, hn, q⟩ := h
    refine ⟨_, pss_cons (ps_set (i := 1) scSets.nd rfl (.inl rfl) (pe_lst pa_nil))
      (pss_cons (ps_for PassesOwn.never rfl (pi_range2 (by rfl) mr (pa_cons pe_int (pa_cons (pe_callB call_len_seq (by rfl) ml PySem.boot_len (pa_cons (pv 0) pa_nil)) pa_nil)))
          (pg_name (i := 2) scSets.nd rfl (.inl rfl))
        (pss_cons (ps_set (i := 3) scSets.nd rfl (.inl rfl) (pe_call GB hr (by rfl) gB FB.kp bB .nil pass0 (pa_cons (pv 0) (pa_cons (pv 2) pa_nil))))
        (pss_one (ps_if (pt_cmpR (op_notInD (units65 hr)) (pv 3) (pv 1) (by rfl))
            (pss_one (ps_expr (pe_bm PySem.F.plainAttrs_list PySem.F.slot_list_append PySem.F.type_list_append mt_append (pv 1) (pa_cons (pv 3) pa_nil))))
            pss_nil))))
      (pss_one (ps_ret (pv 1)))), ?_⟩
    -- sets = []
    refine ⟨Nat.zero_le _, fun t nt => ?_⟩
    have s1 : Same H (upd H t (.lst [])) := same_upd nt
    refine ⟨.ref p, rfl, p, _, rfl, .inl (SqL.of (s1 _ _ hM.here)), 1, _, rfl, rb1 (refsV_leni n r) (by omega), ?_⟩
    refine for_r1 (refsV_leni n r) (fun i σ H' => ∃ vx vy as, σ = [some (.ref p), some (.ref t), vx, vy] ∧ Same H H' ∧ H' t = some (.lst (refs as)) ∧ (∀ a ∈ as, a ≠ t) ∧ Lsts H' as (setsI n M i)) ⟨none, none, [], rfl, s1, upd_same, (fun a h => by cases h), trivial⟩ ?_ ?_
    · rintro i σ H1 hi ⟨vx, vy, as, rfl, sm, et, ne, hL⟩
      refine ⟨_, rfl, _, rfl, p, n, M, r, i + 1, rfl, hM.same sm, hn, by omega, fun H2 b s2 nb eb => ?_⟩
      have hL2 := hL.same s2
      have et2 := s2 _ _ et
      refine ⟨_, rfl, _, rfl, dS (befM n M (i + 1)), (setsI n M i).map dS, dp_list eb, dp_sets et2 hL2, dS_shaped _, dSs_shaped _, _, rfl, ?_⟩
      rw [any_dS]
      have e := setsI_succ n M i
      cases c : (setsI n M i).contains (befM n M (i + 1)) with
      | false =>
        rw [c, if_neg Bool.false_ne_true] at e
        refine iteT ⟨_, rfl, .inl ⟨rfl, _, SqL.of et2⟩, _, rfl, t, _, _, rfl, rfl, et2, ?_, ?_⟩
        · have := setsI_len n M i
          rw [refs_len, hL.len]
          exact small_sz (by omega)
        · have nbt : b ≠ t := fun z => by
            rw [z] at nb
            rw [et] at nb
            cases nb
          have ne' : ∀ a ∈ as ++ [b], a ≠ t := fun a ha => by
            rcases List.mem_append.mp ha with z | z
            · exact ne a z
            · rw [List.mem_singleton] at z
              rw [z]
              exact nbt
          refine ⟨_, _, as ++ [b], rfl, same_put (sm.trans s2) nt, ?_, ne', ?_⟩
          · rw [upd_same, refs_snoc]
          · rw [e]
            exact (Lsts.snoc eb hL2).put ne'
      | true =>
        rw [c, if_pos rfl] at e
        refine iteF ⟨_, _, as, rfl, sm.trans s2, et2, ne, ?_⟩
        rw [e]
        exact hL2
    · rintro σ H1 ⟨vx, vy, as, rfl, sm, et, ne, hL⟩
      exact ⟨_, rfl, q _ _ sm nt ⟨as, et, hL⟩⟩
/-! ### how_many_moments -/
abbrev sMany : Stmt := topS 6
theorem scMany : FnScope ["over"] ["over"] (defScope sMany) := ⟨rfl, rfl, rfl, by decide +kernel, rfl, by decide +kernel, by decide +kernel⟩
def spMany : Sp := fun vs H Q _ => ∃ (p : Addr) (n : Nat) (M : Mat) (r : Nat → Addr), vs = [.ref p] ∧ MatAt H p n M r ∧ n ≤ 8 ∧
  ∀ H', Same H H' → Q (.int ((setsM n M).length : Nat)) H'
theorem ok_many {f fS : Addr} {fd fdS : FuncData} {k : Nat} (F : Fun K "how_many_moments" "how_many_moments" sMany f fd) (GS : FnOk P w K mg base CX0 (k + 1) fS fdS ["over"] spSets) (kS : PySem.W.keepIn K (.ref fS) = true) (bS : Binds K fdS ["over"] []) (gS : mg "sets_before" = some (.ref fS))
    (ml : mg "len" = none) : FnOk P w K mg base CX0 (k + 2) f fd ["over"] spMany := by
  refine F.ok scMany (fun vs H Q E h => ?_) (fun cdv A outer s H vs Q E hr h => ?_)
  · obtain ⟨p, n, M, r, rfl, _⟩ := h
    rfl
  · obtain ⟨p, n, M, r, rfl, hM, hn, q⟩ := h
    refine ⟨_, pss_one (ps_ret (pe_callB call_len_seq (by rfl) ml PySem.boot_len (pa_cons (pe_call GS hr (by rfl) gS kS bS .nil pass0 (pa_cons (pv 0) pa_nil)) pa_nil))), ?_⟩
    refine ⟨_, rfl, p, n, M, r, rfl, hM, hn, fun H1 t s1 nt hS => ?_⟩
    obtain ⟨as, et, hL⟩ := hS
    refine ⟨t, _, rfl, .inl (SqL.of et), ?_⟩
    rw [refs_len, hL.len]
    exact q _ s1
/-! ### is_less -/
abbrev sLess : Stmt := topS 5
theorem scLess : FnScope ["one", "other", "thing"] ["one", "other"] (defScope sLess) := ⟨rfl, rfl, rfl, by decide +kernel, rfl, by decide +kernel, by decide +kernel⟩
def spLess (K : PySem.W.Frag) : Sp := fun vs H Q _ => ∃ (a b : Addr) (x y : List Nat), vs = [.ref a, .ref b] ∧ SqL K H a (natsV x) ∧ SqL K H b (natsV y) ∧ x.length ≤ 100 ∧
  ∀ H', Same H H' → Q (.bl (lessM x y)) H'
theorem ok_less {f : Addr} {fd : FuncData} {k : Nat} (F : Fun K "is_less" "is_less" sLess f fd) (ml : mg "len" = none) (ma : mg "all" = none) : FnOk P w K mg base CX0 (k + 1) f fd ["one", "other"] (spLess K) := by
  refine F.ok scLess (fun vs H Q E h => ?_) (fun cdv A outer s H vs Q E hr h => ?_)
  · obtain ⟨a, b, x, y, rfl, _⟩ := h
    rfl
  · obtain ⟨a, b, x, y, rfl, ha, hb, hl, q⟩ := h
    refine ⟨_, pss_one (ps_ret (pe_and (pe_cmpR op_lt (pe_callB call_len_seq (by rfl) ml PySem.boot_len (pa_cons (pv 0) pa_nil)) (pe_callB call_len_seq (by rfl) ml PySem.boot_len (pa_cons (pv 1) pa_nil)) (nomark _))
      (pe_one (pe_callB (cr_all rfl) (by rfl) ma (by decide +kernel) (pa_cons (pe_lc (own := [("thing", 2)]) (g := gName 2) (tt := tYes) (te := tOp (rIn K false) (tVar 2) (tVar 1)) rfl scLess.nd (pi_list (pv 0))
        (blkOk_by (N := ["one", "other", "thing"]) (sc := defScope sLess) (by decide +kernel))
        (fun _ _ _ _ _ => pg_name (i := 2) scLess.nd rfl (Or.inl rfl))
        (fun _ _ _ _ _ => pts_nil)
        (fun _ _ _ _ _ => pe_cmpR op_in_seq (pv 2) (pv 1) (by rfl))) pa_nil))))), ?_⟩
    refine ⟨_, rfl, a, _, rfl, .inl ha, _, rfl, b, _, rfl, .inl hb, _, _, rfl, rfl, _, rfl, ?_⟩
    rw [natsV_len, natsV_len]
    by_cases c : x.length < y.length
    · rw [decide_eq_true (show (x.length : Int) < (y.length : Int) by omega)]
      refine iteT ?_
      refine ⟨_, rfl, a, rfl, ⟨_, ha⟩, fun D nD => ?_⟩
      refine lc_list (K := K) (a := a) (xs := natsV x) (fun i H' => Same H H' ∧ H' D = some (.lst (((x.take i).map y.contains).map V.bl))) ⟨same_upd nD, upd_same⟩ (fun i H' _ h => h.1.seq ha) ?_ ?_
      · rintro i v H1 hi ⟨sm, eD⟩
        obtain ⟨z, hz, rfl⟩ := natsV_of hi
        refine ⟨rfl, _, rfl, _, rfl, b, _, rfl, .inl (sm.seq hb), rfl, natsV_flat _, _, eD, ?_, same_put sm nD, ?_⟩
        · rw [List.length_map, List.length_map, List.length_take]
          exact small_sz (by omega)
        · show upd _ D _ D = _
          rw [upd_same, if_neg Bool.false_ne_true, inV_nats, List.take_add_one, hz, List.map_append, List.map_append]
          rfl
      · rintro H1 ⟨sm, eD⟩
        rw [natsV_len, List.take_length] at eD
        refine ⟨D, _, rfl, SqL.of eD, ?_⟩
        have e : (x.map y.contains).all id = lessM x y := by
          unfold lessM
          rw [decide_eq_true c, Bool.true_and, List.all_map]
          rfl
        rw [e]
        exact q _ sm
    · rw [decide_eq_false (show ¬ (x.length : Int) < (y.length : Int) by omega)]
      refine iteF ?_
      have e : lessM x y = false := by
        unfold lessM
        rw [decide_eq_false c, Bool.false_and]
      rw [← e]
      exact q _ (Same.refl _)
end
end Stt
set_option Elab.async false
set_option maxRecDepth 100000
set_option maxHeartbeats 2000000
set_option linter.all false
namespace Stt
open PySem PySem.Spec PyProof.Rows L2
/-! ### begins_and_ends -/
theorem refs_at {H : Hp} {as : List Addr} {ss : List (List Nat)} (h : Lsts H as ss) {i : Nat} {v : V} (hi : (refs as)[i]? = some v) : ∃ a s, v = .ref a ∧ ss[i]? = some s ∧ H a = some (.lst (natsV s)) := by
  have hlt : i < ss.length := by
    rw [← h.len, ← refs_len]
    exact (List.getElem?_eq_some_iff.mp hi).1
  have hp : ss[i]? = some ss[i] := List.getElem?_eq_getElem hlt
  obtain ⟨a, ea, ha⟩ := h.get hp
  refine ⟨a, _, ?_, hp, ha⟩
  unfold refs at hi
  rw [List.getElem?_map, ea] at hi
  exact (Option.some.inj hi).symm
theorem take_filter {α : Type} {l : List α} {p : α → Bool} {i : Nat} {x : α} (h : l[i]? = some x) : ((l.take (i + 1)).filter p).length = ((l.take i).filter p).length + (if p x = true then 1 else 0) := by
  rw [List.take_add_one, h, List.filter_append, List.length_append]
  congr 1
  by_cases c : p x = true
  · rw [if_pos c]
    show ([x].filter p).length = 1
    rw [List.filter_cons_of_pos c]
    rfl
  · rw [if_neg c]
    show ([x].filter p).length = 0
    rw [List.filter_cons_of_neg c]
    rfl
theorem setsM_len (n : Nat) (M : Mat) : (setsM n M).length ≤ n := setsI_len n M n
theorem mem_sets_len {n : Nat} {M : Mat} {s : List Nat} (h : s ∈ setsM n M) : s.length ≤ n := by
  obtain ⟨t, _, rfl⟩ := mem_setsM.mp h
  exact befM_len n M t
abbrev sBE : Stmt := topS 7
theorem scBE : FnScope ["over", "sets", "spans", "thing", "own", "less", "without", "before"] ["over"] (defScope sBE) := ⟨rfl, rfl, rfl, by decide +kernel, rfl, by decide +kernel, by decide +kernel⟩
def spansI (n : Nat) (M : Mat) (i : Nat) : List (Nat × Nat) := (th i).map (spanM n M)
theorem spansI_succ (n : Nat) (M : Mat) (i : Nat) : spansI n M (i + 1) = spansI n M i ++ [spanM n M (i + 1)] := by
  unfold spansI
  rw [th_succ, List.map_append]
  rfl
theorem spansI_len (n : Nat) (M : Mat) (i : Nat) : (spansI n M i).length = i := by
  unfold spansI
  rw [List.length_map, th_len]
def spBE : Sp := fun vs H Q _ => ∃ (p : Addr) (n : Nat) (M : Mat) (r : Nat → Addr), vs = [.ref p] ∧ MatAt H p n M r ∧ n ≤ 8 ∧
  ∀ H' q, Same H H' → H q = none → PairsAt H' q (spansI n M n) → Q (.ref q) H'
section
variable {P : Program} {w : World} {K : PySem.W.Frag} {mg : Str → Option Value} {base : Heap}
theorem ok_be {f fS fB fL : Addr} {fd fdS fdB fdL : FuncData} {k : Nat} (F : Fun K "begins_and_ends" "begins_and_ends" sBE f fd)
    (GS : FnOk P w K mg base CX0 (k + 2) fS fdS ["over"] spSets) (kS : PySem.W.keepIn K (.ref fS) = true) (bS : Binds K fdS ["over"] []) (gS : mg "sets_before" = some (.ref fS))
    (GB : FnOk P w K mg base CX0 (k + 1) fB fdB ["over", "thing"] spBef) (kB : PySem.W.keepIn K (.ref fB) = true) (bB : Binds K fdB ["over", "thing"] []) (gB : mg "all_before" = some (.ref fB))
    (GL : FnOk P w K mg base CX0 (k + 1) fL fdL ["one", "other"] (spLess K)) (kL : PySem.W.keepIn K (.ref fL) = true) (bL : Binds K fdL ["one", "other"] []) (gL : mg "is_less" = some (.ref fL))
    (ml : mg "len" = none) (mr : mg "range" = none) : FnOk P w K mg base CX0 (k + 3) f fd ["over"] spBE := by
  refine F.ok scBE (fun vs H Q E h => ?_) (fun cdv A outer s H vs Q E hr h => ?_)
  · obtain ⟨p, n, M, r, rfl, _⟩ := h
    rfl
  · obtain ⟨p, n, M, r, rfl, hM, hn, q⟩ := h
    have hr1 : Room (k + 1) _ := hr.mono (Nat.le_succ _)
    refine ⟨_, pss_cons (ps_set (i := 1) scBE.nd rfl (.inl rfl) (pe_call GS hr (by rfl) gS kS bS .nil pass0 (pa_cons (pv 0) pa_nil)))
      (pss_cons (ps_set (i := 2) scBE.nd rfl (.inl rfl) (pe_lst pa_nil))
      (pss_cons (ps_for PassesOwn.never rfl (pi_range2 (by rfl) mr (pa_cons pe_int (pa_cons (pe_callB call_len_seq (by rfl) ml PySem.boot_len (pa_cons (pv 0) pa_nil)) pa_nil)))
          (pg_name (i := 3) scBE.nd rfl (.inr rfl))
        (pss_cons (ps_set (i := 4) scBE.nd rfl (.inr rfl) (pe_call GB hr1 (by rfl) gB kB bB .nil pass0 (pa_cons (pv 0) (pa_cons (pv 3) pa_nil))))
        (pss_cons (ps_setLc (i := 5) (own := [("before", 7)]) (g := gName 7) (tt := tB (tCall (spLess K) [] E0 (tCons (tVar 7) (tCons (tVar 4) tNil)))) (te := tVar 7) rfl scBE.nd rfl rfl (sw_true rfl rfl rfl (by decide +kernel)) (pi_list (pv 1))
            (blkOk_by (N := ["over", "sets", "spans", "thing", "own", "less", "without", "before"]) (sc := defScope sBE) (by decide +kernel))
            (fun _ _ _ _ _ => pg_name (i := 7) scBE.nd rfl (Or.inl rfl))
            (fun _ _ _ _ _ => pts_one (pt_val (pe_call GL hr1 (by rfl) gL kL bL .nil pass0 (pa_cons (pv 7) (pa_cons (pv 4) pa_nil)))))
            (fun _ _ _ _ _ => pv 7))
        (pss_cons (ps_setLc (i := 6) (own := [("before", 7)]) (g := gName 7) (tt := tTest (tOp (rIn K true) (tVar 3) (tVar 7))) (te := tVar 7) rfl scBE.nd rfl rfl (sw_true rfl rfl rfl (by decide +kernel)) (pi_list (pv 1))
            (blkOk_by (N := ["over", "sets", "spans", "thing", "own", "less", "without", "before"]) (sc := defScope sBE) (by decide +kernel))
            (fun _ _ _ _ _ => pg_name (i := 7) scBE.nd rfl (Or.inl rfl))
            (fun _ _ _ _ _ => pts_one (pt_cmpR op_notIn_seq (pv 3) (pv 7) (by rfl)))
            (fun _ _ _ _ _ => pv 7))
        (pss_one (ps_expr (pe_bm PySem.F.plainAttrs_list PySem.F.slot_list_append PySem.F.type_list_append mt_append (pv 2) (pa_cons (pe_tup (pa_cons (pe_op op_add (pe_callB call_len_seq (by rfl) ml PySem.boot_len (pa_cons (pv 5) pa_nil)) pe_int) (pa_cons (pe_callB call_len_seq (by rfl) ml PySem.boot_len (pa_cons (pv 6) pa_nil)) pa_nil))) pa_nil))))))))
      (pss_one (ps_ret (pv 2))))), ?_⟩
    -- sets = sets_before(over)
    refine ⟨_, rfl, p, n, M, r, rfl, hM, hn, fun H1 t s1 nt hS => ?_⟩
    have hM1 := hM.same s1
    obtain ⟨as, et, hL⟩ := hS
    -- spans = []
    refine ⟨Nat.zero_le _, fun u nu => ?_⟩
    have nu0 : H u = none := s1.free nu
    refine ⟨_, rfl, p, _, rfl, .inl (SqL.of (same_upd nu _ _ hM1.here)), 1, _, rfl, rb1 (refsV_leni n r) (by omega), ?_⟩
    refine for_r1 (refsV_leni n r) (fun i σ H' => ∃ v3 v4 v5 v6, σ = [some (.ref p), some (.ref t), some (.ref u), v3, v4, v5, v6, none] ∧ Same H1 H' ∧ PairsAt H' u (spansI n M i)) ⟨none, none, none, none, rfl, same_upd nu, [], upd_same, trivial⟩ ?_ ?_
    · rintro i σ H2 hi ⟨v3, v4, v5, v6, rfl, s2, hP⟩
      -- own = all_before(over, thing)
      refine ⟨_, rfl, _, rfl, p, n, M, r, i + 1, rfl, hM1.same s2, hn, by omega, fun H3 b s3 nb eb => ?_⟩
      have s13 := s2.trans s3
      -- less
      refine ⟨_, rfl, t, rfl, ⟨_, SqL.of (s13 _ _ et)⟩, fun D nD => ?_⟩
      refine lc_list (K := K) (a := t) (xs := refs as) (fun j H' => Same H3 H' ∧ ∃ vs, H' D = some (.lst vs) ∧ vs.length = (((setsM n M).take j).filter fun s => lessM s (befM n M (i + 1))).length)
        ⟨same_upd nD, [], upd_same, rfl⟩ (fun j H' _ h => SqL.of (h.1 _ _ (s13 _ _ et))) ?_ ?_
      · rintro j v H4 hj ⟨s4, vs, eD, el⟩
        obtain ⟨a, s, rfl, hs, ha⟩ := refs_at hL hj
        have hsm : s ∈ setsM n M := List.mem_of_getElem? hs
        have hsl := mem_sets_len hsm
        refine ⟨rfl, _, rfl, _, rfl, a, b, s, _, rfl, SqL.of (s4 _ _ (s13 _ _ ha)), SqL.of (s4 _ _ eb), by omega, fun H5 s5 => ⟨_, rfl, ?_⟩⟩
        have e := take_filter (p := fun s => lessM s (befM n M (i + 1))) hs
        refine ite2 (fun c => ?_) (fun c => ?_)
        · rw [if_pos c] at e
          refine ⟨_, rfl, vs, s5 _ _ eD, ?_, same_put (s4.trans s5) nD, _, upd_same, ?_⟩
          · rw [el]
            have h1 := List.length_filter_le (fun s => lessM s (befM n M (i + 1))) ((setsM n M).take j)
            have h2 : ((setsM n M).take j).length ≤ (setsM n M).length := List.length_take_le' _ _
            have h3 := setsM_len n M
            exact small_sz (by omega)
          · rw [List.length_append, List.length_singleton, el, e]
        · rw [if_neg c] at e
          exact ⟨s4.trans s5, vs, s5 _ _ eD, el.trans e.symm⟩
      · rintro H4 ⟨s4, vs, eD, el⟩
        rw [refs_len, hL.len, List.take_length] at el
        have s14 := s13.trans s4
        -- without
        refine ⟨_, rfl, t, rfl, ⟨_, SqL.of (s14 _ _ et)⟩, fun D2 nD2 => ?_⟩
        refine lc_list (K := K) (a := t) (xs := refs as) (fun j H' => Same H4 H' ∧ ∃ vs, H' D2 = some (.lst vs) ∧ vs.length = (((setsM n M).take j).filter fun s => !s.contains (i + 1)).length)
          ⟨same_upd nD2, [], upd_same, rfl⟩ (fun j H' _ h => SqL.of (h.1 _ _ (s14 _ _ et))) ?_ ?_
        · rintro j v H5 hj ⟨s5, vs2, eD2, el2⟩
          obtain ⟨a, s, rfl, hs, ha⟩ := refs_at hL hj
          refine ⟨rfl, _, rfl, _, rfl, a, natsV s, rfl, .inl (SqL.of (s5 _ _ (s14 _ _ ha))), rfl, natsV_flat _, _, rfl, ?_⟩
          rw [if_pos rfl, inV_nats]
          have e := take_filter (p := fun s => !s.contains (i + 1)) hs
          refine ite2 (fun c => ?_) (fun c => ?_)
          · rw [if_pos c] at e
            refine ⟨_, rfl, vs2, eD2, ?_, same_put s5 nD2, _, upd_same, ?_⟩
            · rw [el2]
              have h1 := List.length_filter_le (fun s : List Nat => !s.contains (i + 1)) ((setsM n M).take j)
              have h2 : ((setsM n M).take j).length ≤ (setsM n M).length := List.length_take_le' _ _
              have h3 := setsM_len n M
              exact small_sz (by omega)
            · rw [List.length_append, List.length_singleton, el2, e]
          · rw [if_neg c] at e
            exact ⟨s5, vs2, eD2, el2.trans e.symm⟩
        · rintro H5 ⟨s5, vs2, eD2, el2⟩
          rw [refs_len, hL.len, List.take_length] at el2
          -- spans.append((len(less) + 1, len(without)))
          obtain ⟨bs, eu, hT⟩ := hP
          have s25 := s3.trans (s4.trans s5)
          have eu5 := s25 _ _ eu
          have eD5 := s5 _ _ eD
          refine ⟨_, rfl, .inl ⟨rfl, _, SqL.of eu5⟩, _, rfl, D, _, rfl, .inl (SqL.of eD5), _, _, rfl, rfl, _, rfl, D2, _, rfl, .inl (SqL.of eD2), (by show 2 ≤ sizeLine; decide), fun y ny => ?_⟩
          have sy := same_upd (o := .tup [.int ((vs.length : Nat) + 1), .int (vs2.length : Nat)]) ny
          have euy := sy _ _ eu5
          refine ⟨u, _, _, rfl, rfl, euy, ?_, ?_⟩
          · rw [refs_len, hT.len, spansI_len]
            exact small_sz (by omega)
          · refine ⟨_, _, _, _, rfl, same_put ((s2.trans s25).trans sy) nu, bs ++ [y], ?_, ?_⟩
            · rw [upd_same, refs_snoc]
            · rw [spansI_succ]
              refine Tups.put euy (Tups.snoc (p := spanM n M (i + 1)) ?_ ((hT.same s25).same sy))
              rw [upd_same]
              have e1 : (spanM n M (i + 1)).1 = vs.length + 1 := by rw [el]; rfl
              have e2 : (spanM n M (i + 1)).2 = vs2.length := by rw [el2]; rfl
              rw [e1, e2]
              rfl
    · rintro σ H2 ⟨v3, v4, v5, v6, rfl, s2, hP⟩
      exact ⟨_, rfl, q _ _ (s1.trans s2) nu0 hP⟩
end
end Stt
set_option Elab.async false
set_option maxRecDepth 100000
set_option maxHeartbeats 2000000
set_option linter.all false
namespace Stt
open PySem PySem.Spec PyProof.Rows L2
/-! ### for i, x in enumerate(xs, start=k): a rule of this proof's own -/
/-- a built-in class called with keywords -/
theorem callWith_tykw {M : Model} {A : Around} {env : Env} {E : Value → Shared → Prop} {s : Shared} {pos : Pos} {T : String} {e : Expr} {kws : List Keyword} {Q : Value → Shared → Prop}
    (h : wpAny M A (spliced (backTo pos (starEach [e] env))) (fun vs t => wpAny M A (evalAll ((backToKw pos (keywordEach kws env)).map (·.2))) (fun ks u => wpAny M A (call (.type T) vs (((backToKw pos (keywordEach kws env)).filterMap (·.1)).zip ks)) Q E u) E t) E s)
    (he : backTo pos (starEach [e] env) = (false, eval e env) :: backTo pos (starEach [] env)) (hp : (backTo pos (starEach [e] env)).any (·.1) = false)
    (ha : (backToKw pos (keywordEach kws env)).all (·.1.isSome) = true) (hk : (backToKw pos (keywordEach kws env)).any (·.1.isNone) = false) :
    wpAny M A (callWith pos (.type T) [] (backTo pos (starEach [e] env)) (backToKw pos (keywordEach kws env))) Q E s := by
  have g : wpAny M A (evalArgs (.type T) true (backTo pos (starEach [e] env)) (backToKw pos (keywordEach kws env))) (fun a t => wpAny M A (call (.type T) ([] ++ a.pos) a.kw) Q E t) E s := by
    rw [he] at h ⊢; exact evalArgs_kwB ha h
  unfold callWith; refine wpAny_bind (wpAny_holding (wpAny_mono g (fun a t q => wpAny_bind (wpAny_standAt ?_)) fun _ _ z => z))
  simp only [hp, hk, Bool.or_false]; refine wpAny_bind (wpAny_pure (wpAny_bind (wpAny_mono q (fun r u z => wpAny_bind (wpAny_holding (wpAny_point (wpAny_pure z)))) fun _ _ z => z)))
/-- the list at a as it stands at each turn, each item in a new pair behind its number, counted from c -/
def ItK (K : PySem.W.Frag) (a : Addr) (c : Int) : It :=
  ⟨fun i H => ∃ (xs : List V) (x : V), SqL K H a xs ∧ xs[i]? = some x, fun i H v G => ∃ T x, v = .ref T ∧ H T = none ∧ G = upd H T (.tup [.int (c + (i : Nat)), x]) ∧ ∀ xs, SqL K H a xs → xs[i]? = some x, fun i H => ∃ xs : List V, SqL K H a xs ∧ xs.length ≤ i⟩
theorem turn_enK {P : Program} {w : World} {K : PySem.W.Frag} {elts : List Expr} {kk : Nat} {tpos : Pos} (a e it : Addr) (c : Int) :
    Turn P w K (.Tuple elts kk tpos) (ItK K a c) [e, it] e (fun i h => (∃ old, IsEnum h e it (c + (i : Nat)) old) ∧ h.IsListIter it a i ∧ e ≠ it) where
  mem := List.mem_cons_self
  obj := fun i h st b hb => by
    obtain ⟨⟨old, he⟩, ⟨o, ho, _, hd⟩, _⟩ := st
    rcases List.mem_cons.mp hb with z | z
    · rw [z]
      exact ⟨_, he, fun v q => nomatch q⟩
    · rw [List.mem_singleton.mp z]
      exact ⟨o, ho, fun v q => by rw [hd] at q; cases q⟩
  keep := fun i h g st k => ⟨let ⟨old, he⟩ := st.1; ⟨old, k e List.mem_cons_self _ he⟩, st.2.1.at fun o q => k it (List.mem_cons_of_mem _ List.mem_cons_self) o q, st.2.2⟩
  item := by
    intro X hP hw hK hc i pins s σ H E I hf st hg
    subst hP hw hK
    obtain ⟨⟨old, he⟩, hit, hne⟩ := st
    obtain ⟨xs, x, hq, hx⟩ := hg
    obtain ⟨its, rv, pl, _⟩ := I.list hq
    obtain ⟨u, hu, ru⟩ := rv.get hx
    have le : e < s.heap.objs.size := Heap.lt_size he
    have li : it < s.heap.objs.size := let ⟨_, q, _⟩ := hit; Heap.lt_size q
    have ai : a ≠ it := fun z => by
      obtain ⟨o1, g1, c1, _⟩ := pl.isList
      obtain ⟨o2, g2, c2, _⟩ := hit
      rw [z, g2] at g1
      cases g1
      rw [c2] at c1
      injection c1 with c1
      exact absurd c1 (by decide)
    have ae : e ≠ a := fun z => by
      obtain ⟨o1, g1, c1, _⟩ := pl.isList
      rw [← z] at g1
      have g2 : s.heap.get? e = some _ := he
      rw [g2] at g1
      cases g1
      injection c1 with c1
      exact absurd c1 (by decide)
    have hlt : i < its.toArray.size := by
      have := (List.getElem?_eq_some_iff.mp hu).1
      simpa using this
    refine wpAny_pyNext_enum_itemC (Draws.list (A := X.A.in1) (I.ok.hd hc) it a ai its.toArray) he ⟨hit, pl.isList⟩ hlt hne (by simp [hne, ae]) fun x1 h1 tk p1 ho st1 hT _ hk => ?_
    have ex : x1 = u := by
      have p2 : its[i]? = some x1 := by simpa using p1
      rw [hu] at p2
      exact (Option.some.inj p2).symm
    subst ex
    refine ⟨_, rfl, wpAny_letOwnedTupleGo_enum (s := { s with heap := h1, toks := tk + 1 }) ho fun h2 he2 sb => ?_⟩
    have hT2 := (sb.2 _ (Nat.ne_of_gt le)).trans hT
    have new : ObjOk X.prog X.w (upd H s.heap.objs.size (.tup [.int (c + (i : Nat)), x])) h2 s.heap.objs.size (.tup [.int (c + (i : Nat)), x]) :=
      ⟨(by show 2 ≤ sizeLine; decide), [.int (c + (i : Nat)) tk, x1], .cons ⟨_, rfl⟩ (.cons ru .nil), ⟨_, hT2, rfl, _, rfl⟩⟩
    have I1 := I.turnedNew (t' := tk + 1) (ch := [e, it]) (fun b ob hb q => (sb.2 b (fun z => hb (by simp [z]))).trans (hk b ob (fun z => hb (by simp [z])) (fun z => hb (by simp [z])) q)) hf (Nat.le_refl _) new
    refine ⟨.ref s.heap.objs.size, _, I1, rfl, ⟨_, x, rfl, I.hok.fresh (Nat.le_refl _), rfl, fun ys hy => by rw [I.list_inj hy hq]; exact hx⟩, ⟨⟨x1, ?_⟩, st1.1.at fun o q => (sb.2 it (Ne.symm hne)).trans q, hne⟩, fun b hb => ?_⟩
    · have e1 : c + ((i + 1 : Nat) : Int) = c + (i : Nat) + 1 := by omega
      rw [e1]
      exact he2
    · have lb : b < s.heap.objs.size := by
        rcases List.mem_cons.mp hb with z | z
        · rw [z]
          exact le
        · rw [List.mem_singleton.mp z]
          exact li
      rw [upd_ne (Nat.ne_of_lt lb)]
      exact (hf b hb).1
  done := by
    intro X hP hw hK hc i pins s σ H E I hf st hg
    subst hP hw hK
    obtain ⟨⟨old, he⟩, hit, hne⟩ := st
    obtain ⟨xs, hq, hx⟩ := hg
    obtain ⟨its, rv, pl, _⟩ := I.list hq
    obtain ⟨f0, f1, _, f3, f4, f5⟩ := hf it (by simp)
    have out : its.toArray[i]? = none := by
      have := rv.length
      simp
      omega
    have D : Draws X.prog X.w X.A.in1 it [it, a] i (fun _ _ => True) (fun j h => j = i ∧ h.IsListIter it a i ∧ h.IsList a its.toArray) :=
      { live := fun _ _ z => let ⟨o, ho, _⟩ := z.2.1; ⟨o, ho⟩
        frame := fun _ _ _ z k => ⟨z.1, z.2.1.at fun o q => k it (by simp) o q, z.2.2.at fun o q => k a (by simp) o q⟩
        item := fun j _ _ _ hj z _ => absurd z.1 (by omega)
        done := fun _ _ _ z hE => wpAny_nextOf_list_end (I.ok.hd hc) z.2.1 z.2.2 out hE }
    exact wpAny_pyNext_enum_endD D he ⟨rfl, hit, pl.isList⟩ fun g eb => ⟨rfl, I.turned (t' := s.toks) (fun b o hb q => eb b o hb q) f0 f1 f3 f4 f5⟩
  self := fun A i s Q E st h => st.1.elim fun _ he => wpAny_pyIter_enum he h
def iEnK (K : PySem.W.Frag) (c : Int) (ta : TA) : TI := fun σ H R => ta σ H fun vs G => ∃ a xs, vs = [.ref a] ∧ SqL K G a xs ∧ R (ItK K a c) G
/-- enumerate(e, start=c), c a written number -/
theorem pi_enK {X : Cx} {e : Expr} {ta : TA} {c : Int} {ci : Nat} {p pos tpos kp cp : Pos} {elts : List Expr} {kk : Nat} (hg : Gl X "enumerate") (hm : X.mg "enumerate" = none) (ha : PA X [e] ta) (h0 : 0 ≤ c) (h1 : c < 2 ^ 62) (st : starEach [e] X.env = [(false, eval e X.env)] := by rfl) :
    PI X (.Tuple elts kk tpos) (.Call (.Name "enumerate" p) [e] [⟨some "start", .Constant (.int c) ci cp, kp⟩] pos) (iEnK X.K c ta) := by
  refine ⟨fun pins s σ H R I h => ?_⟩
  refine wpAny_Call_Name_kw (ld_blt I hg hm boot_enumerate (callWith_tykw (thn (ha.run pos pins s σ H _ I h) fun us s1 ⟨vs, H1, I1, r1, q1⟩ => ?_) (by rw [st]; rfl) (by rw [st]; rfl) rfl rfl))
  obtain ⟨a, xs, ex, hq, q⟩ := q1
  subst ex
  have pk : PK X [⟨some "start", .Constant (.int c) ci cp, kp⟩] (tCons (tC (.int c)) tNil) := pk_cons pe_int pk_nil
  refine thn (pk.run pos pins s1 σ H1 (fun zs G => zs = [.int c] ∧ G = H1) I1 ⟨rfl, rfl⟩) fun ws s2 ⟨zs, G, I2, r2, ez, eG⟩ => ?_
  subst ez eG
  cases r1 with
  | cons r rr =>
    cases rr
    cases r
    cases r2 with
    | cons t tt =>
      cases tt
      obtain ⟨tk, rfl⟩ := t
      obtain ⟨its, rv, pl, _⟩ := I2.list hq
      refine enum_begins_start (begins_list a its.toArray) pl.isList (by omega) (by omega) fun g he hit _ hk => wpAny_pyIter_enum he ?_
      have I3 := I2.kept (t' := s2.toks) hk
      refine ⟨s2.heap.objs.size + 1, [s2.heap.objs.size + 1, s2.heap.objs.size], _, _, G, rfl, I3, turn_enK a (s2.heap.objs.size + 1) s2.heap.objs.size c, ⟨⟨.none, ?_⟩, ⟨_, hit, rfl, rfl⟩, Nat.succ_ne_self _⟩, fun b hb => ?_, q⟩
      · rw [show c + ((0 : Nat) : Int) = c by omega]
        exact he
      · have lb : s2.heap.objs.size ≤ b := by
          rcases List.mem_cons.mp hb with z | z
          · rw [z]
            exact Nat.le_succ _
          · rw [List.mem_singleton.mp z]
            exact Nat.le_refl _
        exact I2.fpOk lb (I2.hok.fresh lb)
/-- such a loop over a list that stands still: Pv by the turn; each turn the pair is a new tuple at T -/
theorem for_enK {K : PySem.W.Frag} {a : Addr} {c : Int} {xs : List V} {g : TG} {tb : TS} {D : Ends} {σ : L2.St} {H : Hp} (Pv : Nat → L2.St → Hp → Prop) (h0 : Pv 0 σ H) (hl : ∀ i σ H, i ≤ xs.length → Pv i σ H → SqL K H a xs)
    (hs : ∀ i x σ H T, xs[i]? = some x → Pv i σ H → H T = none → g (.ref T) σ (upd H T (.tup [.int (c + (i : Nat)), x])) fun σ2 H2 => tb { D with nx := Pv (i + 1), ct := Pv (i + 1), bk := D.nx } σ2 H2) (hd : ∀ σ H, Pv xs.length σ H → D.nx σ H) :
    ∃ W : Nat → Nat → L2.St → Hp → Prop, (∃ m, W 0 m σ H) ∧ ∀ i m σ H, W i m σ H →
      ((ItK K a c).stop i H ∧ D.nx σ H) ∨ ((ItK K a c).go i H ∧ ∃ N : L2.St → Hp → Prop, (∀ σ' H', N σ' H' → ∃ m', m' < m ∧ W (i + 1) m' σ' H') ∧ ∀ x H', (ItK K a c).yld i H x H' → g x σ H' fun σ2 H2 => tb { D with nx := N, ct := N, bk := D.nx } σ2 H2) := by
  refine ⟨fun i m σ G => m = xs.length - i ∧ i ≤ xs.length ∧ Pv i σ G, ⟨_, rfl, Nat.zero_le _, h0⟩, fun i m σ G ⟨em, hi, p⟩ => ?_⟩
  have q := hl i σ G hi p
  by_cases lt : i < xs.length
  · have gx : xs[i]? = some xs[i] := List.getElem?_eq_getElem lt
    refine .inr ⟨⟨xs, _, q, gx⟩, Pv (i + 1), fun σ' G' p' => ⟨xs.length - (i + 1), by omega, rfl, lt, p'⟩, fun v G' y => ?_⟩
    obtain ⟨T, x, rfl, nT, rfl, f⟩ := y
    exact hs i x σ G T (f xs q) p nT
  · have e : i = xs.length := by omega
    rw [e] at p
    exact .inl ⟨⟨xs, q, by omega⟩, hd σ G p⟩
theorem for_en1 {K : PySem.W.Frag} {a : Addr} {xs : List V} {g : TG} {tb : TS} {D : Ends} {σ : L2.St} {H : Hp} (Pv : Nat → L2.St → Hp → Prop) (h0 : Pv 0 σ H) (hl : ∀ i σ H, i ≤ xs.length → Pv i σ H → SqL K H a xs)
    (hs : ∀ i x σ H T, xs[i]? = some x → Pv i σ H → H T = none → g (.ref T) σ (upd H T (.tup [.int ((i + 1 : Nat) : Int), x])) fun σ2 H2 => tb { D with nx := Pv (i + 1), ct := Pv (i + 1), bk := D.nx } σ2 H2) (hd : ∀ σ H, Pv xs.length σ H → D.nx σ H) :
    ∃ W : Nat → Nat → L2.St → Hp → Prop, (∃ m, W 0 m σ H) ∧ ∀ i m σ H, W i m σ H →
      ((ItK K a 1).stop i H ∧ D.nx σ H) ∨ ((ItK K a 1).go i H ∧ ∃ N : L2.St → Hp → Prop, (∀ σ' H', N σ' H' → ∃ m', m' < m ∧ W (i + 1) m' σ' H') ∧ ∀ x H', (ItK K a 1).yld i H x H' → g x σ H' fun σ2 H2 => tb { D with nx := N, ct := N, bk := D.nx } σ2 H2) :=
  for_enK Pv h0 hl (fun i x σ H T hx p n => by
    rw [one_add]
    exact hs i x σ H T hx p n) hd
end Stt
set_option Elab.async false
set_option maxRecDepth 100000
set_option maxHeartbeats 2000000
set_option linter.all false
namespace Stt
open PySem PySem.Spec PyProof.Rows L2
/-! ### do_tell -/
abbrev sTell : Stmt := topS 8
theorem scTell : FnScope ["spans", "over", "x", "first", "y", "second"] ["spans", "over"] (defScope sTell) := ⟨rfl, rfl, rfl, by decide +kernel, rfl, by decide +kernel, by decide +kernel⟩
def Fits (n : Nat) (M : Mat) (x y : Nat) : Prop := M x y = decide ((spanM n M x).2 < (spanM n M y).1)
theorem th_get {n i : Nat} (h : i < n) : (th n)[i]? = some (i + 1) := by
  unfold th
  rw [List.getElem?_map, range_get h]
  rfl
theorem spansI_get {n : Nat} {M : Mat} {i m : Nat} (h : i < m) : (spansI n M m)[i]? = some (spanM n M (i + 1)) := by
  unfold spansI
  rw [List.getElem?_map, th_get h]
  rfl
theorem tells_all {n : Nat} {M : Mat} (h : ∀ x y, 1 ≤ x → x ≤ n → 1 ≤ y → y ≤ n → Fits n M x y) : tellsM n M = true := by
  unfold tellsM
  rw [List.all_eq_true]
  intro x hx
  rw [List.all_eq_true]
  intro y hy
  have hx' := mem_th.mp hx
  have hy' := mem_th.mp hy
  rw [beq_iff_eq]
  exact h x y hx'.1 hx'.2 hy'.1 hy'.2
theorem tells_not {n : Nat} {M : Mat} {x y : Nat} (hx1 : 1 ≤ x) (hx : x ≤ n) (hy1 : 1 ≤ y) (hy : y ≤ n) (h : ¬ Fits n M x y) : tellsM n M = false := by
  refine Bool.eq_false_iff.mpr fun k => h ?_
  unfold tellsM at k
  rw [List.all_eq_true] at k
  have k2 := k x (mem_th.mpr ⟨hx1, hx⟩)
  rw [List.all_eq_true] at k2
  exact eq_of_beq (k2 y (mem_th.mpr ⟨hy1, hy⟩))
theorem ne_fits {m : Bool} {a b : Nat} : (!decide (V.bl m = V.bl (decide ((a : Int) < (b : Int))))) = true ↔ ¬ m = decide (a < b) := by
  have e : decide ((a : Int) < (b : Int)) = decide (a < b) := by
    rw [decide_eq_decide]
    omega
  rw [e, Bool.not_eq_true', decide_eq_false_iff_not]
  exact ⟨fun h z => h (by rw [z]), fun h z => h (V.bl.inj z)⟩
def spTell : Sp := fun vs H Q _ => ∃ (u p : Addr) (n : Nat) (M : Mat) (r : Nat → Addr), vs = [.ref u, .ref p] ∧ PairsAt H u (spansI n M n) ∧ MatAt H p n M r ∧ n ≤ 8 ∧
  ∀ H', Same H H' → Q (.bl (tellsM n M)) H'
/-- the i-th of a list of pairs, as its value -/
theorem refs_pair {H : Hp} {as : List Addr} {ps : List (Nat × Nat)} (h : Tups H as ps) {i : Nat} {v : V} (hi : (refs as)[i]? = some v) : ∃ a p, v = .ref a ∧ ps[i]? = some p ∧ H a = some (.tup [.int p.1, .int p.2]) := by
  have hlt : i < ps.length := by
    rw [← h.len, ← refs_len]
    exact (List.getElem?_eq_some_iff.mp hi).1
  have hp : ps[i]? = some ps[i] := List.getElem?_eq_getElem hlt
  obtain ⟨a, ea, ha⟩ := h.get hp
  refine ⟨a, _, ?_, hp, ha⟩
  unfold refs at hi
  rw [List.getElem?_map, ea] at hi
  exact (Option.some.inj hi).symm
section
variable {P : Program} {w : World} {K : PySem.W.Frag} {mg : Str → Option Value} {base : Heap}
theorem ok_tell {f : Addr} {fd : FuncData} {k : Nat} (F : Fun K "do_tell" "do_tell" sTell f fd) (me : mg "enumerate" = none) : FnOk P w K mg base CX0 (k + 1) f fd ["spans", "over"] spTell := by
  refine F.ok scTell (fun vs H Q E h => ?_) (fun cdv A outer s H vs Q E hr h => ?_)
  · obtain ⟨u, p, n, M, r, rfl, _⟩ := h
    rfl
  · obtain ⟨u, p, n, M, r, rfl, ⟨as, eu, hT⟩, hM, hn, q⟩ := h
    refine ⟨_, pss_cons (ps_for PassesOwn.never rfl (pi_enK (by rfl) me (pa_cons (pv 0) pa_nil) (by decide) (by decide)) (pg_tup rfl (pgs_cons (pg_name (i := 2) scTell.nd rfl (.inl rfl)) (pgs_cons (pg_name (i := 3) scTell.nd rfl (.inl rfl)) pgs_nil)))
        (pss_one (ps_for PassesOwn.never rfl (pi_enK (by rfl) me (pa_cons (pv 0) pa_nil) (by decide) (by decide)) (pg_tup rfl (pgs_cons (pg_name (i := 4) scTell.nd rfl (.inl rfl)) (pgs_cons (pg_name (i := 5) scTell.nd rfl (.inl rfl)) pgs_nil)))
          (pss_one (ps_if (pt_cmpR op_ne (pe_ix ix_list (pe_ix ix_list (pv 1) (pv 2) (fun _ _ => rfl)) (pv 4) (fun _ _ => rfl))
              (pe_cmpR op_lt (pe_ix ix_tup (pv 3) pe_int (fun _ _ => rfl)) (pe_ix ix_tup (pv 5) pe_int (fun _ _ => rfl)) (nomark _)) (nomark _))
            (pss_one (ps_ret pe_bl)) pss_nil)))))
      (pss_one (ps_ret pe_bl)), ?_⟩
    have el : (refs as).length = n := by rw [refs_len, hT.len, spansI_len]
    refine ⟨_, rfl, u, _, rfl, SqL.of eu, ?_⟩
    refine for_en1 (K := K) (a := u) (xs := refs as) (fun i σ H' => ∃ v2 v3 v4 v5, σ = [some (.ref u), some (.ref p), v2, v3, v4, v5] ∧ Same H H' ∧ ∀ x y, 1 ≤ x → x ≤ i → 1 ≤ y → y ≤ n → Fits n M x y)
      ⟨none, none, none, none, rfl, Same.refl _, fun x y h1 h2 => by omega⟩ (fun i σ H' _ ⟨_, _, _, _, _, sm, _⟩ => SqL.of (sm _ _ eu)) ?_ ?_
    · rintro i v σ H1 T hi ⟨v2, v3, v4, v5, rfl, s1, hF⟩ nT
      obtain ⟨a, pr, rfl, hp, ha⟩ := refs_pair hT hi
      have hil : i < n := by
        rw [← el]
        exact (List.getElem?_eq_some_iff.mp hi).1
      have epr : pr = spanM n M (i + 1) := Option.some.inj (hp.symm.trans (spansI_get hil))
      subst epr
      have sT := same_upd (o := .tup [.int ((i + 1 : Nat) : Int), .ref a]) nT
      have s2 := s1.trans sT
      refine ⟨T, _, rfl, .inl (.inl upd_same), rfl, _, _, rfl, _, _, rfl, rfl, ?_⟩
      refine ⟨_, rfl, u, _, rfl, SqL.of (s2 _ _ eu), ?_⟩
      refine for_en1 (K := K) (a := u) (xs := refs as) (fun j σ H' => ∃ v4 v5, σ = [some (.ref u), some (.ref p), some (.int ((i + 1 : Nat) : Int)), some (.ref a), v4, v5] ∧ Same H H' ∧ (∀ x y, 1 ≤ x → x ≤ i → 1 ≤ y → y ≤ n → Fits n M x y) ∧ ∀ y, 1 ≤ y → y ≤ j → Fits n M (i + 1) y)
        ⟨v4, v5, rfl, s2, hF, fun y h1 h2 => by omega⟩ (fun i σ H' _ ⟨_, _, _, sm, _⟩ => SqL.of (sm _ _ eu)) ?_ ?_
      · rintro j v σ H2 T2 hj ⟨v4, v5, rfl, s3, hF3, hG⟩ nT2
        obtain ⟨b, pr2, rfl, hp2, hb⟩ := refs_pair hT hj
        have hjl : j < n := by
          rw [← el]
          exact (List.getElem?_eq_some_iff.mp hj).1
        have epr2 : pr2 = spanM n M (j + 1) := Option.some.inj (hp2.symm.trans (spansI_get hjl))
        subst epr2
        have sT2 := same_upd (o := .tup [.int ((j + 1 : Nat) : Int), .ref b]) nT2
        have s4 := s3.trans sT2
        refine ⟨T2, _, rfl, .inl (.inl upd_same), rfl, _, _, rfl, _, _, rfl, rfl, ?_⟩
        refine (hM.same s4).cell (x := i + 1) (y := j + 1) (fun Q h => ⟨_, rfl, h⟩) (fun Q h => ⟨_, rfl, h⟩) (fun Q h => ⟨_, rfl, h⟩) (by omega) (by omega) ?_
        refine ⟨_, rfl, a, _, 1, _, rfl, rfl, .inl (.inl (s4 _ _ ha)), rfl, _, rfl, b, _, 0, _, rfl, rfl, .inl (.inl (s4 _ _ hb)), rfl, _, _, rfl, rfl, rfl, _, rfl, ?_⟩
        refine ite2 (fun c => ?_) (fun c => ?_)
        · have nf : ¬ Fits n M (i + 1) (j + 1) := ne_fits.mp c
          have e := tells_not (by omega) (by omega) (by omega) (by omega) nf
          rw [e] at q
          exact q _ s4
        · refine ⟨_, _, rfl, s4, hF3, fun y h1 h2 => ?_⟩
          by_cases e : y ≤ j
          · exact hG y h1 e
          · have : y = j + 1 := by omega
            subst this
            exact Classical.byContradiction fun z => c (ne_fits.mpr z)
      · rintro σ H2 ⟨v4, v5, rfl, s3, hF3, hG⟩
        rw [el] at hG
        refine ⟨_, _, _, _, rfl, s3, fun x y h1 h2 h3 h4 => ?_⟩
        by_cases e : x ≤ i
        · exact hF3 x y h1 e h3 h4
        · have : x = i + 1 := by omega
          subst this
          exact hG y h3 h4
    · rintro σ H1 ⟨v2, v3, v4, v5, rfl, s1, hF⟩
      rw [el] at hF
      have e := tells_all hF
      rw [e] at q
      exact q _ s1
/-! ### stretches_told -/
abbrev sStr : Stmt := topS 9
theorem scStr : FnScope ["over", "spans"] ["over"] (defScope sStr) := ⟨rfl, rfl, rfl, by decide +kernel, rfl, by decide +kernel, by decide +kernel⟩
def spStr : Sp := fun vs H Q _ => ∃ (p : Addr) (n : Nat) (M : Mat) (r : Nat → Addr), vs = [.ref p] ∧ MatAt H p n M r ∧ n ≤ 8 ∧
  (tellsM n M = true → ∀ H' q, Same H H' → H q = none → PairsAt H' q (spansI n M n) → Q (.ref q) H') ∧ (tellsM n M = false → ∀ H', Same H H' → Q .non H')
theorem ok_str {f fE fT : Addr} {fd fdE fdT : FuncData} {k : Nat} (F : Fun K "stretches_told" "stretches_told" sStr f fd)
    (GE : FnOk P w K mg base CX0 (k + 3) fE fdE ["over"] spBE) (kE : PySem.W.keepIn K (.ref fE) = true) (bE : Binds K fdE ["over"] []) (gE : mg "begins_and_ends" = some (.ref fE))
    (GT : FnOk P w K mg base CX0 (k + 1) fT fdT ["spans", "over"] spTell) (kT : PySem.W.keepIn K (.ref fT) = true) (bT : Binds K fdT ["spans", "over"] []) (gT : mg "do_tell" = some (.ref fT)) :
    FnOk P w K mg base CX0 (k + 4) f fd ["over"] spStr := by
  refine F.ok scStr (fun vs H Q E h => ?_) (fun cdv A outer s H vs Q E hr h => ?_)
  · obtain ⟨p, n, M, r, rfl, _⟩ := h
    rfl
  · obtain ⟨p, n, M, r, rfl, hM, hn, q1, q2⟩ := h
    have hr1 : Room (k + 1) _ := hr.mono (by omega)
    refine ⟨_, pss_cons (ps_set (i := 1) scStr.nd rfl (.inl rfl) (pe_call GE hr (by rfl) gE kE bE .nil pass0 (pa_cons (pv 0) pa_nil)))
      (pss_cons (ps_if (pt_val (pe_call GT hr1 (by rfl) gT kT bT .nil pass0 (pa_cons (pv 1) (pa_cons (pv 0) pa_nil)))) (pss_one (ps_ret (pv 1))) pss_nil)
      (pss_one (ps_ret pe_non))), ?_⟩
    refine ⟨_, rfl, p, n, M, r, rfl, hM, hn, fun H1 u s1 nu hP => ?_⟩
    refine ⟨_, rfl, _, rfl, u, p, n, M, r, rfl, hP, hM.same s1, hn, fun H2 s2 => ⟨_, rfl, ite2 (fun c => ?_) (fun c => ?_)⟩⟩
    · exact ⟨_, rfl, q1 c _ _ (s1.trans s2) nu (hP.same s2)⟩
    · exact q2 (Bool.eq_false_iff.mpr c) _ (s1.trans s2)
end
end Stt
set_option Elab.async false
set_option maxRecDepth 100000
set_option maxHeartbeats 2000000
set_option linter.all false
namespace Stt
open PySem PySem.Spec PyProof.Rows L2
/-! ### the order as an object -/
def intsV (l : List Int) : List V := l.map V.int
theorem intsV_len (l : List Int) : (intsV l).length = l.length := List.length_map _
theorem intsV_app (l m : List Int) : intsV (l ++ m) = intsV l ++ intsV m := List.map_append
def oF (n : Nat) (t : Addr) : List (Str × V) := [("size", .int (n : Nat)), ("told", .ref t)]
def OrdAt (C : Addr) (H : Hp) (o t : Addr) (x : Or03.Order) : Prop := (∃ dx, H o = some (.ins C dx (oF x.many t))) ∧ PairsAt H t x.told
theorem lkup_here {k : Str} {v : V} {r : List (Str × V)} : List.lookup k ((k, v) :: r) = some v := by
  have e : (k == k) = true := beq_self_eq_true k
  simp only [List.lookup, e]
theorem lkup_past {k g : Str} {v : V} {r : List (Str × V)} (h : (k == g) = false) : List.lookup k ((g, v) :: r) = List.lookup k r := by
  simp only [List.lookup, h]
theorem oF_size (n : Nat) (t : Addr) : (oF n t).lookup ("size" : Str) = some (.int (n : Nat)) := lkup_here
theorem oF_told (n : Nat) (t : Addr) : (oF n t).lookup ("told" : Str) = some (.ref t) := (lkup_past (by decide +kernel)).trans lkup_here
theorem putF_here {f : Str} {v x : V} {r : List (Str × V)} : putF f v ((f, x) :: r) = (f, v) :: r := if_pos rfl
theorem putF_past {f g : Str} {v x : V} {r : List (Str × V)} (h : ¬ g = f) : putF f v ((g, x) :: r) = (g, x) :: putF f v r := if_neg h
theorem oF_putS (n m : Nat) (t : Addr) : putF "size" (.int (m : Nat)) (oF n t) = oF m t := putF_here
theorem oF_putT (n : Nat) (t u : Addr) : putF "told" (.ref u) (oF n t) = oF n u := (putF_past (by decide +kernel)).trans (congrArg _ putF_here)
theorem oF_new (n : Nat) (t : Addr) : putF "told" (.ref t) (putF "size" (.int (n : Nat)) []) = oF n t := (putF_past (by decide +kernel)).trans rfl
theorem OrdAt.same {C : Addr} {H H' : Hp} {o t : Addr} {x : Or03.Order} (h : OrdAt C H o t x) (s : Same H H') : OrdAt C H' o t x := let ⟨⟨dx, a⟩, b⟩ := h; ⟨⟨dx, s _ _ a⟩, b.same s⟩
/-- what the top has written of the class -/
structure Txt (K : PySem.W.Frag) (C : Addr) : Prop where
  cl : Cls K C
  nS : NoAttr K C "size"
  nT : NoAttr K C "told"
/-- all that stood stands, but for the order and its list -/
def Keep (H H' : Hp) (o t : Addr) : Prop := ∀ b x, H b = some x → b ≠ o → b ≠ t → H' b = some x
theorem Keep.of {H H' : Hp} {o t : Addr} (s : Same H H') : Keep H H' o t := fun b x e _ _ => s b x e
theorem within_good {x : Or03.Order} (g : Good x) : Within x.many x.told := fun p hp => by
  have h := g.inn p hp
  rw [mem_things, mem_things] at h
  omega
/-! ### rows_of -/
abbrev sRows : Stmt := topS 39
theorem scRows : FnScope ["order"] ["order"] (defScope sRows) := ⟨rfl, rfl, rfl, by decide +kernel, rfl, by decide +kernel, by decide +kernel⟩
def spRows (C : Addr) : Sp := fun vs H Q _ => ∃ (o t : Addr) (x : Or03.Order), vs = [.ref o] ∧ OrdAt C H o t x ∧ Good x ∧
  ∀ H' p r, Same H H' → H p = none → MatAt H' p x.many (rel x) r → Q (.ref p) H'
section
variable {P : Program} {w : World} {K : PySem.W.Frag} {mg : Str → Option Value} {base : Heap} {C : Addr}
theorem ok_rows {f fO : Addr} {fd fdO : FuncData} {k : Nat} (F : Fun K "rows_of" "rows_of" sRows f fd) (T : Txt K C)
    (GO : FnOk P w K mg base CX0 (k + 1) fO fdO ["size", "told"] spOver) (kO : PySem.W.keepIn K (.ref fO) = true) (bO : Binds K fdO ["size", "told"] []) (gO : mg "over_before" = some (.ref fO)) :
    FnOk P w K mg base CX0 (k + 2) f fd ["order"] (spRows C) := by
  refine F.ok scRows (fun vs H Q E h => ?_) (fun cdv A outer s H vs Q E hr h => ?_)
  · obtain ⟨o, t, x, rfl, _⟩ := h
    rfl
  · obtain ⟨o, t, x, rfl, ⟨⟨dx, ho⟩, hP⟩, g, q⟩ := h
    refine ⟨_, pss_one (ps_ret (pe_call GO hr (by rfl) gO kO bO .nil pass0 (pa_cons (pe_fld (pv 0) rfl) (pa_cons (pe_fld (pv 0) rfl) pa_nil)))), ?_⟩
    refine ⟨_, rfl, o, C, dx, _, _, rfl, ho, T.cl, T.nS, oF_size _ _, _, rfl, o, C, dx, _, _, rfl, ho, T.cl, T.nT, oF_told _ _, ?_⟩
    exact ⟨x.many, t, x.told, rfl, g.hi, within_good g, hP, fun H' p r sm np hM => q H' p r sm np hM⟩
/-! ### with_pairs -/
abbrev sNums : Stmt := topS 40
theorem scNums : FnScope ["first", "pairs", "numbers", "one", "other"] ["first", "pairs"] (defScope sNums) := ⟨rfl, rfl, rfl, by decide +kernel, rfl, by decide +kernel, by decide +kernel⟩
def numsI (c : Int) (ps : List (Nat × Nat)) : List Int := c :: Or03.ints (ps.flatMap fun p => [p.1, p.2])
theorem numsI_row (ps : List (Nat × Nat)) : numsI ps.length ps = Or03.pairRow ps := rfl
theorem numsI_snoc (c : Int) (ps : List (Nat × Nat)) (p : Nat × Nat) : numsI c (ps ++ [p]) = numsI c ps ++ [(p.1 : Int)] ++ [(p.2 : Int)] := by
  unfold numsI Or03.ints
  rw [List.flatMap_append, List.map_append]
  simp
theorem numsI_len (c : Int) (ps : List (Nat × Nat)) : (numsI c ps).length = 1 + 2 * ps.length := by
  unfold numsI Or03.ints
  rw [List.length_cons, List.length_map]
  induction ps with
  | nil => rfl
  | cons p ps ih =>
    simp only [List.flatMap_cons, List.length_append, List.length_cons, List.length_nil] at ih ⊢
    omega
def spNums : Sp := fun vs H Q _ => ∃ (c : Int) (u : Addr) (ps : List (Nat × Nat)), vs = [.int c, .ref u] ∧ PairsAt H u ps ∧ ps.length ≤ 1000 ∧
  ∀ H' p, Same H H' → H p = none → H' p = some (.lst (intsV (numsI c ps))) → Q (.ref p) H'
theorem ok_nums {f : Addr} {fd : FuncData} {k : Nat} (F : Fun K "with_pairs" "with_pairs" sNums f fd) : FnOk P w K mg base CX0 (k + 1) f fd ["first", "pairs"] spNums := by
  refine F.ok scNums (fun vs H Q E h => ?_) (fun cdv A outer s H vs Q E hr h => ?_)
  · obtain ⟨c, u, ps, rfl, _⟩ := h
    rfl
  · obtain ⟨c, u, ps, rfl, ⟨as, eu, hT⟩, hl, q⟩ := h
    refine ⟨_, pss_cons (ps_set (i := 2) scNums.nd rfl (.inl rfl) (pe_lst (pa_cons (pv 0) pa_nil)))
      (pss_cons (ps_for PassesOwn.never rfl (pi_list (pv 1)) (pg_tup rfl (pgs_cons (pg_name (i := 3) scNums.nd rfl (.inl rfl)) (pgs_cons (pg_name (i := 4) scNums.nd rfl (.inl rfl)) pgs_nil)))
        (pss_cons (ps_expr (pe_bm PySem.F.plainAttrs_list PySem.F.slot_list_append PySem.F.type_list_append mt_append (pv 2) (pa_cons (pv 3) pa_nil)))
        (pss_one (ps_expr (pe_bm PySem.F.plainAttrs_list PySem.F.slot_list_append PySem.F.type_list_append mt_append (pv 2) (pa_cons (pv 4) pa_nil))))))
      (pss_one (ps_ret (pv 2)))), ?_⟩
    refine ⟨_, rfl, (by show 1 ≤ sizeLine; decide), fun p np => ?_⟩
    have s1 := same_upd (o := .lst [.int c]) np
    have el : (refs as).length = ps.length := by rw [refs_len, hT.len]
    refine ⟨_, rfl, u, rfl, ⟨_, SqL.of (s1 _ _ eu)⟩, for_list (K := K) (a := u) (xs := refs as) (fun i σ H' => ∃ v2 v3, σ = [some (.int c), some (.ref u), some (.ref p), v2, v3] ∧ Same H H' ∧ H' p = some (.lst (intsV (numsI c (ps.take i)))))
      ⟨none, none, rfl, s1, ?_⟩ (fun i σ H' _ ⟨_, _, _, sm, _⟩ => SqL.of (sm _ _ eu)) ?_ ?_⟩
    · rw [upd_same]
      rfl
    · rintro i v σ H1 hi ⟨v2, v3, rfl, sm, ep⟩
      obtain ⟨a, pr, rfl, hp, ha⟩ := refs_pair hT hi
      have hil : i < ps.length := by
        rw [← el]
        exact (List.getElem?_eq_some_iff.mp hi).1
      have sz : (intsV (numsI c (ps.take i))).length ≤ 3000 := by
        rw [intsV_len, numsI_len, List.length_take]
        omega
      refine ⟨a, _, rfl, .inl (.inl (sm _ _ ha)), rfl, _, _, rfl, _, _, rfl, rfl, ?_⟩
      refine ⟨_, rfl, .inl ⟨rfl, _, SqL.of ep⟩, _, rfl, p, _, _, rfl, rfl, ep, small_sz (by omega), ?_⟩
      refine ⟨_, rfl, .inl ⟨rfl, _, SqL.of upd_same⟩, _, rfl, p, _, _, rfl, rfl, upd_same, small_sz ?_, ?_⟩
      · rw [List.length_append, List.length_singleton]
        omega
      · refine ⟨_, _, rfl, same_put (same_put sm np) np, ?_⟩
        rw [upd_same, List.take_add_one, hp]
        show some (HO.lst (intsV (numsI _ _) ++ [V.int pr.1] ++ [V.int pr.2])) = some (HO.lst (intsV (numsI _ (ps.take i ++ [pr]))))
        rw [numsI_snoc, intsV_app, intsV_app]
        rfl
    · rintro σ H1 ⟨v2, v3, rfl, sm, ep⟩
      rw [el, List.take_length] at ep
      exact ⟨_, rfl, q _ _ sm np ep⟩
/-! ### is_thing -/
abbrev sIs : Stmt := topS 43
theorem scIs : FnScope ["order", "number"] ["order", "number"] (defScope sIs) := ⟨rfl, rfl, rfl, by decide +kernel, rfl, by decide +kernel, by decide +kernel⟩
def spIs (C : Addr) : Sp := fun vs H Q _ => ∃ (o t : Addr) (x : Or03.Order) (n : Nat), vs = [.ref o, .int (n : Nat)] ∧ OrdAt C H o t x ∧ Q (.bl (Or03.isThing x n)) H
theorem dec_nat (a b : Nat) : decide ((a : Int) ≤ (b : Int)) = decide (a ≤ b) := by
  rw [decide_eq_decide]
  omega
theorem ok_is {f : Addr} {fd : FuncData} {k : Nat} (F : Fun K "is_thing" "is_thing" sIs f fd) (T : Txt K C) : FnOk P w K mg base CX0 (k + 1) f fd ["order", "number"] (spIs C) := by
  refine F.ok scIs (fun vs H Q E h => ?_) (fun cdv A outer s H vs Q E hr h => ?_)
  · obtain ⟨o, t, x, n, rfl, _⟩ := h
    rfl
  · obtain ⟨o, t, x, n, rfl, ⟨⟨dx, ho⟩, hP⟩, q⟩ := h
    refine ⟨_, pss_one (ps_ret (pe_and (pe_cmpR op_le pe_int (pv 1) (nomark _)) (pe_one (pe_cmpR op_le (pv 1) (pe_fld (pv 0) rfl) (nomark _))))), ?_⟩
    refine ⟨_, rfl, _, _, rfl, rfl, _, rfl, ?_⟩
    have e1 : decide ((1 : Int) ≤ (n : Int)) = decide (1 ≤ n) := dec_nat 1 n
    unfold Or03.isThing at q
    rw [e1]
    refine ite2 (fun c => ?_) (fun c => ?_)
    · refine ⟨_, rfl, _, rfl, o, C, dx, _, _, rfl, ho, T.cl, T.nS, oF_size _ _, _, _, rfl, rfl, ?_⟩
      rw [c, Bool.true_and] at q
      show Q (.bl (decide ((n : Int) ≤ (x.many : Int)))) H
      rw [dec_nat]
      exact q
    · rw [Bool.eq_false_iff.mpr c, Bool.false_and] at q
      exact q
end
end Stt
set_option Elab.async false
set_option maxRecDepth 100000
set_option maxHeartbeats 2000000
set_option linter.all false
namespace Stt
open PySem PySem.Spec PyProof.Rows L2
theorem rel_int {i : Int} {t : Tok} : RelV (.int i) (Value.int i t) := ⟨_, rfl⟩
/-- a call's way back: the order behind it, its answer in a new list -/
def Back (C : Addr) (H : Hp) (o t : Addr) (r : Or03.Order × List Int) (Q : VK) : Prop :=
  ∀ (H' : Hp) (p u : Addr), OrdAt C H' o u r.1 → (u = t ∨ H u = none) → H p = none → H' p = some (.lst (intsV r.2)) → Keep H H' o t → Q (.ref p) H'
/-- the answer alone: a new list of one number -/
theorem Back.stay {C : Addr} {H H' : Hp} {o t : Addr} {x : Or03.Order} {l : List Int} {Q : VK} (q : Back C H o t (x, l) Q) (h : OrdAt C H o t x) (s : Same H H') {p : Addr} (np : H' p = none) : Q (.ref p) (upd H' p (.lst (intsV l))) :=
  q _ _ t ((h.same s).same (same_upd np)) (.inl rfl) (s.free np) upd_same (Keep.of (s.trans (same_upd np)))
/-! ### answer_things -/
abbrev sTh : Stmt := topS 42
theorem scTh : FnScope ["order", "size"] ["order", "size"] (defScope sTh) := ⟨rfl, rfl, rfl, by decide +kernel, rfl, by decide +kernel, by decide +kernel⟩
def spTh (C : Addr) : Sp := fun vs H Q _ => ∃ (o t : Addr) (x : Or03.Order) (n : Nat), vs = [.ref o, .int (n : Nat)] ∧ OrdAt C H o t x ∧ Back C H o t (Or03.step x (.things n)) Q
section
variable {P : Program} {w : World} {K : PySem.W.Frag} {mg : Str → Option Value} {base : Heap} {C : Addr} {tw tm ta tf t8 te : Tok}
theorem ok_th {f : Addr} {fd : FuncData} {k : Nat} (F : Fun K "answer_things" "answer_things" sTh f fd) (T : Txt K C) (g8 : mg "MOST_THINGS" = some (.int 8 t8)) (gW : mg "WRONG" = some (.int (-1) tw)) :
    FnOk P w K mg base CX0 (k + 1) f fd ["order", "size"] (spTh C) := by
  refine F.ok scTh (fun vs H Q E h => ?_) (fun cdv A outer s H vs Q E hr h => ?_)
  · obtain ⟨o, t, x, n, rfl, _⟩ := h
    rfl
  · obtain ⟨o, t, x, n, rfl, hO, q⟩ := h
    refine ⟨_, pss_cons (ps_if (PW.pt (pw_or (pt_cmpR op_lt (pv 1) pe_int (nomark _)) (pw_or1 (pt_cmpR op_gt (pv 1) (pe_glob rfl g8 rel_int) (nomark _)))))
        (pss_one (ps_ret (pe_lst (pa_cons (pe_glob rfl gW rel_int) pa_nil)))) pss_nil)
      (pss_cons (ps_fld (pv 0) (pv 1) rfl) (pss_cons (ps_fld (pv 0) (pe_lst pa_nil) rfl) (pss_one (ps_ret (pe_lst (pa_cons pe_int pa_nil)))))), ?_⟩
    have e : Or03.step x (.things n) = if n = 0 ∨ 8 < n then (x, [-1]) else (⟨n, []⟩, [0]) := rfl
    refine ⟨_, rfl, _, _, rfl, rfl, _, rfl, ?_⟩
    refine ite2 (fun c => ?_) (fun c => ?_)
    · have c' : n = 0 ∨ 8 < n := by
        have := of_decide_eq_true c
        omega
      rw [e, if_pos c'] at q
      exact iteT ⟨(by show 1 ≤ sizeLine; decide), fun p np => q.stay hO (Same.refl _) np⟩
    · refine ⟨_, rfl, _, _, rfl, rfl, _, rfl, ite2 (fun d => ?_) (fun d => ?_)⟩
      · have c' : n = 0 ∨ 8 < n := by
          have := of_decide_eq_true d
          omega
        rw [e, if_pos c'] at q
        exact ⟨(by show 1 ≤ sizeLine; decide), fun p np => q.stay hO (Same.refl _) np⟩
      · have c' : ¬ (n = 0 ∨ 8 < n) := by
          have h1 : ¬ (n : Int) < 1 := fun z => c (decide_eq_true z)
          have h2 : ¬ (8 : Int) < (n : Int) := fun z => d (decide_eq_true z)
          omega
        rw [e, if_neg c'] at q
        obtain ⟨⟨dx, ho⟩, hP⟩ := hO
        refine ⟨_, rfl, _, rfl, o, C, dx, _, rfl, ho, T.cl, T.nS, (by show 2 < 1000; decide), ?_⟩
        refine ⟨Nat.zero_le _, fun u nu => ⟨_, rfl, o, C, dx, _, rfl, same_upd nu _ _ upd_same, T.cl, T.nT, (by show 2 < 1000; decide), ?_⟩⟩
        · have nou : o ≠ u := fun z => by
            rw [← z, upd_same] at nu
            cases nu
          have nu0 : H u = none := by
            rw [upd_ne (Ne.symm nou)] at nu
            exact nu
          refine ⟨(by show 1 ≤ sizeLine; decide), fun p np => ?_⟩
          have npo : p ≠ o := fun z => by
            rw [z, upd_same] at np
            cases np
          have npu : p ≠ u := fun z => by
            rw [z, upd_ne (Ne.symm nou), upd_same] at np
            cases np
          have np0 : H p = none := by
            rw [upd_ne npo, upd_ne npu, upd_ne npo] at np
            exact np
          refine q _ p u ⟨⟨dx, ?_⟩, [], ?_, trivial⟩ (.inr nu0) np0 upd_same fun b y eb nb nt => ?_
          · rw [upd_ne (Ne.symm npo), upd_same, oF_putS, oF_putT]
          · rw [upd_ne (Ne.symm npu), upd_ne (Ne.symm nou), upd_same]
            rfl
          · rw [upd_ne (ne_of_none eb np0), upd_ne nb, upd_ne (ne_of_none eb nu0), upd_ne nb]
            exact eb
/-! ### answer_undo -/
abbrev sUn : Stmt := topS 45
theorem scUn : FnScope ["order"] ["order"] (defScope sUn) := ⟨rfl, rfl, rfl, by decide +kernel, rfl, by decide +kernel, by decide +kernel⟩
def spUn (C : Addr) : Sp := fun vs H Q _ => ∃ (o t : Addr) (x : Or03.Order), vs = [.ref o] ∧ OrdAt C H o t x ∧ Back C H o t (Or03.step x .undo) Q
theorem refs_dropLast (as : List Addr) : (refs as).dropLast = refs as.dropLast := by
  unfold refs
  rw [List.map_dropLast]
theorem ok_un {f : Addr} {fd : FuncData} {k : Nat} (F : Fun K "answer_undo" "answer_undo" sUn f fd) (T : Txt K C) (ml : mg "len" = none) (gM : mg "MISSING" = some (.int (-3) tm)) :
    FnOk P w K mg base CX0 (k + 1) f fd ["order"] (spUn C) := by
  refine F.ok scUn (fun vs H Q E h => ?_) (fun cdv A outer s H vs Q E hr h => ?_)
  · obtain ⟨o, t, x, rfl, _⟩ := h
    rfl
  · obtain ⟨o, t, x, rfl, hO, q⟩ := h
    refine ⟨_, pss_cons (ps_if (pt_cmpR op_eq (pe_callB call_len_seq (by rfl) ml PySem.boot_len (pa_cons (pe_fld (pv 0) rfl) pa_nil)) pe_int (nomark _))
        (pss_one (ps_ret (pe_lst (pa_cons (pe_glob rfl gM rel_int) pa_nil)))) pss_nil)
      (pss_cons (ps_expr (pe_bm0 PySem.F.plainAttrs_list PySem.F.slot_list_pop PySem.F.type_list_pop mt_pop (pe_fld (pv 0) rfl)))
      (pss_one (ps_ret (pe_lst (pa_cons (pe_callB call_len_seq (by rfl) ml PySem.boot_len (pa_cons (pe_fld (pv 0) rfl) pa_nil)) pa_nil))))), ?_⟩
    have e : Or03.step x .undo = if x.told = [] then (x, [-3]) else ({ x with told := x.told.dropLast }, Or03.ints [x.told.length - 1]) := rfl
    obtain ⟨⟨dx, ho⟩, as, et, hT⟩ := id hO
    refine ⟨_, rfl, o, C, dx, _, _, rfl, ho, T.cl, T.nT, oF_told _ _, t, _, rfl, .inl (SqL.of et), rfl, _, rfl, ite2 (fun c => ?_) (fun c => ?_)⟩
    · have c0 : ((refs as).length : Int) = 0 := V.int.inj (of_decide_eq_true c)
      have c' : x.told = [] := by
        rw [refs_len, hT.len] at c0
        exact List.length_eq_zero_iff.mp (by omega)
      rw [e, if_pos c'] at q
      exact ⟨(by show 1 ≤ sizeLine; decide), fun p np => q.stay hO (Same.refl _) np⟩
    · have c' : ¬ x.told = [] := fun z => by
        refine c (decide_eq_true ?_)
        rw [refs_len, hT.len, z]
        rfl
      rw [e, if_neg c'] at q
      have hpos : 0 < (refs as).length := by
        rw [refs_len, hT.len]
        exact List.length_pos_iff.mpr c'
      obtain ⟨y, hy⟩ : ∃ y, (refs as)[(refs as).length - 1]? = some y := ⟨_, List.getElem?_eq_getElem (by omega)⟩
      refine ⟨_, rfl, o, C, dx, _, _, rfl, ho, T.cl, T.nT, oF_told _ _, .inl ⟨rfl, _, SqL.of et⟩, t, _, y, rfl, rfl, et, hy, ?_⟩
      have not_ : o ≠ t := ne_kind ho et (by intro z; cases z)
      refine ⟨_, rfl, o, C, dx, _, _, rfl, keep_ne ho not_, T.cl, T.nT, oF_told _ _, t, _, rfl, .inl (SqL.of upd_same), (by show 1 ≤ sizeLine; decide), fun p np => ?_⟩
      have npt : p ≠ t := fun z => by
        rw [z, upd_same] at np
        cases np
      have np0 : H p = none := by
        rw [upd_ne npt] at np
        exact np
      have el : ((refs as).dropLast.length : Int) = ((x.told.length - 1 : Nat) : Int) := by
        rw [List.length_dropLast, refs_len, hT.len]
      refine q _ p t ⟨⟨dx, ?_⟩, as.dropLast, ?_, ?_⟩ (.inl rfl) np0 ?_ fun b z eb nb nt => ?_
      · rw [upd_ne (ne_of_none ho np0), upd_ne not_]
        exact ho
      · rw [upd_ne (Ne.symm npt), upd_same, refs_dropLast]
      · exact (hT.put et).dropLast.same (same_upd np)
      · rw [upd_same, el]
        rfl
      · rw [upd_ne (ne_of_none eb np0), upd_ne nt]
        exact eb
end
end Stt
set_option Elab.async false
set_option maxRecDepth 100000
set_option maxHeartbeats 2000000
set_option linter.all false
namespace Stt
open PySem PySem.Spec PyProof.Rows L2
theorem pairsM_pairs {x : Or03.Order} (g : Good x) : pairsM x.many (rel x) x.many = Or03.pairs x := by
  have e : ∀ l : List Nat, (∀ y ∈ l, y ∈ Or03.things x) → l.flatMap (fun y => rowPairs (rel x) y x.many) = l.flatMap fun y => ((Or03.things x).filter (Or03.below x y)).map fun z => (y, z) := by
    intro l
    induction l with
    | nil => exact fun _ => rfl
    | cons y l ih =>
      intro h
      rw [List.flatMap_cons, List.flatMap_cons, ih fun z hz => h z (List.mem_cons_of_mem _ hz)]
      congr 1
      unfold rowPairs
      rw [th_things]
      congr 1
      exact List.filter_congr fun z _ => rel_below g (h y List.mem_cons_self)
  exact e _ fun y hy => hy
theorem pairs_len {x : Or03.Order} (g : Good x) : (Or03.pairs x).length ≤ 64 := by
  rw [← pairsM_pairs g]
  have h1 := pairsM_len x.many (rel x) x.many
  have h2 : x.many * x.many ≤ 8 * 8 := Nat.mul_le_mul g.hi g.hi
  omega
/-! ### answer_pairs -/
abbrev sAP : Stmt := topS 41
theorem scAP : FnScope ["order", "pairs"] ["order"] (defScope sAP) := ⟨rfl, rfl, rfl, by decide +kernel, rfl, by decide +kernel, by decide +kernel⟩
def spAP (C : Addr) : Sp := fun vs H Q _ => ∃ (o t : Addr) (x : Or03.Order), vs = [.ref o] ∧ OrdAt C H o t x ∧ Good x ∧
  ∀ H' p, Same H H' → H p = none → H' p = some (.lst (intsV (Or03.pairRow (Or03.pairs x)))) → Q (.ref p) H'
section
variable {P : Program} {w : World} {K : PySem.W.Frag} {mg : Str → Option Value} {base : Heap} {C : Addr}
theorem ok_ap2 {f fR fP fN : Addr} {fd fdR fdP fdN : FuncData} {k : Nat} (F : Fun K "answer_pairs" "answer_pairs" sAP f fd)
    (GR : FnOk P w K mg base CX0 (k + 2) fR fdR ["order"] (spRows C)) (kR : PySem.W.keepIn K (.ref fR) = true) (bR : Binds K fdR ["order"] []) (gR : mg "rows_of" = some (.ref fR))
    (GP : FnOk P w K mg base CX0 (k + 1) fP fdP ["over"] spPairs) (kP : PySem.W.keepIn K (.ref fP) = true) (bP : Binds K fdP ["over"] []) (gP : mg "pairs_over" = some (.ref fP))
    (GN : FnOk P w K mg base CX0 (k + 1) fN fdN ["first", "pairs"] spNums) (kN : PySem.W.keepIn K (.ref fN) = true) (bN : Binds K fdN ["first", "pairs"] []) (gN : mg "with_pairs" = some (.ref fN))
    (ml : mg "len" = none) :
    FnOk P w K mg base CX0 (k + 3) f fd ["order"] (spAP C) := by
  refine F.ok scAP (fun vs H Q E h => ?_) (fun cdv A outer s H vs Q E hr h => ?_)
  · obtain ⟨o, t, x, rfl, _⟩ := h
    rfl
  · obtain ⟨o, t, x, rfl, hO, g, q⟩ := h
    have hr1 : Room (k + 1) _ := hr.mono (by omega)
    refine ⟨_, pss_cons (ps_set (i := 1) scAP.nd rfl (.inl rfl) (pe_call GP hr1 (by rfl) gP kP bP .nil pass0 (pa_cons (pe_call GR hr (by rfl) gR kR bR .nil pass0 (pa_cons (pv 0) pa_nil)) pa_nil)))
      (pss_one (ps_ret (pe_call GN hr1 (by rfl) gN kN bN .nil pass0 (pa_cons (pe_callB call_len_seq (by rfl) ml PySem.boot_len (pa_cons (pv 1) pa_nil)) (pa_cons (pv 1) pa_nil))))), ?_⟩
    refine ⟨_, rfl, o, t, x, rfl, hO, g, fun H4 p4 r4 s4 n4 hM4 => ?_⟩
    refine ⟨p4, _, _, r4, rfl, hM4, g.hi, fun H5 p5 s5 n5 hP5 => ?_⟩
    rw [pairsM_pairs g] at hP5
    obtain ⟨as, e5, hT⟩ := id hP5
    refine ⟨_, rfl, p5, _, rfl, .inl (SqL.of e5), _, rfl, _, p5, _, rfl, hP5, Nat.le_trans (pairs_len g) (by decide), fun H6 p6 s6 n6 e6 => ?_⟩
    rw [refs_len, hT.len, numsI_row] at e6
    exact q _ _ (s4.trans (s5.trans s6)) (s4.free (s5.free n6)) e6
end
/-! ### answer_over -/
abbrev sOv : Stmt := topS 44
theorem scOv : FnScope ["order", "x", "y", "over"] ["order", "x", "y"] (defScope sOv) := ⟨rfl, rfl, rfl, by decide +kernel, rfl, by decide +kernel, by decide +kernel⟩
def spOv (C : Addr) : Sp := fun vs H Q _ => ∃ (o t : Addr) (x : Or03.Order) (a b : Nat), vs = [.ref o, .int (a : Nat), .int (b : Nat)] ∧ OrdAt C H o t x ∧ Good x ∧ x.told.length ≤ 2000 ∧ Back C H o t (Or03.step x (.over a b)) Q
theorem is_mem {x : Or03.Order} {a : Nat} (h : Or03.isThing x a = true) : a ∈ Or03.things x := by
  rw [Or03.isThing, Bool.and_eq_true, decide_eq_true_iff, decide_eq_true_iff] at h
  exact mem_things.mpr h
section
variable {P : Program} {w : World} {K : PySem.W.Frag} {mg : Str → Option Value} {base : Heap} {C : Addr} {tw tm ta tf t8 te : Tok}
theorem ok_ov {f fI fR fP : Addr} {fd fdI fdR fdP : FuncData} {k : Nat} (F : Fun K "answer_over" "answer_over" sOv f fd) (T : Txt K C)
    (GI : FnOk P w K mg base CX0 (k + 1) fI fdI ["order", "number"] (spIs C)) (kI : PySem.W.keepIn K (.ref fI) = true) (bI : Binds K fdI ["order", "number"] []) (gI : mg "is_thing" = some (.ref fI))
    (GR : FnOk P w K mg base CX0 (k + 2) fR fdR ["order"] (spRows C)) (kR : PySem.W.keepIn K (.ref fR) = true) (bR : Binds K fdR ["order"] []) (gR : mg "rows_of" = some (.ref fR))
    (GP : FnOk P w K mg base CX0 (k + 1) fP fdP ["over"] spPairs) (kP : PySem.W.keepIn K (.ref fP) = true) (bP : Binds K fdP ["over"] []) (gP : mg "pairs_over" = some (.ref fP))
    (ml : mg "len" = none) (gW : mg "WRONG" = some (.int (-1) tw)) (gA : mg "ALREADY" = some (.int (-4) ta)) (gF : mg "FORBIDDEN" = some (.int (-6) tf)) :
    FnOk P w K mg base CX0 (k + 3) f fd ["order", "x", "y"] (spOv C) := by
  refine F.ok scOv (fun vs H Q E h => ?_) (fun cdv A outer s H vs Q E hr h => ?_)
  · obtain ⟨o, t, x, a, b, rfl, _⟩ := h
    rfl
  · obtain ⟨o, t, x, a, b, rfl, hO, g, hl, q⟩ := h
    have hr1 : Room (k + 1) _ := hr.mono (by omega)
    refine ⟨_, pss_cons (ps_if (PW.pt (pw_or (pt_not (pt_val (pe_call GI hr1 (by rfl) gI kI bI .nil pass0 (pa_cons (pv 0) (pa_cons (pv 1) pa_nil)))))
          (pw_or (pt_not (pt_val (pe_call GI hr1 (by rfl) gI kI bI .nil pass0 (pa_cons (pv 0) (pa_cons (pv 2) pa_nil))))) (pw_or1 (pt_cmpR op_eq (pv 1) (pv 2) (nomark _))))))
        (pss_one (ps_ret (pe_lst (pa_cons (pe_glob rfl gW rel_int) pa_nil)))) pss_nil)
      (pss_cons (ps_set (i := 3) scOv.nd rfl (.inl rfl) (pe_call GR hr (by rfl) gR kR bR .nil pass0 (pa_cons (pv 0) pa_nil)))
      (pss_cons (ps_if (pt_val (pe_ix ix_list (pe_ix ix_list (pv 3) (pv 2) (fun _ _ => rfl)) (pv 1) (fun _ _ => rfl))) (pss_one (ps_ret (pe_lst (pa_cons (pe_glob rfl gF rel_int) pa_nil)))) pss_nil)
      (pss_cons (ps_if (pt_val (pe_ix ix_list (pe_ix ix_list (pv 3) (pv 1) (fun _ _ => rfl)) (pv 2) (fun _ _ => rfl))) (pss_one (ps_ret (pe_lst (pa_cons (pe_glob rfl gA rel_int) pa_nil)))) pss_nil)
      (pss_cons (ps_expr (pe_bm PySem.F.plainAttrs_list PySem.F.slot_list_append PySem.F.type_list_append mt_append (pe_fld (pv 0) rfl) (pa_cons (pe_tup (pa_cons (pv 1) (pa_cons (pv 2) pa_nil))) pa_nil)))
      (pss_one (ps_ret (pe_lst (pa_cons (pe_callB call_len_seq (by rfl) ml PySem.boot_len (pa_cons (pe_call GP hr1 (by rfl) gP kP bP .nil pass0 (pa_cons (pe_call GR hr (by rfl) gR kR bR .nil pass0 (pa_cons (pv 0) pa_nil)) pa_nil)) pa_nil)) pa_nil)))))))), ?_⟩
    have e := step_over x a b
    refine ⟨_, rfl, _, rfl, o, t, x, a, rfl, hO, _, rfl, ?_⟩
    cases e1 : Or03.isThing x a with
    | false =>
      rw [e, if_pos (.inl e1)] at q
      exact ⟨(by show 1 ≤ sizeLine; decide), fun p np => q.stay hO (Same.refl _) np⟩
    | true =>
      refine ⟨_, rfl, _, rfl, o, t, x, b, rfl, hO, _, rfl, ?_⟩
      cases e2 : Or03.isThing x b with
      | false =>
        rw [e, if_pos (.inr (.inl e2))] at q
        exact ⟨(by show 1 ≤ sizeLine; decide), fun p np => q.stay hO (Same.refl _) np⟩
      | true =>
        have ma := is_mem e1
        have mb := is_mem e2
        have la := mem_things.mp ma
        have lb := mem_things.mp mb
        refine ⟨_, rfl, _, rfl, rfl, _, rfl, ite2 (fun c => ?_) (fun c => ?_)⟩
        · have c' : a = b := by
            have := V.int.inj (of_decide_eq_true c)
            omega
          rw [e, if_pos (.inr (.inr c'))] at q
          exact ⟨(by show 1 ≤ sizeLine; decide), fun p np => q.stay hO (Same.refl _) np⟩
        · have ne : a ≠ b := fun z => c (decide_eq_true (by rw [z]))
          have c' : ¬ (Or03.isThing x a = false ∨ Or03.isThing x b = false ∨ a = b) := by
            rintro (z | z | z)
            · rw [e1] at z
              cases z
            · rw [e2] at z
              cases z
            · exact ne z
          rw [if_neg c'] at e
          refine ⟨_, rfl, o, t, x, rfl, hO, g, fun H1 p r s1 np hM => ?_⟩
          show tOp (rIxL K) (tOp (rIxL K) (tVar 3) (tVar 2)) (tVar 1) _ _ _
          refine hM.cell (x := b) (y := a) (fun Q h => ⟨_, rfl, h⟩) (fun Q h => ⟨_, rfl, h⟩) (fun Q h => ⟨_, rfl, h⟩) lb.2 la.2 ⟨_, rfl, ?_⟩
          rw [rel_below g mb]
          cases e3 : Or03.below x b a with
          | true =>
            rw [e, if_pos e3] at q
            exact ⟨(by show 1 ≤ sizeLine; decide), fun p np => q.stay hO s1 np⟩
          | false =>
            rw [if_neg (by rw [e3]; decide)] at e
            show tOp (rIxL K) (tOp (rIxL K) (tVar 3) (tVar 1)) (tVar 2) _ _ _
            refine hM.cell (x := a) (y := b) (fun Q h => ⟨_, rfl, h⟩) (fun Q h => ⟨_, rfl, h⟩) (fun Q h => ⟨_, rfl, h⟩) la.2 lb.2 ⟨_, rfl, ?_⟩
            rw [rel_below g ma]
            cases e4 : Or03.below x a b with
            | true =>
              rw [e, if_pos e4] at q
              exact ⟨(by show 1 ≤ sizeLine; decide), fun p np => q.stay hO s1 np⟩
            | false =>
              rw [if_neg (by rw [e4]; decide)] at e
              rw [e] at q
              have g2 := good_over g ma mb ne e3
              obtain ⟨⟨dx, ho⟩, as, et, hT⟩ := id hO
              have ho1 := s1 _ _ ho
              have et1 := s1 _ _ et
              have hT1 := hT.same s1
              refine ⟨_, rfl, o, C, dx, _, _, rfl, ho1, T.cl, T.nT, oF_told _ _, .inl ⟨rfl, _, SqL.of et1⟩, _, rfl, _, rfl, (by show 2 ≤ sizeLine; decide), fun u nu => ?_⟩
              have su := same_upd (o := .tup [.int (a : Nat), .int (b : Nat)]) nu
              have et2 := su _ _ et1
              refine ⟨t, _, _, rfl, rfl, et2, ?_, ?_⟩
              · rw [refs_len, hT.len]
                exact small_sz (by omega)
              · have not_ : o ≠ t := ne_kind ho et (by intro z; cases z)
                have hO2 : OrdAt C (upd (upd H1 u (.tup [.int (a : Nat), .int (b : Nat)])) t (.lst (refs as ++ [.ref u]))) o t { x with told := x.told ++ [(a, b)] } := by
                  refine ⟨⟨dx, ?_⟩, as ++ [u], ?_, ?_⟩
                  · rw [upd_ne not_]
                    exact su _ _ ho1
                  · rw [upd_same, refs_snoc]
                  · exact Tups.put et2 (Tups.snoc (p := (a, b)) upd_same (hT1.same su))
                have kp2 : Keep H (upd (upd H1 u (.tup [.int (a : Nat), .int (b : Nat)])) t (.lst (refs as ++ [.ref u]))) o t := fun b' y eb nb nt => by
                  rw [upd_ne nt]
                  exact su _ _ (s1 _ _ eb)
                refine ⟨_, rfl, o, t, _, rfl, hO2, g2, fun H3 p3 r3 s3 np3 hM3 => ?_⟩
                refine ⟨p3, _, _, r3, rfl, hM3, g2.hi, fun H4 p4 s4 np4 hP4 => ?_⟩
                obtain ⟨bs, e4', hT4⟩ := hP4
                refine ⟨p4, _, rfl, .inl (SqL.of e4'), (by show 1 ≤ sizeLine; decide), fun p5 np5 => ?_⟩
                have s34 := s3.trans (s4.trans (same_upd (o := .lst [.int ((refs bs).length : Nat)]) np5))
                have n5 : (upd (upd H1 u (.tup [.int (a : Nat), .int (b : Nat)])) t (.lst (refs as ++ [.ref u]))) p5 = none := s3.free (s4.free np5)
                have n5t : p5 ≠ t := fun z => by
                  rw [z, upd_same] at n5
                  cases n5
                have n50 : H p5 = none := by
                  rw [upd_ne n5t] at n5
                  exact s1.free (su.free n5)
                refine q _ p5 t (hO2.same s34) (.inl rfl) n50 ?_ fun b' y eb nb nt => s34 _ _ (kp2 b' y eb nb nt)
                rw [upd_same, refs_len, hT4.len, pairsM_pairs g2]
                rfl
end
end Stt
set_option Elab.async false
set_option maxRecDepth 100000
set_option maxHeartbeats 2000000
set_option linter.all false
namespace Stt
open PySem PySem.Spec PyProof.Rows L2
/-! ### are_stretches -/
abbrev sAre : Stmt := topS 46
theorem scAre : FnScope ["ends", "place"] ["ends"] (defScope sAre) := ⟨rfl, rfl, rfl, by decide +kernel, rfl, by decide +kernel, by decide +kernel⟩
def spAre (K : PySem.W.Frag) : Sp := fun vs H Q _ => ∃ (a : Addr) (l : List Nat), vs = [.ref a] ∧ SqL K H a (natsV l) ∧ l.length ≤ 100 ∧ (Takes2 l → Q (.bl true) H) ∧ (¬ Takes2 l → Q (.bl false) H)
theorem natsV_ints (l : List Nat) : natsV l = (l.map fun x : Nat => (x : Int)).map V.int := by
  unfold natsV
  rw [List.map_map]
  rfl
theorem rg2 : ∀ m : Nat, m ≤ 8 → RgC 0 ((2 * m : Nat) : Int) 2 m
  | 0, _ => ⟨by decide, by decide, by decide +kernel, by decide +kernel⟩
  | 1, _ => ⟨by decide, by decide, by decide +kernel, by decide +kernel⟩
  | 2, _ => ⟨by decide, by decide, by decide +kernel, by decide +kernel⟩
  | 3, _ => ⟨by decide, by decide, by decide +kernel, by decide +kernel⟩
  | 4, _ => ⟨by decide, by decide, by decide +kernel, by decide +kernel⟩
  | 5, _ => ⟨by decide, by decide, by decide +kernel, by decide +kernel⟩
  | 6, _ => ⟨by decide, by decide, by decide +kernel, by decide +kernel⟩
  | 7, _ => ⟨by decide, by decide, by decide +kernel, by decide +kernel⟩
  | 8, _ => ⟨by decide, by decide, by decide +kernel, by decide +kernel⟩
  | m + 9, h => by omega
theorem natsV_at {l : List Nat} {j : Nat} (h : j < l.length) : (natsV l)[j]? = some (.int (l[j] : Nat)) := natsV_get (List.getElem?_eq_getElem h)
section
variable {P : Program} {w : World} {K : PySem.W.Frag} {mg : Str → Option Value} {base : Heap} {C : Addr} {tw tm ta tf t8 te : Tok}
theorem ok_are {f : Addr} {fd : FuncData} {k : Nat} (F : Fun K "are_stretches" "are_stretches" sAre f fd) (ml : mg "len" = none) (mx : mg "max" = none) (mr : mg "range" = none) (g8 : mg "MOST_THINGS" = some (.int 8 t8)) (gE : mg "HIGHEST_END" = some (.int 100000 te)) :
    FnOk P w K mg base CX0 (k + 1) f fd ["ends"] (spAre K) := by
  refine F.ok scAre (fun vs H Q E h => ?_) (fun cdv A outer s H vs Q E hr h => ?_)
  · obtain ⟨a, l, rfl, _⟩ := h
    rfl
  · obtain ⟨a, l, rfl, ha, hl, qT, qF⟩ := h
    refine ⟨_, pss_cons (ps_if (PW.pt (pw_or (pt_cmpR op_eq (pe_op op_mod (pe_callB call_len_seq (by rfl) ml PySem.boot_len (pa_cons (pv 0) pa_nil)) pe_int) pe_int (nomark _))
          (pw_or (pt_cmpR op_eq (pe_callB call_len_seq (by rfl) ml PySem.boot_len (pa_cons (pv 0) pa_nil)) pe_int (nomark _))
          (pw_or1 (pt_cmpR op_gt (pe_callB call_len_seq (by rfl) ml PySem.boot_len (pa_cons (pv 0) pa_nil)) (pe_op op_mul pe_int (pe_glob rfl g8 rel_int)) (nomark _))))))
        (pss_one (ps_ret pe_bl)) pss_nil)
      (pss_cons (ps_if (pt_cmpR op_gt (pe_callB (cr_max rfl) (by rfl) mx (by decide +kernel) (pa_cons (pv 0) pa_nil)) (pe_glob rfl gE rel_int) (nomark _)) (pss_one (ps_ret pe_bl)) pss_nil)
      (pss_cons (ps_for PassesOwn.never rfl (pi_range3 (by rfl) mr (pa_cons pe_int (pa_cons (pe_callB call_len_seq (by rfl) ml PySem.boot_len (pa_cons (pv 0) pa_nil)) (pa_cons pe_int pa_nil)))) (pg_name (i := 1) scAre.nd rfl (.inl rfl))
        (pss_one (ps_if (pt_cmpR op_lt (pe_ix ix_list (pv 0) (pe_op op_add (pv 1) pe_int) (fun _ _ => rfl)) (pe_ix ix_list (pv 0) (pv 1) (fun _ _ => rfl)) (nomark _)) (pss_one (ps_ret pe_bl)) pss_nil)))
      (pss_one (ps_ret pe_bl)))), ?_⟩
    have el : (natsV l).length = l.length := natsV_len l
    refine ⟨_, rfl, a, _, rfl, .inl ha, _, _, rfl, rfl, (by show (0 : Int) < 2; decide), rfl, _, rfl, ?_⟩
    rw [el]
    by_cases c1 : l.length % 2 = 1
    · rw [decide_eq_true (show V.int ((l.length : Int) % 2) = V.int 1 by congr 1; omega)]
      exact qF fun z => by have := z.1.1; omega
    · rw [decide_eq_false (show ¬ V.int ((l.length : Int) % 2) = V.int 1 from fun z => c1 (by have := V.int.inj z; omega))]
      refine iteF ⟨_, rfl, a, _, rfl, .inl ha, rfl, _, rfl, ?_⟩
      rw [el]
      by_cases c2 : l.length = 0
      · rw [decide_eq_true (show V.int (l.length : Int) = V.int 0 by congr 1; omega)]
        exact qF fun z => z.2.1 c2
      · rw [decide_eq_false (show ¬ V.int (l.length : Int) = V.int 0 from fun z => c2 (by have := V.int.inj z; omega))]
        refine iteF ⟨_, rfl, a, _, rfl, .inl ha, _, _, rfl, rfl, .inl ⟨by decide, by decide⟩, _, _, rfl, rfl, _, rfl, ?_⟩
        rw [el]
        by_cases c3 : 16 < l.length
        · rw [decide_eq_true (show (2 : Int) * 8 < (l.length : Int) by omega)]
          exact qF fun z => by have := z.2.2; omega
        · rw [decide_eq_false (show ¬ (2 : Int) * 8 < (l.length : Int) by omega)]
          -- max(ends)
          have ha2 := ha
          rw [natsV_ints] at ha2
          refine iteF ⟨_, rfl, a, _, rfl, ha2, by rw [List.length_map]; omega, fun m hm hle => ⟨_, _, rfl, rfl, _, rfl, ite2 (fun d => ?_) (fun d => ?_)⟩⟩
          · obtain ⟨v, hv, rfl⟩ := List.mem_map.mp hm
            have d' := of_decide_eq_true d
            refine qF fun z => ?_
            obtain ⟨p, hp, e⟩ := pairUp_mem (l := l) (by omega) hv
            have := z.1.2 p hp
            omega
          · have d' : ∀ v ∈ l, v ≤ 100000 := fun v hv => by
              have := hle (v : Int) (List.mem_map.mpr ⟨v, hv, rfl⟩)
              have : ¬ (100000 : Int) < m := fun z => d (decide_eq_true z)
              omega
            obtain ⟨h2, eh⟩ : ∃ h, l.length = 2 * h := ⟨l.length / 2, by omega⟩
            refine ⟨_, rfl, a, _, rfl, .inl ha, 0, _, 2, h2, rfl, (by rw [el, eh]; exact rg2 h2 (by omega)), ?_⟩
            refine for_rangeC (lo := 0) (c := 2) (n := h2) (fun i σ H' => ∃ v, σ = [some (.ref a), v] ∧ H' = H ∧ ∀ j, j < i → ∀ (u v : Nat), l[2 * j]? = some u → l[2 * j + 1]? = some v → u ≤ v) ⟨none, rfl, rfl, fun j h => by omega⟩ ?_ ?_
            · rintro i σ H1 hi ⟨v, rfl, rfl, hj⟩
              have b0 : 2 * i < l.length := by omega
              have b1 : 2 * i + 1 < l.length := by omega
              refine ⟨_, rfl, _, rfl, _, _, rfl, rfl, a, _, _, _, rfl, rfl, ha, at_of (j := 2 * i + 1) (by omega) (natsV_at b1), _, rfl, _, rfl, a, _, _, _, rfl, rfl, ha, at_of (j := 2 * i) (by omega) (natsV_at b0), _, _, rfl, rfl, _, rfl, ite2 (fun e => ?_) (fun e => ?_)⟩
              · have e' := of_decide_eq_true e
                refine qF fun z => ?_
                have := z.1.2 _ (List.mem_of_getElem? (pairUp_get (l := l) (i := i) (List.getElem?_eq_getElem b0) (List.getElem?_eq_getElem b1)))
                omega
              · refine ⟨_, rfl, rfl, fun j hj2 u v hu hv => ?_⟩
                by_cases z : j < i
                · exact hj j z u v hu hv
                · have : j = i := by omega
                  subst this
                  rw [List.getElem?_eq_getElem b0] at hu
                  rw [List.getElem?_eq_getElem b1] at hv
                  have eu := Option.some.inj hu
                  have ev := Option.some.inj hv
                  have : ¬ ((l[2 * j + 1] : Int) < (l[2 * j] : Int)) := fun z => e (decide_eq_true z)
                  omega
            · rintro σ H1 ⟨v, rfl, rfl, hj⟩
              refine qT ⟨⟨by omega, fun p hp => ?_⟩, c2, by omega⟩
              obtain ⟨i, hi, ep⟩ := List.getElem_of_mem hp
              rw [pairUp_len] at hi
              have b0 : 2 * i < l.length := by omega
              have b1 : 2 * i + 1 < l.length := by omega
              have g := pairUp_get (l := l) (i := i) (List.getElem?_eq_getElem b0) (List.getElem?_eq_getElem b1)
              rw [List.getElem?_eq_getElem (by rw [pairUp_len]; exact hi), ep] at g
              have g' := Option.some.inj g
              rw [g']
              exact ⟨hj i (by omega) _ _ (List.getElem?_eq_getElem b0) (List.getElem?_eq_getElem b1), d' _ (List.getElem_mem b1)⟩
end
end Stt
set_option Elab.async false
set_option maxRecDepth 100000
set_option maxHeartbeats 2000000
set_option linter.all false
namespace Stt
open PySem PySem.Spec PyProof.Rows L2
/-! ### range(n) -/
theorem for_r0 {n : Nat} {m : Int} (hm : m = (n : Int)) {g : TG} {tb : TS} {D : Ends} {σ : L2.St} {H : Hp} (Pv : Nat → L2.St → Hp → Prop) (h0 : Pv 0 σ H)
    (hs : ∀ i σ H, i < n → Pv i σ H → g (.int (i : Nat)) σ H fun σ2 H2 => tb { D with nx := Pv (i + 1), ct := Pv (i + 1), bk := D.nx } σ2 H2) (hd : ∀ σ H, Pv n σ H → D.nx σ H) :
    ∃ W : Nat → Nat → L2.St → Hp → Prop, (∃ k, W 0 k σ H) ∧ ∀ i k σ H, W i k σ H →
      ((Itr 0 m.toNat).stop i H ∧ D.nx σ H) ∨ ((Itr 0 m.toNat).go i H ∧ ∃ N : L2.St → Hp → Prop, (∀ σ' H', N σ' H' → ∃ m', m' < k ∧ W (i + 1) m' σ' H') ∧ ∀ x H', (Itr 0 m.toNat).yld i H x H' → g x σ H' fun σ2 H2 => tb { D with nx := N, ct := N, bk := D.nx } σ2 H2) := by
  have e : m.toNat = n := by omega
  rw [e]
  refine for_range Pv h0 (fun i σ H hi p => ?_) hd
  rw [Int.zero_add]
  exact hs i σ H hi p
/-! ### pairs_apart -/
abbrev sAp : Stmt := topS 47
theorem scAp : FnScope ["ends", "size", "pairs", "x", "y"] ["ends"] (defScope sAp) := ⟨rfl, rfl, rfl, by decide +kernel, rfl, by decide +kernel, by decide +kernel⟩
def apT (s : List (Nat × Nat)) (i j : Nat) : Bool := decide ((s.getD i (0, 0)).2 < (s.getD j (0, 0)).1)
def apRow (s : List (Nat × Nat)) (i j : Nat) : List (Nat × Nat) := ((List.range j).filter (apT s i)).map fun j => (i + 1, j + 1)
def apI (s : List (Nat × Nat)) (m i : Nat) : List (Nat × Nat) := (List.range i).flatMap fun i => apRow s i m
theorem apI_told (s : List (Nat × Nat)) : apI s s.length s.length = (Or03.ofSpans s).told := rfl
theorem apRow_succ (s : List (Nat × Nat)) (i j : Nat) : apRow s i (j + 1) = apRow s i j ++ (if apT s i j = true then [(i + 1, j + 1)] else []) := by
  unfold apRow
  rw [List.range_succ, List.filter_append, List.map_append]
  by_cases c : apT s i j = true
  · rw [List.filter_cons_of_pos c, if_pos c]
    rfl
  · rw [List.filter_cons_of_neg c, if_neg c]
    rfl
theorem apI_succ (s : List (Nat × Nat)) (m i : Nat) : apI s m (i + 1) = apI s m i ++ apRow s i m := by
  unfold apI
  rw [List.range_succ, List.flatMap_append, List.flatMap_singleton]
theorem apRow_len (s : List (Nat × Nat)) (i j : Nat) : (apRow s i j).length ≤ j := by
  unfold apRow
  rw [List.length_map]
  exact Nat.le_trans (List.length_filter_le _ _) (by rw [List.length_range]; exact Nat.le_refl _)
theorem apI_len (s : List (Nat × Nat)) (m : Nat) : ∀ i, (apI s m i).length ≤ i * m
  | 0 => Nat.zero_le _
  | i + 1 => by
    rw [apI_succ, List.length_append, Nat.succ_mul]
    exact Nat.add_le_add (apI_len s m i) (apRow_len _ _ _)
def spAp (K : PySem.W.Frag) : Sp := fun vs H Q _ => ∃ (a : Addr) (l : List Nat), vs = [.ref a] ∧ SqL K H a (natsV l) ∧ l.length ≤ 16 ∧ l.length % 2 = 0 ∧
  ∀ H' q, Same H H' → H q = none → PairsAt H' q (Or03.ofSpans (pairUp l)).told → Q (.ref q) H'
theorem half_div {n h : Nat} (e : n = 2 * h) : ((n : Nat) : Int) / 2 = (h : Int) := by omega
theorem pairUp_getD {l : List Nat} {i : Nat} (h1 : 2 * i + 1 < l.length) : (pairUp l).getD i (0, 0) = (l[2 * i], l[2 * i + 1]) := by
  rw [List.getD_eq_getElem?_getD, pairUp_get (l := l) (i := i) (List.getElem?_eq_getElem (by omega)) (List.getElem?_eq_getElem h1)]
  rfl
section
variable {P : Program} {w : World} {K : PySem.W.Frag} {mg : Str → Option Value} {base : Heap} {C : Addr} {tw tm ta tf t8 te : Tok}
theorem ok_ap {f : Addr} {fd : FuncData} {k : Nat} (F : Fun K "pairs_apart" "pairs_apart" sAp f fd) (ml : mg "len" = none) (mr : mg "range" = none) : FnOk P w K mg base CX0 (k + 1) f fd ["ends"] (spAp K) := by
  refine F.ok scAp (fun vs H Q E h => ?_) (fun cdv A outer s H vs Q E hr h => ?_)
  · obtain ⟨a, l, rfl, _⟩ := h
    rfl
  · obtain ⟨a, l, rfl, ha, hl, hev, q⟩ := h
    refine ⟨_, pss_cons (ps_set (i := 1) scAp.nd rfl (.inl rfl) (pe_op op_fdiv (pe_callB call_len_seq (by rfl) ml PySem.boot_len (pa_cons (pv 0) pa_nil)) pe_int))
      (pss_cons (ps_set (i := 2) scAp.nd rfl (.inl rfl) (pe_lst pa_nil))
      (pss_cons (ps_for PassesOwn.never rfl (pi_range1 (by rfl) mr (pa_cons (pv 1) pa_nil)) (pg_name (i := 3) scAp.nd rfl (.inl rfl))
        (pss_one (ps_for PassesOwn.never rfl (pi_range1 (by rfl) mr (pa_cons (pv 1) pa_nil)) (pg_name (i := 4) scAp.nd rfl (.inl rfl))
          (pss_one (ps_if (pt_cmpR op_lt (pe_ix ix_list (pv 0) (pe_op op_add (pe_op op_mul pe_int (pv 3)) pe_int) (fun _ _ => rfl)) (pe_ix ix_list (pv 0) (pe_op op_mul pe_int (pv 4)) (fun _ _ => rfl)) (nomark _))
            (pss_one (ps_expr (pe_bm PySem.F.plainAttrs_list PySem.F.slot_list_append PySem.F.type_list_append mt_append (pv 2) (pa_cons (pe_tup (pa_cons (pe_op op_add (pv 3) pe_int) (pa_cons (pe_op op_add (pv 4) pe_int) pa_nil))) pa_nil)))) pss_nil)))))
      (pss_one (ps_ret (pv 2))))), ?_⟩
    obtain ⟨m, em⟩ : ∃ m, l.length = 2 * m := ⟨l.length / 2, by omega⟩
    have pl : (pairUp l).length = m := by rw [pairUp_len]; omega
    refine ⟨_, rfl, a, _, rfl, .inl ha, _, _, rfl, rfl, ⟨by decide, by decide⟩, ?_⟩
    simp only [natsV_len, half_div em]
    refine ⟨Nat.zero_le _, fun t nt => ?_⟩
    have s1 := same_upd (o := .lst []) nt
    refine ⟨_, rfl, _, rfl, by omega, by omega, ?_⟩
    refine for_r0 (n := m) rfl (fun i σ H' => ∃ vx vy, σ = [some (.ref a), some (.int (m : Nat)), some (.ref t), vx, vy] ∧ Same H H' ∧ PairsAt H' t (apI (pairUp l) m i)) ⟨none, none, rfl, s1, [], upd_same, trivial⟩ ?_ ?_
    · rintro i σ H1 hi ⟨vx, vy, rfl, sm, hP⟩
      refine ⟨_, rfl, _, rfl, by omega, by omega, ?_⟩
      refine for_r0 (n := m) rfl (fun j σ H' => ∃ vy, σ = [some (.ref a), some (.int (m : Nat)), some (.ref t), some (.int (i : Nat)), vy] ∧ Same H H' ∧ PairsAt H' t (apI (pairUp l) m i ++ apRow (pairUp l) i j)) ⟨vy, rfl, sm, ?_⟩ ?_ ?_
      · show PairsAt H1 t (apI (pairUp l) m i ++ [])
        rw [List.append_nil]
        exact hP
      · rintro j σ H2 hj ⟨vy, rfl, sm2, as, ht, hT⟩
        have b1 : 2 * i + 1 < l.length := by omega
        have b0 : 2 * j < l.length := by omega
        have hA := sm2.seq ha
        refine ⟨_, rfl, _, rfl, _, _, rfl, rfl, .inl ⟨by decide, by decide⟩, _, _, rfl, rfl, a, _, _, _, rfl, rfl, hA, at_of (j := 2 * i + 1) (by omega) (natsV_at b1), _, rfl, _, rfl, _, _, rfl, rfl, .inl ⟨by decide, by decide⟩, a, _, _, _, rfl, rfl, hA, at_of (j := 2 * j) (by omega) (natsV_at b0), _, _, rfl, rfl, _, rfl, ?_⟩
        have eT : decide (((l[2 * i + 1] : Nat) : Int) < ((l[2 * j] : Nat) : Int)) = apT (pairUp l) i j := by
          unfold apT
          rw [pairUp_getD b1, pairUp_getD (show 2 * j + 1 < l.length by omega), decide_eq_decide]
          show _ ↔ l[2 * i + 1] < l[2 * j]
          omega
        rw [eT]
        have e := apRow_succ (pairUp l) i j
        refine ite2 (fun c => ?_) (fun c => ?_)
        · rw [if_pos c] at e
          refine ⟨_, rfl, .inl ⟨rfl, _, SqL.of ht⟩, _, rfl, _, _, rfl, rfl, _, rfl, _, _, rfl, rfl, (by show 2 ≤ sizeLine; decide), fun u nu => ?_⟩
          have su := same_upd (o := .tup [.int ((i : Nat) + 1), .int ((j : Nat) + 1)]) nu
          have ht2 := su _ _ ht
          refine ⟨t, _, _, rfl, rfl, ht2, ?_, ?_⟩
          · rw [refs_len, hT.len, List.length_append]
            have l1 := apI_len (pairUp l) m i
            have l2 := apRow_len (pairUp l) i j
            have l3 : i * m ≤ 8 * 8 := Nat.mul_le_mul (by omega) (by omega)
            exact small_sz (by omega)
          · refine ⟨_, rfl, same_put (sm2.trans su) nt, as ++ [u], ?_, ?_⟩
            · rw [upd_same, refs_snoc]
            · rw [e, ← List.append_assoc]
              exact Tups.put ht2 (Tups.snoc (p := (i + 1, j + 1)) upd_same (hT.same su))
        · rw [if_neg c, List.append_nil] at e
          refine ⟨_, rfl, sm2, as, ht, ?_⟩
          rw [e]
          exact hT
      · rintro σ H2 ⟨vy, rfl, sm2, hP2⟩
        refine ⟨_, _, rfl, sm2, ?_⟩
        rw [apI_succ]
        exact hP2
    · rintro σ H1 ⟨vx, vy, rfl, sm, hP⟩
      refine ⟨_, rfl, q _ _ sm nt ?_⟩
      rw [← apI_told, pl]
      exact hP
/-! ### answer_told -/
abbrev sTo : Stmt := topS 48
theorem scTo : FnScope ["order", "ends"] ["order", "ends"] (defScope sTo) := ⟨rfl, rfl, rfl, by decide +kernel, rfl, by decide +kernel, by decide +kernel⟩
def spTo (C : Addr) : Sp := fun vs H Q _ => ∃ (o t a : Addr) (x : Or03.Order) (l : List Nat), vs = [.ref o, .ref a] ∧ OrdAt C H o t x ∧ H a = some (.lst (natsV l)) ∧ l.length ≤ 100 ∧ Back C H o t (Or03.step x (.told l)) Q
theorem ok_to {f fA fB fN : Addr} {fd fdA fdB fdN : FuncData} {k : Nat} (F : Fun K "answer_told" "answer_told" sTo f fd) (T : Txt K C)
    (GA : FnOk P w K mg base CX0 (k + 1) fA fdA ["ends"] (spAre K)) (kA : PySem.W.keepIn K (.ref fA) = true) (bA : Binds K fdA ["ends"] []) (gA : mg "are_stretches" = some (.ref fA))
    (GB : FnOk P w K mg base CX0 (k + 1) fB fdB ["ends"] (spAp K)) (kB : PySem.W.keepIn K (.ref fB) = true) (bB : Binds K fdB ["ends"] []) (gB : mg "pairs_apart" = some (.ref fB))
    (GN : FnOk P w K mg base CX0 (k + 3) fN fdN ["order"] (spAP C)) (kN : PySem.W.keepIn K (.ref fN) = true) (bN : Binds K fdN ["order"] []) (gN : mg "answer_pairs" = some (.ref fN))
    (ml : mg "len" = none) (gW : mg "WRONG" = some (.int (-1) tw)) :
    FnOk P w K mg base CX0 (k + 4) f fd ["order", "ends"] (spTo C) := by
  refine F.ok scTo (fun vs H Q E h => ?_) (fun cdv A outer s H vs Q E hr h => ?_)
  · obtain ⟨o, t, a, x, l, rfl, _⟩ := h
    rfl
  · obtain ⟨o, t, a, x, l, rfl, hO, ha, hl, q⟩ := h
    have hr1 : Room (k + 1) _ := hr.mono (by omega)
    refine ⟨_, pss_cons (ps_if (pt_not (pt_val (pe_call GA hr1 (by rfl) gA kA bA .nil pass0 (pa_cons (pv 1) pa_nil)))) (pss_one (ps_ret (pe_lst (pa_cons (pe_glob rfl gW rel_int) pa_nil)))) pss_nil)
      (pss_cons (ps_fld (pv 0) (pe_op op_fdiv (pe_callB call_len_seq (by rfl) ml PySem.boot_len (pa_cons (pv 1) pa_nil)) pe_int) rfl)
      (pss_cons (ps_fld (pv 0) (pe_call GB hr1 (by rfl) gB kB bB .nil pass0 (pa_cons (pv 1) pa_nil)) rfl)
      (pss_one (ps_ret (pe_call GN hr (by rfl) gN kN bN .nil pass0 (pa_cons (pv 0) pa_nil)))))), ?_⟩
    refine ⟨_, rfl, a, l, rfl, SqL.of ha, hl, fun yes => ⟨_, rfl, ?_⟩, fun no => ⟨_, rfl, ?_⟩⟩
    · rw [step_told_yes yes] at q
      have g2 := takes_good yes
      obtain ⟨m, em⟩ : ∃ m, l.length = 2 * m := ⟨l.length / 2, by have := yes.1.1; omega⟩
      have pl : (pairUp l).length = m := by rw [pairUp_len]; omega
      obtain ⟨⟨dx, ho⟩, hP⟩ := hO
      have nao : a ≠ o := ne_kind ha ho (by intro z; cases z)
      refine iteF ⟨_, rfl, a, _, rfl, .inl (SqL.of ha), _, _, rfl, rfl, ⟨by decide, by decide⟩, _, rfl, o, C, dx, _, rfl, ho, T.cl, T.nS, (by show 2 < 1000; decide), ?_⟩
      simp only [natsV_len, half_div em, oF_putS]
      refine ⟨_, rfl, a, l, rfl, SqL.of (keep_ne ha nao), yes.2.2, yes.1.1, fun H2 u s2 nu hU => ?_⟩
      have ho2 := s2 _ _ (upd_same (H := H) (a := o) (o := .ins C dx (oF m t)))
      have nuo : u ≠ o := fun z => by
        rw [z, upd_same] at nu
        cases nu
      have nu0 : H u = none := by
        rw [upd_ne nuo] at nu
        exact nu
      refine ⟨_, rfl, o, C, dx, _, rfl, ho2, T.cl, T.nT, (by show 2 < 1000; decide), ?_⟩
      rw [oF_putT]
      have hO3 : OrdAt C (upd H2 o (.ins C dx (oF m u))) o u (Or03.ofSpans (pairUp l)) := by
        refine ⟨⟨dx, ?_⟩, ?_⟩
        · rw [upd_same, ← pl]
          rfl
        · obtain ⟨as, e1, e2⟩ := hU
          exact ⟨as, keep_ne e1 nuo, e2.mono fun b' y z e => keep_ne e (ne_kind e ho2 (by intro z; cases z))⟩
      have kp : Keep H (upd H2 o (.ins C dx (oF m u))) o t := fun b y eb nb nt => by
        rw [upd_ne nb]
        exact s2 _ _ (keep_ne eb nb)
      refine ⟨_, rfl, o, u, _, rfl, hO3, g2, fun H6 p6 s46 n63 e6 => ?_⟩
      have n60 : p6 ≠ o := fun z => by
        rw [z, upd_same] at n63
        cases n63
      have n6H : H p6 = none := by
        rw [upd_ne n60] at n63
        have := s2.free n63
        rw [upd_ne n60] at this
        exact this
      exact q _ p6 u (hO3.same s46) (.inr nu0) n6H e6 fun b y eb nb nt => s46 _ _ (kp b y eb nb nt)
    · rw [step_told_no no] at q
      exact iteT ⟨(by show 1 ≤ sizeLine; decide), fun p np => q.stay hO (Same.refl _) np⟩
end
end Stt
set_option Elab.async false
set_option maxRecDepth 100000
set_option maxHeartbeats 2000000
set_option linter.all false
namespace Stt
open PySem PySem.Spec PyProof.Rows L2
theorem Back.list {C : Addr} {H H' : Hp} {o t : Addr} {x : Or03.Order} {l : List Int} {Q : VK} (q : Back C H o t (x, l) Q) (h : OrdAt C H o t x) (s : Same H H') {p : Addr} (np : H p = none) (e : H' p = some (.lst (intsV l))) : Q (.ref p) H' :=
  q _ _ t (h.same s) (.inl rfl) np e (Keep.of s)
/-! ### answer_stretches -/
abbrev sAS : Stmt := topS 49
theorem scAS : FnScope ["order", "over", "spans"] ["order"] (defScope sAS) := ⟨rfl, rfl, rfl, by decide +kernel, rfl, by decide +kernel, by decide +kernel⟩
def spAS (C : Addr) : Sp := fun vs H Q _ => ∃ (o t : Addr) (x : Or03.Order), vs = [.ref o] ∧ OrdAt C H o t x ∧ Good x ∧ Back C H o t (Or03.step x .stretches) Q
theorem nums_stretches {x : Or03.Order} (g : Good x) : numsI ((setsM x.many (rel x)).length : Nat) (spansI x.many (rel x) x.many) = Or03.ints (Or03.moments x :: (Or03.things x).flatMap fun y => [Or03.begins x y, Or03.ends x y]) := by
  unfold numsI Or03.moments spansI
  rw [setsM_befores g, th_things, List.flatMap_map]
  have ef : (fun y => [(spanM x.many (rel x) y).1, (spanM x.many (rel x) y).2]) = fun y => [Or03.begins x y, Or03.ends x y] := funext fun y => by rw [spanM_begins g, spanM_ends g]
  show ((Or03.befores x).length : Int) :: Or03.ints ((Or03.things x).flatMap fun y => [(spanM x.many (rel x) y).1, (spanM x.many (rel x) y).2]) = _
  rw [ef]
  rfl
section
variable {P : Program} {w : World} {K : PySem.W.Frag} {mg : Str → Option Value} {base : Heap} {C : Addr} {tw tm ta tf t8 te : Tok}
theorem ok_as {f fR fS fM fN : Addr} {fd fdR fdS fdM fdN : FuncData} {k : Nat} (F : Fun K "answer_stretches" "answer_stretches" sAS f fd)
    (GR : FnOk P w K mg base CX0 (k + 2) fR fdR ["order"] (spRows C)) (kR : PySem.W.keepIn K (.ref fR) = true) (bR : Binds K fdR ["order"] []) (gR : mg "rows_of" = some (.ref fR))
    (GS : FnOk P w K mg base CX0 (k + 4) fS fdS ["over"] spStr) (kS : PySem.W.keepIn K (.ref fS) = true) (bS : Binds K fdS ["over"] []) (gS : mg "stretches_told" = some (.ref fS))
    (GM : FnOk P w K mg base CX0 (k + 3) fM fdM ["over"] spMany) (kM : PySem.W.keepIn K (.ref fM) = true) (bM : Binds K fdM ["over"] []) (gM : mg "how_many_moments" = some (.ref fM))
    (GN : FnOk P w K mg base CX0 (k + 1) fN fdN ["first", "pairs"] spNums) (kN : PySem.W.keepIn K (.ref fN) = true) (bN : Binds K fdN ["first", "pairs"] []) (gN : mg "with_pairs" = some (.ref fN))
    (gF : mg "FORBIDDEN" = some (.int (-6) tf)) :
    FnOk P w K mg base CX0 (k + 5) f fd ["order"] (spAS C) := by
  refine F.ok scAS (fun vs H Q E h => ?_) (fun cdv A outer s H vs Q E hr h => ?_)
  · obtain ⟨o, t, x, rfl, _⟩ := h
    rfl
  · obtain ⟨o, t, x, rfl, hO, g, q⟩ := h
    have hr1 : Room (k + 1) _ := hr.mono (by omega)
    have hr2 : Room (k + 2) _ := hr.mono (by omega)
    have hr3 : Room (k + 3) _ := hr.mono (by omega)
    refine ⟨_, pss_cons (ps_set (i := 1) scAS.nd rfl (.inl rfl) (pe_call GR hr2 (by rfl) gR kR bR .nil pass0 (pa_cons (pv 0) pa_nil)))
      (pss_cons (ps_set (i := 2) scAS.nd rfl (.inl rfl) (pe_call GS hr (by rfl) gS kS bS .nil pass0 (pa_cons (pv 1) pa_nil)))
      (pss_cons (ps_if (pt_cmpR op_isN (pv 2) pe_non (nomark _)) (pss_one (ps_ret (pe_lst (pa_cons (pe_glob rfl gF rel_int) pa_nil)))) pss_nil)
      (pss_one (ps_ret (pe_call GN hr1 (by rfl) gN kN bN .nil pass0 (pa_cons (pe_call GM hr3 (by rfl) gM kM bM .nil pass0 (pa_cons (pv 1) pa_nil)) (pa_cons (pv 2) pa_nil))))))), ?_⟩
    have e : Or03.step x .stretches = (x, if Or03.stretches x = false then [-6] else Or03.ints (Or03.moments x :: (Or03.things x).flatMap fun y => [Or03.begins x y, Or03.ends x y])) := rfl
    refine ⟨_, rfl, o, t, x, rfl, hO, g, fun H1 p r s1 np hM => ?_⟩
    refine ⟨_, rfl, p, x.many, rel x, r, rfl, hM, g.hi, fun yes H2 u s2 nu hU => ?_, fun no H2 s2 => ?_⟩
    · rw [tells_stretches g] at yes
      rw [e, if_neg (by rw [yes]; decide)] at q
      have hM2 := hM.same s2
      have s12 := s1.trans s2
      refine ⟨_, rfl, rfl, _, rfl, ?_⟩
      rw [decide_eq_false (show ¬ V.ref u = V.non from fun z => by cases z)]
      refine iteF ⟨_, rfl, p, _, _, r, rfl, hM2, g.hi, fun H3 s3 => ⟨_, rfl, _, u, _, rfl, hU.same s3, ?_, fun H4 v s4 nv ev => ?_⟩⟩
      · rw [spansI_len]
        have := g.hi
        omega
      · rw [nums_stretches g] at ev
        exact q.list hO (s12.trans (s3.trans s4)) (s12.free (s3.free nv)) ev
    · rw [tells_stretches g] at no
      rw [e, if_pos no] at q
      refine ⟨_, rfl, rfl, _, rfl, iteT ⟨(by show 1 ≤ sizeLine; decide), fun v nv => ?_⟩⟩
      exact q.stay hO (s1.trans s2) nv
/-! ### answer_at -/
abbrev sAt : Stmt := topS 50
theorem scAt : FnScope ["order", "moment", "over", "spans", "lasting", "thing", "span"] ["order", "moment"] (defScope sAt) := ⟨rfl, rfl, rfl, by decide +kernel, rfl, by decide +kernel, by decide +kernel⟩
def spAt (C : Addr) : Sp := fun vs H Q _ => ∃ (o t : Addr) (x : Or03.Order) (m : Nat), vs = [.ref o, .int (m : Nat)] ∧ OrdAt C H o t x ∧ Good x ∧ Back C H o t (Or03.step x (.at_ m)) Q
def lastT (n : Nat) (M : Mat) (m y : Nat) : Bool := decide ((spanM n M y).1 ≤ m) && decide (m ≤ (spanM n M y).2)
def lastI (n : Nat) (M : Mat) (m i : Nat) : List Nat := (th i).filter (lastT n M m)
theorem lastI_succ (n : Nat) (M : Mat) (m i : Nat) : lastI n M m (i + 1) = lastI n M m i ++ (if lastT n M m (i + 1) = true then [i + 1] else []) := by
  unfold lastI
  rw [th_succ, List.filter_append]
  by_cases c : lastT n M m (i + 1) = true
  · rw [List.filter_cons_of_pos c, if_pos c]
    rfl
  · rw [List.filter_cons_of_neg c, if_neg c]
    rfl
theorem lastI_len (n : Nat) (M : Mat) (m i : Nat) : (lastI n M m i).length ≤ i := by
  unfold lastI
  exact Nat.le_trans (List.length_filter_le _ _) (by rw [th_len]; exact Nat.le_refl _)
theorem lastI_at {x : Or03.Order} (g : Good x) (m : Nat) : lastI x.many (rel x) m x.many = Or03.at_ x m := by
  unfold lastI Or03.at_
  rw [th_things]
  refine List.filter_congr fun y _ => ?_
  unfold lastT
  rw [spanM_begins g, spanM_ends g]
theorem natsV_intsV (l : List Nat) : natsV l = intsV (Or03.ints l) := by
  unfold natsV intsV Or03.ints
  rw [List.map_map]
  rfl
theorem ok_at {f fR fS fM : Addr} {fd fdR fdS fdM : FuncData} {k : Nat} (F : Fun K "answer_at" "answer_at" sAt f fd)
    (GR : FnOk P w K mg base CX0 (k + 2) fR fdR ["order"] (spRows C)) (kR : PySem.W.keepIn K (.ref fR) = true) (bR : Binds K fdR ["order"] []) (gR : mg "rows_of" = some (.ref fR))
    (GS : FnOk P w K mg base CX0 (k + 4) fS fdS ["over"] spStr) (kS : PySem.W.keepIn K (.ref fS) = true) (bS : Binds K fdS ["over"] []) (gS : mg "stretches_told" = some (.ref fS))
    (GM : FnOk P w K mg base CX0 (k + 3) fM fdM ["over"] spMany) (kM : PySem.W.keepIn K (.ref fM) = true) (bM : Binds K fdM ["over"] []) (gM : mg "how_many_moments" = some (.ref fM))
    (gF : mg "FORBIDDEN" = some (.int (-6) tf)) (gX : mg "MISSING" = some (.int (-3) tm)) (ml : mg "len" = none) (me : mg "enumerate" = none) :
    FnOk P w K mg base CX0 (k + 5) f fd ["order", "moment"] (spAt C) := by
  refine F.ok scAt (fun vs H Q E h => ?_) (fun cdv A outer s H vs Q E hr h => ?_)
  · obtain ⟨o, t, x, m, rfl, _⟩ := h
    rfl
  · obtain ⟨o, t, x, m, rfl, hO, g, q⟩ := h
    have hr2 : Room (k + 2) _ := hr.mono (by omega)
    have hr3 : Room (k + 3) _ := hr.mono (by omega)
    refine ⟨_, pss_cons (ps_set (i := 2) scAt.nd rfl (.inl rfl) (pe_call GR hr2 (by rfl) gR kR bR .nil pass0 (pa_cons (pv 0) pa_nil)))
      (pss_cons (ps_set (i := 3) scAt.nd rfl (.inl rfl) (pe_call GS hr (by rfl) gS kS bS .nil pass0 (pa_cons (pv 2) pa_nil)))
      (pss_cons (ps_if (pt_cmpR op_isN (pv 3) pe_non (nomark _)) (pss_one (ps_ret (pe_lst (pa_cons (pe_glob rfl gF rel_int) pa_nil)))) pss_nil)
      (pss_cons (ps_if (PW.pt (pw_or (pt_cmpR op_lt (pv 1) pe_int (nomark _)) (pw_or1 (pt_cmpR op_gt (pv 1) (pe_call GM hr3 (by rfl) gM kM bM .nil pass0 (pa_cons (pv 2) pa_nil)) (nomark _))))) (pss_one (ps_ret (pe_lst (pa_cons (pe_glob rfl gX rel_int) pa_nil)))) pss_nil)
      (pss_cons (ps_set (i := 4) scAt.nd rfl (.inl rfl) (pe_lst pa_nil))
      (pss_cons (ps_for PassesOwn.never rfl (pi_enK (by rfl) me (pa_cons (pv 3) pa_nil) (by decide) (by decide)) (pg_tup rfl (pgs_cons (pg_name (i := 5) scAt.nd rfl (.inl rfl)) (pgs_cons (pg_name (i := 6) scAt.nd rfl (.inl rfl)) pgs_nil)))
        (pss_one (ps_if (PW.pt (pw_and (pt_cmpR op_le (pe_ix ix_tup (pv 6) pe_int (fun _ _ => rfl)) (pv 1) (nomark _)) (pw_and1 (pt_cmpR op_le (pv 1) (pe_ix ix_tup (pv 6) pe_int (fun _ _ => rfl)) (nomark _)))))
          (pss_one (ps_expr (pe_bm PySem.F.plainAttrs_list PySem.F.slot_list_append PySem.F.type_list_append mt_append (pv 4) (pa_cons (pv 5) pa_nil)))) pss_nil)))
      (pss_one (ps_ret (pe_op op_cat (pe_lst (pa_cons (pe_callB call_len_seq (by rfl) ml PySem.boot_len (pa_cons (pv 4) pa_nil)) pa_nil)) (pv 4))))))))), ?_⟩
    have e : Or03.step x (.at_ m) = (x, if Or03.stretches x = false then [-6] else if m = 0 ∨ Or03.moments x < m then [-3] else Or03.counted (Or03.at_ x m)) := rfl
    refine ⟨_, rfl, o, t, x, rfl, hO, g, fun H1 p r s1 np hM => ?_⟩
    refine ⟨_, rfl, p, x.many, rel x, r, rfl, hM, g.hi, fun yes H2 u s2 nu hU => ?_, fun no H2 s2 => ?_⟩
    · rw [tells_stretches g] at yes
      rw [if_neg (by rw [yes]; decide)] at e
      have em : Or03.moments x = (setsM x.many (rel x)).length := by
        unfold Or03.moments
        rw [setsM_befores g]
      have hM2 := hM.same s2
      have s12 := s1.trans s2
      refine ⟨_, rfl, rfl, _, rfl, ?_⟩
      rw [decide_eq_false (show ¬ V.ref u = V.non from fun z => by cases z)]
      refine iteF ⟨_, rfl, _, _, rfl, rfl, _, rfl, ?_⟩
      by_cases c0 : m = 0
      · rw [decide_eq_true (show (m : Int) < 1 by omega)]
        rw [e, if_pos (.inl c0)] at q
        exact iteT ⟨(by show 1 ≤ sizeLine; decide), fun v nv => q.stay hO s12 nv⟩
      · rw [decide_eq_false (show ¬ (m : Int) < 1 by omega)]
        refine iteF ⟨_, rfl, _, rfl, p, _, _, r, rfl, hM2, g.hi, fun H3 s3 => ⟨_, _, rfl, rfl, _, rfl, ?_⟩⟩
        have s13 := s12.trans s3
        by_cases c1 : Or03.moments x < m
        · rw [decide_eq_true (show ((setsM x.many (rel x)).length : Int) < (m : Int) by omega)]
          rw [e, if_pos (.inr c1)] at q
          exact iteT ⟨(by show 1 ≤ sizeLine; decide), fun v nv => q.stay hO s13 nv⟩
        · rw [decide_eq_false (show ¬ ((setsM x.many (rel x)).length : Int) < (m : Int) by omega)]
          rw [e, if_neg (by omega)] at q
          refine iteF ⟨Nat.zero_le _, fun v nv => ?_⟩
          have sv := same_upd (o := .lst []) nv
          obtain ⟨as, eu, hT⟩ := hU
          have s24 := s3.trans sv
          have nv2 := s3.free nv
          have el : (refs as).length = x.many := by rw [refs_len, hT.len, spansI_len]
          have hi8 := g.hi
          refine ⟨_, rfl, u, _, rfl, SqL.of (s24 _ _ eu), ?_⟩
          refine for_en1 (K := K) (a := u) (xs := refs as) (fun i σ H' => ∃ v5 v6, σ = [some (.ref o), some (.int (m : Nat)), some (.ref p), some (.ref u), some (.ref v), v5, v6] ∧ Same H2 H' ∧ H' v = some (.lst (natsV (lastI x.many (rel x) m i))))
            ⟨none, none, rfl, s24, upd_same⟩ (fun i σ H' _ ⟨_, _, _, sm, _⟩ => SqL.of (sm _ _ eu)) ?_ ?_
          · rintro i w' σ H5 T' hi ⟨v5, v6, rfl, sm, ep⟩ nT
            obtain ⟨a, pr, rfl, hp, ha⟩ := refs_pair hT hi
            have hil : i < x.many := by
              rw [← el]
              exact (List.getElem?_eq_some_iff.mp hi).1
            have epr : pr = spanM x.many (rel x) (i + 1) := Option.some.inj (hp.symm.trans (spansI_get hil))
            subst epr
            have sT := same_upd (o := .tup [.int ((i + 1 : Nat) : Int), .ref a]) nT
            have sm2 := sm.trans sT
            have ep2 := sT _ _ ep
            have es := lastI_succ x.many (rel x) m i
            refine ⟨T', _, rfl, .inl (.inl upd_same), rfl, _, _, rfl, _, _, rfl, rfl, ?_⟩
            refine ⟨_, rfl, a, _, 0, _, rfl, rfl, .inl (.inl (sm2 _ _ ha)), rfl, _, rfl, _, _, rfl, rfl, _, rfl, ?_⟩
            rw [dec_nat]
            by_cases d1 : (spanM x.many (rel x) (i + 1)).1 ≤ m
            · rw [decide_eq_true d1]
              refine iteT ⟨_, rfl, _, rfl, a, _, 1, _, rfl, rfl, .inl (.inl (sm2 _ _ ha)), rfl, _, _, rfl, rfl, _, rfl, ?_⟩
              rw [dec_nat]
              by_cases d2 : m ≤ (spanM x.many (rel x) (i + 1)).2
              · rw [decide_eq_true d2]
                rw [if_pos (show lastT x.many (rel x) m (i + 1) = true by unfold lastT; rw [decide_eq_true d1, decide_eq_true d2]; rfl)] at es
                refine iteT ⟨_, rfl, .inl ⟨rfl, _, SqL.of ep2⟩, _, rfl, v, _, _, rfl, rfl, ep2, ?_, _, _, rfl, same_put sm2 nv2, ?_⟩
                · rw [natsV_len]
                  exact small_sz (Nat.le_trans (lastI_len _ _ _ _) (by omega))
                · rw [upd_same, es, natsV_snoc]
              · rw [decide_eq_false d2]
                rw [if_neg (show ¬ lastT x.many (rel x) m (i + 1) = true by unfold lastT; rw [decide_eq_false d2, Bool.and_false]; decide), List.append_nil] at es
                refine iteF ⟨_, _, rfl, sm2, ?_⟩
                rw [es]
                exact ep2
            · rw [decide_eq_false d1]
              rw [if_neg (show ¬ lastT x.many (rel x) m (i + 1) = true by unfold lastT; rw [decide_eq_false d1, Bool.false_and]; decide), List.append_nil] at es
              refine iteF ⟨_, _, rfl, sm2, ?_⟩
              rw [es]
              exact ep2
          · rintro σ H5 ⟨v5, v6, rfl, sm, ep⟩
            rw [el, lastI_at g] at ep
            refine ⟨_, rfl, v, _, rfl, .inl (SqL.of ep), (by show 1 ≤ sizeLine; decide), fun y ny => ?_⟩
            have sy := same_upd (o := .lst [.int ((natsV (Or03.at_ x m)).length : Nat)]) ny
            refine ⟨_, rfl, y, v, _, _, rfl, rfl, upd_same, sy _ _ ep, ?_, fun z nz => ?_⟩
            · rw [natsV_len]
              have := lastI_len x.many (rel x) m x.many
              rw [lastI_at g] at this
              exact Nat.le_of_lt (small_sz (by show 1 + _ ≤ _; omega))
            · have sz := same_upd (o := .lst ([.int ((natsV (Or03.at_ x m)).length : Nat)] ++ natsV (Or03.at_ x m))) nz
              refine q.list hO (s12.trans (sm.trans (sy.trans sz))) (s12.free (sm.free (sy.free nz))) ?_
              rw [upd_same, natsV_len, natsV_intsV]
              rfl
    · rw [tells_stretches g] at no
      rw [e, if_pos no] at q
      refine ⟨_, rfl, rfl, _, rfl, iteT ⟨(by show 1 ≤ sizeLine; decide), fun v nv => ?_⟩⟩
      exact q.stay hO (s1.trans s2) nv
end
end Stt
set_option Elab.async false
set_option maxRecDepth 100000
set_option maxHeartbeats 2000000
set_option linter.all false
namespace Stt
open PySem PySem.Spec PyProof.Rows L2
open PyOr03 (shape whole bound)
/-! ### a call by its number -/
def cnt (p : Nat) : Nat := if p = 1 then 2 else if p = 0 ∨ p = 5 then 1 else 0
theorem callIn_cnt {p : Nat} {ns : List Nat} {c : Or03.Call} (h : Or03Neutral.callIn (p :: ns) = some c) : p = 3 ∨ (p ≠ 3 ∧ ns.length = cnt p) := by
  by_cases p3 : p = 3
  · exact .inl p3
  · refine .inr ⟨p3, ?_⟩
    unfold Or03Neutral.callIn at h
    split at h <;> first
      | rename_i e; cases e; rfl
      | rename_i e; cases e; exact absurd rfl p3
      | cases h
theorem DecAt.at0 {l : List Int} {i : Nat} {raw : List (List Int)} {t : List Int} {p : Nat} {ns : List Nat} {c : Or03.Call} (d : DecAt (l.drop i) raw t p ns c) : l[i]? = some (p : Int) := by
  have e : (l.drop i)[0]? = some (p : Int) := by rw [d.list]; rfl
  rw [List.getElem?_drop] at e
  exact e
theorem DecAt.at1 {l : List Int} {i : Nat} {raw : List (List Int)} {t : List Int} {p : Nat} {ns : List Nat} {c : Or03.Call} (d : DecAt (l.drop i) raw t p ns c) (h : p = 3) : l[i + 1]? = some (ns.length : Int) := by
  have e : (l.drop i)[1]? = some (ns.length : Int) := by rw [d.list, if_pos h]; rfl
  rw [List.getElem?_drop] at e
  exact e
/-- where the call's numbers begin -/
def firstOf (i p : Nat) : Nat := i + 1 + (if p = 3 then 1 else 0)
theorem DecAt.drop {l : List Int} {i : Nat} {raw : List (List Int)} {t : List Int} {p : Nat} {ns : List Nat} {c : Or03.Call} (d : DecAt (l.drop i) raw t p ns c) : l.drop (firstOf i p) = toI ns ++ t := by
  have e : (l.drop i).drop (1 + (if p = 3 then 1 else 0)) = toI ns ++ t := by
    rw [d.list]
    by_cases h : p = 3
    · rw [if_pos h, if_pos h]
      rfl
    · rw [if_neg h, if_neg h]
      rfl
  rw [List.drop_drop] at e
  unfold firstOf
  rw [Nat.add_assoc]
  exact e
theorem DecAt.rest {l : List Int} {i : Nat} {raw : List (List Int)} {t : List Int} {p : Nat} {ns : List Nat} {c : Or03.Call} (d : DecAt (l.drop i) raw t p ns c) : l.drop (firstOf i p + ns.length) = t := by
  rw [← List.drop_drop, d.drop, ← toI_len ns, List.drop_left]
theorem DecAt.cut {l : List Int} {i : Nat} {raw : List (List Int)} {t : List Int} {p : Nat} {ns : List Nat} {c : Or03.Call} (d : DecAt (l.drop i) raw t p ns c) :
    cutV (intsV l) (some (firstOf i p : Nat)) (some ((firstOf i p + ns.length : Nat) : Int)) = natsV ns := by
  have hle : firstOf i p + ns.length ≤ l.length ∨ ns.length = 0 := by
    by_cases z : ns.length = 0
    · exact .inr z
    · left
      have := congrArg List.length d.drop
      rw [List.length_drop, List.length_append, toI_len] at this
      omega
  unfold cutV
  rw [HT.sIx_nat, HT.sIx_nat, intsV_len]
  have ed : (intsV l).drop (firstOf i p) = intsV (toI ns ++ t) := by
    unfold intsV
    rw [← List.map_drop, d.drop]
  rcases hle with h | h
  · rw [Nat.min_eq_left (show firstOf i p ≤ l.length by omega), Nat.min_eq_left h, ed, show firstOf i p + ns.length - firstOf i p = ns.length by omega]
    have e2 : intsV (toI ns) = natsV ns := by
      unfold intsV toI natsV
      rw [List.map_map]
      rfl
    rw [intsV_app, e2, ← natsV_len ns, List.take_left]
  · have en : ns = [] := List.length_eq_zero_iff.mp h
    subst en
    rw [show firstOf i p + ([] : List Nat).length = firstOf i p from rfl, Nat.sub_self]
    rfl
/-! ### how_many_numbers -/
abbrev sHow : Stmt := topS 55
theorem scHow : FnScope ["calls", "place", "call"] ["calls", "place"] (defScope sHow) := ⟨rfl, rfl, rfl, by decide +kernel, rfl, by decide +kernel, by decide +kernel⟩
def spHow (K : PySem.W.Frag) : Sp := fun vs H Q _ => ∃ (a : Addr) (l : List Int) (i : Nat) (raw : List (List Int)) (t : List Int) (p : Nat) (ns : List Nat) (c : Or03.Call), vs = [.ref a, .int (i : Nat)] ∧ SqL K H a (intsV l) ∧ DecAt (l.drop i) raw t p ns c ∧ Q (.int (ns.length : Nat)) H
theorem intsV_get {l : List Int} {i : Nat} {z : Int} (h : l[i]? = some z) : (intsV l)[i]? = some (.int z) := by
  unfold intsV
  rw [List.getElem?_map, h]
  rfl
theorem eq_nat {a b : Nat} : decide (V.int (a : Int) = V.int (b : Int)) = decide (a = b) := by
  rw [decide_eq_decide]
  exact ⟨fun h => by have := V.int.inj h; omega, fun h => by rw [h]⟩
section
variable {P : Program} {w : World} {K : PySem.W.Frag} {mg : Str → Option Value} {base : Heap} {C : Addr} {tT tO tH tA : Tok}
theorem ok_how {f : Addr} {fd : FuncData} {k : Nat} (F : Fun K "how_many_numbers" "how_many_numbers" sHow f fd) (gT : mg "TOLD" = some (.int 3 tT)) (gO : mg "OVER" = some (.int 1 tO)) (gH : mg "THINGS" = some (.int 0 tH)) (gA : mg "AT" = some (.int 5 tA)) :
    FnOk P w K mg base CX0 (k + 1) f fd ["calls", "place"] (spHow K) := by
  refine F.ok scHow (fun vs H Q E h => ?_) (fun cdv A outer s H vs Q E hr h => ?_)
  · obtain ⟨a, l, i, raw, t, p, ns, c, rfl, _⟩ := h
    rfl
  · obtain ⟨a, l, i, raw, t, p, ns, c, rfl, ha, d, q⟩ := h
    refine ⟨_, pss_cons (ps_set (i := 2) scHow.nd rfl (.inl rfl) (pe_ix ix_list (pv 0) (pv 1) (fun _ _ => rfl)))
      (pss_cons (ps_if (pt_cmpR op_eq (pv 2) (pe_glob rfl gT rel_int) (nomark _)) (pss_one (ps_ret (pe_ix ix_list (pv 0) (pe_op op_add (pv 1) pe_int) (fun _ _ => rfl)))) pss_nil)
      (pss_cons (ps_if (pt_cmpR op_eq (pv 2) (pe_glob rfl gO rel_int) (nomark _)) (pss_one (ps_ret pe_int)) pss_nil)
      (pss_cons (ps_if (PW.pt (pw_or (pt_cmpR op_eq (pv 2) (pe_glob rfl gH rel_int) (nomark _)) (pw_or1 (pt_cmpR op_eq (pv 2) (pe_glob rfl gA rel_int) (nomark _))))) (pss_one (ps_ret pe_int)) pss_nil)
      (pss_one (ps_ret pe_int))))), ?_⟩
    refine ⟨_, rfl, _, rfl, a, _, _, _, rfl, rfl, ha, atI_nat (intsV_get d.at0), ?_⟩
    have e3 : decide (V.int (p : Int) = V.int 3) = decide (p = 3) := eq_nat (b := 3)
    have e1 : decide (V.int (p : Int) = V.int 1) = decide (p = 1) := eq_nat (b := 1)
    have e0 : decide (V.int (p : Int) = V.int 0) = decide (p = 0) := eq_nat (b := 0)
    have e5 : decide (V.int (p : Int) = V.int 5) = decide (p = 5) := eq_nat (b := 5)
    refine ⟨_, rfl, rfl, _, rfl, ?_⟩
    rw [e3]
    rcases callIn_cnt d.call with p3 | ⟨p3, hc⟩
    · rw [decide_eq_true p3]
      refine iteT ⟨_, rfl, _, rfl, _, _, rfl, rfl, a, _, _, _, rfl, rfl, ha, ?_, q⟩
      exact at_of (j := i + 1) (by omega) (intsV_get (d.at1 p3))
    · rw [hc] at q
      rw [decide_eq_false p3]
      refine iteF ⟨_, rfl, rfl, _, rfl, ?_⟩
      rw [e1]
      by_cases p1 : p = 1
      · rw [decide_eq_true p1]
        unfold cnt at q
        rw [if_pos p1] at q
        exact iteT q
      · rw [decide_eq_false p1]
        unfold cnt at q
        rw [if_neg p1] at q
        refine iteF ⟨_, rfl, rfl, _, rfl, ?_⟩
        rw [e0]
        by_cases p0 : p = 0
        · rw [decide_eq_true p0]
          rw [if_pos (.inl p0)] at q
          exact iteT (iteT q)
        · rw [decide_eq_false p0]
          refine iteF ⟨_, rfl, rfl, _, rfl, ?_⟩
          rw [e5]
          by_cases p5 : p = 5
          · rw [decide_eq_true p5]
            rw [if_pos (.inr p5)] at q
            exact iteT q
          · rw [decide_eq_false p5]
            rw [if_neg (by omega)] at q
            exact iteF q
/-! ### Order() -/
abbrev sInit : Stmt := inClass (topS 38) 0
theorem scInit : FnScope ["self"] ["self"] (defScope sInit) := ⟨rfl, rfl, rfl, by decide +kernel, rfl, by decide +kernel, by decide +kernel⟩
def spInit (C : Addr) : Sp := fun vs H Q _ => ∃ (o dx : Addr), vs = [.ref o] ∧ H o = some (.ins C dx []) ∧
  ∀ (H' : Hp) (t : Addr), OrdAt C H' o t Or03.init → H t = none → (∀ b y, H b = some y → b ≠ o → H' b = some y) → Q .non H'
theorem ok_init {f : Addr} {fd : FuncData} {k : Nat} (F : Fun K "__init__" "Order.__init__" sInit f fd) (T : Txt K C) : FnOk P w K mg base CX0 (k + 1) f fd ["self"] (spInit C) := by
  refine F.ok scInit (fun vs H Q E h => ?_) (fun cdv A outer s H vs Q E hr h => ?_)
  · obtain ⟨o, dx, rfl, _⟩ := h
    rfl
  · obtain ⟨o, dx, rfl, ho, q⟩ := h
    refine ⟨_, pss_cons (ps_fld (pv 0) pe_int rfl) (pss_one (ps_fld (pv 0) (pe_lst pa_nil) rfl)), ?_⟩
    refine ⟨_, rfl, o, C, dx, [], rfl, ho, T.cl, T.nS, (by show 0 < 1000; decide), ?_⟩
    refine ⟨Nat.zero_le _, fun t nt => ?_⟩
    have nto : t ≠ o := fun z => by
      rw [z, upd_same] at nt
      cases nt
    have nt0 : H t = none := by
      rw [upd_ne nto] at nt
      exact nt
    refine ⟨_, rfl, o, C, dx, _, rfl, same_upd nt _ _ upd_same, T.cl, T.nT, (by show 1 < 1000; decide), ?_⟩
    refine q _ t ⟨⟨dx, ?_⟩, [], ?_, trivial⟩ nt0 fun b y eb nb => ?_
    · rw [upd_same]
      exact congrArg (fun z => some (HO.ins C dx z)) (oF_new 1 t)
    · rw [upd_ne nto, upd_same]
      rfl
    · rw [upd_ne nb, upd_ne (ne_of_none eb nt0), upd_ne nb]
      exact eb
/-! ### answers -/
def spCall (C : Addr) : Sp := fun vs H Q _ => ∃ (o t b : Addr) (x : Or03.Order) (p : Nat) (ns : List Nat) (c : Or03.Call), vs = [.ref o, .int (p : Nat), .ref b] ∧ OrdAt C H o t x ∧ Good x ∧ x.told.length ≤ 2000 ∧
  H b = some (.lst (natsV ns)) ∧ ns.length ≤ 100 ∧ Or03Neutral.callIn (p :: ns) = some c ∧ Back C H o t (Or03.step x c) Q
abbrev sMain : Stmt := topS 57
theorem scMain : FnScope ["calls", "order", "given", "place", "first", "behind", "answer"] ["calls"] (defScope sMain) := ⟨rfl, rfl, rfl, by decide +kernel, rfl, by decide +kernel, by decide +kernel⟩
def spMain (K : PySem.W.Frag) : Sp := fun vs H Q _ => ∃ (a : Addr) (l : List Int), vs = [.ref a] ∧ SqL K H a (intsV l) ∧ l.length ≤ 1260 ∧ Nats l ∧ PyOr03.answers_asked l = true ∧
  ∀ (H' : Hp) (p : Addr), H' p = some (.lst (intsV (PyOr03.answers l))) → Q (.ref p) H'
def mu (n : Nat) (σ : L2.St) : Nat := match σ[3]? with
  | some (some (V.int z)) => n - z.toNat
  | _ => 0
theorem if_first {σ : L2.St} {H : Hp} {Q : V → Hp → Prop} {i p : Nat} (h3 : σ[3]? = some (some (.int (i : Nat)))) (h : Q (.int (firstOf i p : Nat)) H) :
    if decide (p = 3) = true then tOp (rI0 fun i j => .int (i + j)) (tVar 3) (tC (.int 2)) σ H Q else tOp (rI0 fun i j => .int (i + j)) (tVar 3) (tC (.int 1)) σ H Q := by
  unfold firstOf at h
  by_cases c : p = 3
  · rw [if_pos c] at h
    rw [decide_eq_true c]
    exact iteT ⟨_, h3, _, _, rfl, rfl, h⟩
  · rw [if_neg c] at h
    rw [decide_eq_false c]
    exact iteF ⟨_, h3, _, _, rfl, rfl, h⟩
structure Mid (C : Addr) (l : List Int) (H0 H : Hp) (o g : Addr) (i : Nat) : Prop where
  ex : ∃ (x : Or03.Order) (t : Addr) (out : List Int) (f : Nat) (cs : List (List (List Int))), Same H0 H ∧ OrdAt C H o t x ∧ Good x ∧ H g = some (.lst (intsV out)) ∧ H0 t = none ∧ g ≠ t ∧
    PyFlat.calls shape f (l.drop i) = some cs ∧ out ++ rest x cs = PyOr03.answers l ∧ x.told.length + cs.length ≤ 94 ∧ cs.length ≤ 30 ∧ PyInside.calls bound cs = true
theorem ok_main {f fI fH fC : Addr} {fd fdI fdH fdC : FuncData} {k : Nat} (F : Fun K "answers" "answers" sMain f fd) (T : Txt K C)
    (M : Mk K C fI) (GI : FnOk P w K mg base CX0 1 fI fdI ["self"] (spInit C)) (bI : Binds K fdI ["self"] []) (gI : mg "Order" = some (.ref C))
    (GH : FnOk P w K mg base CX0 1 fH fdH ["calls", "place"] (spHow K)) (kH : PySem.W.keepIn K (.ref fH) = true) (bH : Binds K fdH ["calls", "place"] []) (gH : mg "how_many_numbers" = some (.ref fH))
    (GC : FnOk P w K mg base CX0 (k + 2) fC fdC ["order", "call", "numbers"] (spCall C)) (kC : PySem.W.keepIn K (.ref fC) = true) (bC : Binds K fdC ["order", "call", "numbers"] []) (gC : mg "answer_call" = some (.ref fC))
    (ml : mg "len" = none) (gT : mg "TOLD" = some (.int 3 tT)) :
    FnOk P w K mg base CX0 (k + 3) f fd ["calls"] (spMain K) := by
  refine F.ok scMain (fun vs H Q E h => ?_) (fun cdv A outer s H vs Q E hr h => ?_)
  · obtain ⟨a, l, rfl, _⟩ := h
    rfl
  · obtain ⟨a, l, rfl, ha, hlen, hN, hask, q⟩ := h
    have hr1 : Room 1 _ := hr.mono (by omega)
    have hr2 : Room 2 _ := hr.mono (by omega)
    refine ⟨_, pss_cons (ps_set (i := 1) scMain.nd rfl (.inl rfl) (pe_make0 M GI hr2 rfl gI bI .nil pass0))
      (pss_cons (ps_set (i := 2) scMain.nd rfl (.inl rfl) (pe_lst pa_nil))
      (pss_cons (ps_set (i := 3) scMain.nd rfl (.inl rfl) pe_int)
      (pss_cons (ps_while PassesOwn.never (pt_cmpR op_lt (pv 3) (pe_callB call_len_seq (by rfl) ml PySem.boot_len (pa_cons (pv 0) pa_nil)) (nomark _))
        (pss_cons (ps_set (i := 4) scMain.nd rfl (.inl rfl) (pe_ifExp (pt_cmpR op_eq (pe_ix ix_list (pv 0) (pv 3) (fun _ _ => rfl)) (pe_glob rfl gT rel_int) (nomark _)) (pe_op op_add (pv 3) pe_int) (pe_op op_add (pv 3) pe_int)))
        (pss_cons (ps_set (i := 5) scMain.nd rfl (.inl rfl) (pe_op op_add (pv 4) (pe_call GH hr1 (by rfl) gH kH bH .nil pass0 (pa_cons (pv 0) (pa_cons (pv 3) pa_nil)))))
        (pss_cons (ps_set (i := 6) scMain.nd rfl (.inl rfl) (pe_call GC hr (by rfl) gC kC bC .nil pass0 (pa_cons (pv 1) (pa_cons (pe_ix ix_list (pv 0) (pv 3) (fun _ _ => rfl)) (pa_cons (pe_slice sl_list (pv 0) (po_some (pv 4)) (po_some (pv 5))) pa_nil)))))
        (pss_cons (ps_expr (pe_bm PySem.F.plainAttrs_list PySem.F.slot_list_append PySem.F.type_list_append mt_append (pv 2) (pa_cons (pe_callB call_len_seq (by rfl) ml PySem.boot_len (pa_cons (pv 6) pa_nil)) pa_nil)))
        (pss_cons (ps_expr (pe_bm PySem.F.plainAttrs_list PySem.F.slot_list_extend PySem.F.type_list_extend mt_extend (pv 2) (pa_cons (pv 6) pa_nil)))
        (pss_one (ps_set (i := 3) scMain.nd rfl (.inl rfl) (pv 5)))))))))
      (pss_one (ps_ret (pv 2)))))), ?_⟩
    obtain ⟨cs0, hc0, hc30, hin0, hsz⟩ := asked_of hask
    -- order = Order()
    intro o dx no nd ne
    refine ⟨o, dx, rfl, upd_same, fun H1 t0 hO nt kp => ⟨rfl, ?_⟩⟩
    have s1 : Same H H1 := Same.made no nd kp
    have nt0 : H t0 = none := by
      have z1 : t0 ≠ o := fun z => by
        rw [z, upd_same] at nt
        cases nt
      have z2 : t0 ≠ dx := fun z => by
        rw [upd_ne z1, z, upd_same] at nt
        cases nt
      rw [upd_ne z1, upd_ne z2] at nt
      exact nt
    -- given = []; place = 0
    refine ⟨Nat.zero_le _, fun g ng => ?_⟩
    have sg := same_upd (o := .lst []) ng
    have ng0 : H g = none := s1.free ng
    have ngt : g ≠ t0 := fun z => by
      obtain ⟨_, as, et, _⟩ := hO
      rw [z, et] at ng
      cases ng
    refine while_by (fun σ H' => ∃ (i : Nat) (v4 v5 v6 : Option V), σ = [some (.ref a), some (.ref o), some (.ref g), some (.int (i : Nat)), v4, v5, v6] ∧ Mid C l H H' o g i) (fun σ _ => mu l.length σ)
      ⟨0, none, none, none, rfl, ⟨Or03.init, t0, [], l.length, cs0, s1.trans sg, hO.same sg, good_init, upd_same, nt0, ngt, hc0, ?_, ?_, hc30, hin0⟩⟩ ?_ ?_
    · exact (answers_rest hc0).symm
    · show 0 + cs0.length ≤ 94
      omega
    · rintro σ H2 ⟨i, v4, v5, v6, rfl, x, t, out, fu, cs, s2, hO2, gx, eg, nt2, gt2, hcs, hrest, hb1, hb2, hin⟩
      have ha2 := s2.seq ha
      refine ⟨_, rfl, _, rfl, a, _, rfl, .inl ha2, _, _, rfl, rfl, _, rfl, ?_⟩
      rw [intsV_len]
      by_cases hi : i < l.length
      · rw [decide_eq_true (show (i : Int) < (l.length : Int) by omega)]
        refine iteT ?_
        have hd : l.drop i = l[i] :: l.drop (i + 1) := List.drop_eq_getElem_cons hi
        rw [hd] at hcs
        obtain ⟨f', raw, tl, cs', hcall, hcs', rfl⟩ := calls_cons hcs
        obtain ⟨p, ns, c, d⟩ := dec_all (fun z hz => hN z (List.mem_of_mem_drop hz)) hcall
        rw [← hd] at d
        have hin1 : PyInside.call bound raw = true ∧ PyInside.calls bound cs' = true := by
          unfold PyInside.calls at hin
          rw [List.all_cons, Bool.and_eq_true] at hin
          exact hin
        have hns : ns.length ≤ 100 := by
          rcases callIn_cnt d.call with p3 | ⟨p3, hc⟩
          · have := inside_row (d.rows p3) hin1.1
            omega
          · rw [hc]
            unfold cnt
            split
            · decide
            · split <;> decide
        have hbeh : firstOf i p + ns.length ≤ l.length := by
          have h1 : (l.drop i).length = l.length - i := List.length_drop
          rw [d.list, List.length_append, List.length_cons, List.length_append, toI_len] at h1
          unfold firstOf
          by_cases p3 : p = 3
          · rw [if_pos p3] at h1 ⊢
            simp only [List.length_singleton] at h1
            omega
          · rw [if_neg p3] at h1 ⊢
            simp only [List.length_nil] at h1
            omega
        -- first
        refine ⟨_, rfl, _, rfl, a, _, _, _, rfl, rfl, ha2, atI_nat (intsV_get d.at0), rfl, _, rfl, ?_⟩
        have e3 : decide (V.int (p : Int) = V.int 3) = decide (p = 3) := eq_nat (b := 3)
        rw [e3]
        refine if_first rfl ?_
        -- behind
        refine ⟨_, rfl, _, rfl, _, rfl, a, l, i, raw, tl, p, ns, c, rfl, ha2, d, _, _, rfl, rfl, ?_⟩
        -- answer
        refine ⟨_, rfl, _, rfl, _, rfl, a, _, _, _, rfl, rfl, ha2, atI_nat (intsV_get d.at0), _, rfl, _, rfl, _, rfl, _, rfl, _, rfl, a, _, rfl, ha2, fun b nb => ?_⟩
        have sb := same_upd (o := .lst (cutV (intsV l) (some (firstOf i p : Nat)) (some ((firstOf i p : Nat) + (ns.length : Nat) : Int)))) nb
        have hrc := rest_cons (s := x) (cs := cs') d
        refine ⟨o, t, b, x, p, ns, c, rfl, hO2.same sb, gx, by omega, upd_same.trans (congrArg (fun z => some (HO.lst z)) d.cut), hns, d.call, fun H4 pa u hO4 hu npa epa kp4 => ?_⟩
        rw [hrc] at hrest
        have hlen2 : out.length + 1 + (Or03.step x c).2.length ≤ 10000000 := by
          have h1 := congrArg List.length hrest
          rw [List.length_append, List.length_append, List.length_cons] at h1
          omega
        obtain ⟨⟨dx2, ho2⟩, as2, et2, hT2⟩ := id hO2
        have go : g ≠ o := ne_kind eg ho2 (by intro z; cases z)
        have egb := sb _ _ eg
        have eg4 := kp4 _ _ egb go gt2
        have npa2 : H2 pa = none := sb.free npa
        have pag : pa ≠ g := fun z => by
          rw [z, eg] at npa2
          cases npa2
        have s4 : Same H H4 := fun b' y e => kp4 _ _ (sb _ _ (s2 _ _ e)) (ne_of_none e no) (ne_of_none e nt2)
        -- given.append(len(answer)); given.extend(answer); place = behind
        refine ⟨_, rfl, .inl ⟨rfl, _, SqL.of eg4⟩, _, rfl, pa, _, rfl, .inl (SqL.of epa), g, _, _, rfl, rfl, eg4, ?_, ?_⟩
        · rw [intsV_len]
          exact Nat.lt_of_lt_of_le (show out.length < 10000000 by omega) (by decide)
        · refine ⟨_, rfl, .inl ⟨rfl, _, SqL.of upd_same⟩, _, rfl, g, pa, _, _, rfl, rfl, upd_same, keep_ne epa pag, ?_, _, rfl, ?_⟩
          · rw [List.length_append, List.length_singleton, intsV_len, intsV_len]
            exact Nat.le_trans hlen2 (by decide)
          · have gu : g ≠ u := by
              rcases hu with z | z
              · rw [z]
                exact gt2
              · exact fun e => by
                  rw [← e, egb] at z
                  cases z
            have hu0 : H u = none := by
              rcases hu with z | z
              · rw [z]
                exact nt2
              · exact s2.free (sb.free z)
            refine ⟨⟨firstOf i p + ns.length, _, _, _, rfl, ⟨(Or03.step x c).1, u, out ++ (((Or03.step x c).2.length : Int) :: (Or03.step x c).2), f', cs', same_put (same_put s4 ng0) ng0, ?_, good_step gx c, ?_, hu0, gu, ?_, ?_, ?_, ?_, hin1.2⟩⟩, ?_⟩
            · obtain ⟨⟨dx4, ho4⟩, as4, et4, hT4⟩ := hO4
              refine ⟨⟨dx4, ?_⟩, as4, ?_, ?_⟩
              · rw [upd_ne (Ne.symm go), upd_ne (Ne.symm go)]
                exact ho4
              · rw [upd_ne (Ne.symm gu), upd_ne (Ne.symm gu)]
                exact et4
              · exact (hT4.put eg4).put upd_same
            · rw [upd_same, intsV_len, List.append_assoc]
              show some (HO.lst (intsV out ++ ([V.int _] ++ intsV _))) = some (HO.lst (intsV (out ++ _)))
              rw [intsV_app]
              rfl
            · rw [d.rest]
              exact hcs'
            · rw [List.append_assoc]
              exact hrest
            · have := step_told_len x c
              rw [List.length_cons] at hb1 hb2
              omega
            · rw [List.length_cons] at hb2
              omega
            · show l.length - ((firstOf i p : Int) + (ns.length : Int)).toNat < l.length - ((i : Nat) : Int).toNat
              unfold firstOf
              unfold firstOf at hbeh
              omega
      · rw [decide_eq_false (show ¬ (i : Int) < (l.length : Int) by omega)]
        refine iteF ?_
        rw [List.drop_of_length_le (by omega)] at hcs
        have := calls_nil hcs
        subst this
        rw [rest_nil, List.append_nil] at hrest
        rw [hrest] at eg
        exact ⟨_, rfl, q _ _ eg⟩
    · rintro σ H2 Q1 Q2 hq ⟨v, e1, v', e2, a', ys, e3, h3, z1, z2, e4, e5, k', e6, h6⟩
      exact ⟨v, e1, v', e2, a', ys, e3, h3, z1, z2, e4, e5, k', e6, hq _ _ h6⟩
end
end Stt
set_option Elab.async false
set_option maxRecDepth 100000
set_option maxHeartbeats 2000000
set_option linter.all false
namespace Stt
open PySem PySem.Spec PyProof.Rows L2
/-! ### earliest_begin -/
abbrev sEar : Stmt := topS 10
theorem scEar : FnScope ["over", "begins", "thing", "length", "earliest", "other"] ["over", "begins", "thing"] (defScope sEar) := ⟨rfl, rfl, rfl, by decide +kernel, rfl, by decide +kernel, by decide +kernel⟩
theorem nats0_get {pl : List Nat} {i : Nat} (h : i < pl.length) : (natsV (0 :: pl))[i + 1]? = some (.int ((val pl (i + 1) : Nat) : Int)) := by
  unfold natsV val
  rw [List.getElem?_map, List.getElem?_cons_succ, Nat.add_sub_cancel, List.getD_eq_getElem?_getD, List.getElem?_eq_getElem h]
  rfl
theorem max_nat {e c : Nat} {j : Int} (h : j.toNat = c) : (if j > (e : Int) then j else (e : Int)) = ((max e c : Nat) : Int) := by
  split <;> omega
def spEar (K : PySem.W.Frag) : Sp := fun vs H Q _ => ∃ (p b : Addr) (n : Nat) (M : Mat) (r : Nat → Addr) (pl : List Nat) (t : Nat), vs = [.ref p, .ref b, .int (t : Nat)] ∧ MatAt H p n M r ∧ n ≤ 8 ∧ H b = some (.lst (natsV (0 :: pl))) ∧ pl.length = n ∧ t ≤ n ∧
  Q (.int (earI n M (val pl) t n : Nat)) H
section
variable {P : Program} {w : World} {K : PySem.W.Frag} {mg : Str → Option Value} {base : Heap}
theorem ok_ear {f : Addr} {fd : FuncData} {k : Nat} (F : Fun K "earliest_begin" "earliest_begin" sEar f fd) (ml : mg "len" = none) (mr : mg "range" = none) (mm : mg "max" = none) : FnOk P w K mg base CX0 (k + 1) f fd ["over", "begins", "thing"] (spEar K) := by
  refine F.ok scEar (fun vs H Q E h => ?_) (fun cdv A outer s H vs Q E hr h => ?_)
  · obtain ⟨p, b, n, M, r, pl, t, rfl, _⟩ := h
    rfl
  · obtain ⟨p, b, n, M, r, pl, t, rfl, hM, hn, hb, hl, ht, q⟩ := h
    refine ⟨_, pss_cons (ps_set (i := 3) scEar.nd rfl (.inl rfl) (pe_op op_sub (pe_callB call_len_seq (by rfl) ml PySem.boot_len (pa_cons (pv 0) pa_nil)) pe_int))
      (pss_cons (ps_set (i := 4) scEar.nd rfl (.inl rfl) pe_int)
      (pss_cons (ps_for PassesOwn.never rfl (pi_range2 (by rfl) mr (pa_cons pe_int (pa_cons (pe_callB call_len_seq (by rfl) ml PySem.boot_len (pa_cons (pv 0) pa_nil)) pa_nil)))
          (pg_name (i := 5) scEar.nd rfl (.inl rfl))
        (pss_one (ps_if (pt_val (pe_ix ix_list (pe_ix ix_list (pv 0) (pv 5) (fun _ _ => rfl)) (pv 2) (fun _ _ => rfl)))
          (pss_one (ps_set (i := 4) scEar.nd rfl (.inl rfl) (pe_callB (call_max2 rfl) (by rfl) mm (by decide +kernel) (pa_cons (pv 4) (pa_cons (pe_op op_add (pe_op op_add (pe_ix ix_list (pv 1) (pv 5) (fun _ _ => rfl)) (pv 3)) pe_int) pa_nil)))))
          (pss_one (ps_if (pt_not (pt_val (pe_ix ix_list (pe_ix ix_list (pv 0) (pv 2) (fun _ _ => rfl)) (pv 5) (fun _ _ => rfl))))
            (pss_one (ps_set (i := 4) scEar.nd rfl (.inl rfl) (pe_callB (call_max2 rfl) (by rfl) mm (by decide +kernel) (pa_cons (pv 4) (pa_cons (pe_op op_sub (pe_ix ix_list (pv 1) (pv 5) (fun _ _ => rfl)) (pv 3)) pa_nil)))))
            pss_nil)))))
      (pss_one (ps_ret (pv 4))))), ?_⟩
    have eL : ((refsV n r).length : Int) - 1 = (n : Int) := by
      rw [refsV_len]
      omega
    refine ⟨.ref p, rfl, p, _, rfl, .inl (SqL.of hM.here), _, _, rfl, rfl, ?_⟩
    refine ⟨.ref p, rfl, p, _, rfl, .inl (SqL.of hM.here), 1, _, rfl, rb1 (refsV_leni n r) (by omega), ?_⟩
    refine for_r1 (refsV_leni n r) (fun i σ H' => ∃ v5, σ = [some (.ref p), some (.ref b), some (.int (t : Nat)), some (.int (n : Nat)), some (.int (earI n M (val pl) t i : Nat)), v5] ∧ H' = H) ⟨none, ?_, rfl⟩ ?_ ?_
    · show [_, _, _, some (V.int (((refsV n r).length : Int) - 1)), _, _] = _
      rw [eL]
      rfl
    · rintro i σ H1 hi ⟨v5, rfl, rfl⟩
      refine hM.cell (x := i + 1) (y := t) (fun Q h => ⟨_, rfl, h⟩) (fun Q h => ⟨_, rfl, h⟩) (fun Q h => ⟨_, rfl, h⟩) (by omega) (by omega) ⟨_, rfl, ?_⟩
      have eg := nats0_get (pl := pl) (i := i) (by omega)
      have ec : con n M (val pl) t (i + 1) = if M (i + 1) t = true then val pl (i + 1) + n + 1 else if M t (i + 1) = true then 0 else val pl (i + 1) - n := rfl
      have es : earI n M (val pl) t (i + 1) = max (earI n M (val pl) t i) (con n M (val pl) t (i + 1)) := rfl
      refine ite2 (fun c => ?_) (fun c => ?_)
      · rw [if_pos c] at ec
        refine ⟨_, rfl, _, rfl, _, rfl, b, _, _, _, rfl, rfl, SqL.of hb, atI_nat eg, _, rfl, _, _, rfl, rfl, _, _, rfl, rfl, _, _, rfl, some (.int ((i + 1 : Nat) : Int)), ?_, rfl⟩
        refine congrArg (fun z => [some (V.ref p), some (V.ref b), some (V.int (t : Nat)), some (V.int (n : Nat)), some (V.int z), some (V.int ((i + 1 : Nat) : Int))]) ?_
        rw [es]
        exact max_nat (by rw [ec]; show ((val pl (i + 1) : Int) + (n : Int) + 1).toNat = _; omega)
      · rw [if_neg c] at ec
        refine hM.cell (x := t) (y := i + 1) (fun Q h => ⟨_, rfl, h⟩) (fun Q h => ⟨_, rfl, h⟩) (fun Q h => ⟨_, rfl, h⟩) (by omega) (by omega) ⟨_, rfl, ?_⟩
        by_cases d : M t (i + 1) = true
        · rw [if_pos d] at ec
          rw [d]
          refine iteF ⟨some (.int ((i + 1 : Nat) : Int)), ?_, rfl⟩
          rw [es, ec, Nat.max_eq_left (Nat.zero_le _)]
          rfl
        · rw [if_neg d] at ec
          rw [Bool.eq_false_iff.mpr d]
          refine iteT ⟨_, rfl, _, rfl, _, rfl, b, _, _, _, rfl, rfl, SqL.of hb, atI_nat eg, _, rfl, _, _, rfl, rfl, _, _, rfl, some (.int ((i + 1 : Nat) : Int)), ?_, rfl⟩
          refine congrArg (fun z => [some (V.ref p), some (V.ref b), some (V.int (t : Nat)), some (V.int (n : Nat)), some (V.int z), some (V.int ((i + 1 : Nat) : Int))]) ?_
          rw [es]
          exact max_nat (by rw [ec]; show ((val pl (i + 1) : Int) - (n : Int)).toNat = _; omega)
    · rintro σ H1 ⟨v5, rfl, rfl⟩
      exact ⟨_, rfl, q⟩
/-! ### begins_all_as_long -/
abbrev sBL : Stmt := topS 11
theorem scBL : FnScope ["over", "begins", "rounds", "later", "thing"] ["over"] (defScope sBL) := ⟨rfl, rfl, rfl, by decide +kernel, rfl, by decide +kernel, by decide +kernel⟩
theorem units64 {k : Nat} {A : Around} (hr : Room k A) : A.units + 64 < cLine := by
  have := hr.un
  omega
theorem cut1 (a : V) (l : List V) : cutV (a :: l) (some 1) none = l := by
  unfold cutV
  have e : HT.sIx (a :: l).length 0 (some (1 : Int)) = 1 := by
    have h : HT.sIx (a :: l).length 0 (some (1 : Int)) = min 1 (a :: l).length := HT.sIx_nat _ 0 1
    rw [h, List.length_cons]
    omega
  rw [e]
  show (List.drop 1 (a :: l)).take ((a :: l).length - 1) = l
  rw [List.length_cons, Nat.add_sub_cancel]
  exact List.take_length
theorem zeros (n : Nat) : (List.replicate (n + 1) [V.int 0]).flatten = natsV (0 :: List.replicate n 0) := by
  show V.int 0 :: (List.replicate n [V.int 0]).flatten = V.int 0 :: natsV (List.replicate n 0)
  congr 1
  induction n with
  | zero => rfl
  | succ n ih =>
    show V.int 0 :: (List.replicate n [V.int 0]).flatten = V.int 0 :: natsV (List.replicate n 0)
    rw [ih]
def spBL : Sp := fun vs H Q _ => ∃ (p : Addr) (x : Or03.Order) (r : Nat → Addr), vs = [.ref p] ∧ MatAt H p x.many (rel x) r ∧ Good x ∧
  (Or03.asLong x = true → ∀ H' q, Same H H' → H q = none → H' q = some (.lst (natsV (Or03.places x))) → Q (.ref q) H') ∧ (Or03.asLong x = false → ∀ H', Same H H' → Q .non H')
theorem ok_bl {f fE : Addr} {fd fdE : FuncData} {k : Nat} (F : Fun K "begins_all_as_long" "begins_all_as_long" sBL f fd)
    (GE : FnOk P w K mg base CX0 (k + 1) fE fdE ["over", "begins", "thing"] (spEar K)) (kE : PySem.W.keepIn K (.ref fE) = true) (bE : Binds K fdE ["over", "begins", "thing"] []) (gE : mg "earliest_begin" = some (.ref fE))
    (ml : mg "len" = none) (mr : mg "range" = none) : FnOk P w K mg base CX0 (k + 2) f fd ["over"] spBL := by
  refine F.ok scBL (fun vs H Q E h => ?_) (fun cdv A outer s H vs Q E hr h => ?_)
  · obtain ⟨p, x, r, rfl, _⟩ := h
    rfl
  · obtain ⟨p, x, r, rfl, hM, g, q1, q2⟩ := h
    refine ⟨_, pss_cons (ps_set (i := 1) scBL.nd rfl (.inr rfl) (pe_op op_rep (pe_lst (pa_cons pe_int pa_nil)) (pe_callB call_len_seq (by rfl) ml PySem.boot_len (pa_cons (pv 0) pa_nil))))
      (pss_cons (ps_for PassesOwn.never rfl (pi_range2 (by rfl) mr (pa_cons pe_int (pa_cons (pe_callB call_len_seq (by rfl) ml PySem.boot_len (pa_cons (pv 0) pa_nil)) pa_nil)))
          (pg_name (i := 2) scBL.nd rfl (.inl rfl))
        (pss_cons (ps_set (i := 3) scBL.nd rfl (.inl rfl) (pe_op op_cat (pe_lst (pa_cons pe_int pa_nil))
            (pe_lc (own := [("thing", 4)]) (g := gName 4) (tt := tYes) (te := tCall (spEar K) [] E0 (tCons (tVar 0) (tCons (tVar 1) (tCons (tVar 4) tNil)))) rfl scBL.nd (pi_range2 (by rfl) mr (pa_cons pe_int (pa_cons (pe_callB call_len_seq (by rfl) ml PySem.boot_len (pa_cons (pv 0) pa_nil)) pa_nil)))
              (blkOk_by (N := ["over", "begins", "rounds", "later", "thing"]) (sc := defScope sBL) (by decide +kernel))
              (fun _ _ _ _ _ => pg_name (i := 4) scBL.nd rfl (Or.inl rfl))
              (fun _ _ _ _ _ => pts_nil)
              (fun _ _ _ _ _ => pe_call GE hr (by rfl) gE kE bE .nil pass0 (pa_cons (pv 0) (pa_cons (pv 1) (pa_cons (pv 4) pa_nil)))))))
        (pss_cons (ps_if (pt_cmpR (op_eqD (units64 hr)) (pv 3) (pv 1) (nomark _)) (pss_one (ps_ret (pe_slice sl_list (pv 1) (po_some pe_int) po_none))) pss_nil)
        (pss_one (ps_set (i := 1) scBL.nd rfl (.inr rfl) (pv 3))))))
      (pss_one (ps_ret pe_non))), ?_⟩
    have hi8 := g.hi
    -- begins = [0] * len(over)
    refine ⟨(by show 1 ≤ sizeLine; decide), fun z nz => ?_⟩
    have sz := same_upd (o := .lst [.int 0]) nz
    refine ⟨.ref p, rfl, p, _, rfl, .inl (SqL.of (sz _ _ hM.here)), z, _, _, rfl, rfl, upd_same, ?_, ?_, ?_, fun b nb => ?_⟩
    · omega
    · rw [refsV_len]
      omega
    · rw [refsV_len, List.length_singleton]
      have : ((x.many + 1 : Nat) : Int).toNat = x.many + 1 := by omega
      rw [this]
      exact Nat.le_of_lt (small_sz (by omega))
    have eb0 : (List.replicate ((refsV x.many r).length : Int).toNat [V.int 0]).flatten = natsV (0 :: Pk x 0) := by
      have : ((refsV x.many r).length : Int).toNat = x.many + 1 := by
        rw [refsV_len]
        omega
      rw [this]
      exact zeros _
    rw [eb0]
    have s1 := sz.trans (same_upd (o := .lst (natsV (0 :: Pk x 0))) nb)
    refine ⟨.ref p, rfl, p, _, rfl, .inl (SqL.of (s1 _ _ hM.here)), 1, _, rfl, rb1 (refsV_leni x.many r) (by omega), ?_⟩
    refine for_r1 (refsV_leni x.many r) (fun i σ H' => ∃ c v2 v3, σ = [some (.ref p), some (.ref c), v2, v3, none] ∧ Same H H' ∧ H' c = some (.lst (natsV (0 :: Pk x i))) ∧ ∀ j, j < i → Pk x (j + 1) ≠ Pk x j)
      ⟨b, none, none, rfl, s1, upd_same, fun j hj => absurd hj (Nat.not_lt_zero _)⟩ ?_ ?_
    · rintro i σ H1 hi ⟨c, v2, v3, rfl, sm, ec, no⟩
      -- later
      refine ⟨(by show 1 ≤ sizeLine; decide), fun z1 nz1 => ?_⟩
      have sz1 := same_upd (o := .lst [.int 0]) nz1
      have sm1 := sm.trans sz1
      refine ⟨.ref p, rfl, p, _, rfl, .inl (SqL.of (sm1 _ _ hM.here)), 1, _, rfl, rb1 (refsV_leni x.many r) (by omega), fun D nD => ?_⟩
      have en : (((refsV x.many r).length : Int) - 1).toNat = x.many := by rw [refsV_len]; omega
      rw [en]
      refine lc_range (lo := 1) (n := x.many) (fun j H' => Same (upd H1 z1 (.lst [.int 0])) H' ∧ H' D = some (.lst (natsV ((th j).map fun t => earI x.many (rel x) (val (Pk x i)) t x.many)))) ⟨same_upd nD, upd_same⟩ ?_ ?_
      · rintro j H2 hj ⟨s2, eD⟩
        rw [one_add]
        refine ⟨rfl, _, rfl, _, rfl, _, rfl, p, c, x.many, rel x, r, Pk x i, j + 1, rfl, (hM.same sm1).same s2, hi8, s2 _ _ (sz1 _ _ ec), Pk_len x i, by omega, ?_⟩
        refine ⟨_, eD, ?_, same_put s2 nD, ?_⟩
        · rw [natsV_len, List.length_map, th_len]
          exact small_sz (by omega)
        · rw [upd_same, th_succ, List.map_append, List.map_singleton, natsV_snoc]
      · rintro H2 ⟨s2, eD⟩
        rw [Pk_map g] at eD
        refine ⟨z1, D, _, _, rfl, rfl, s2 _ _ upd_same, eD, ?_, fun l nl => ?_⟩
        · rw [natsV_len, Pk_len]
          exact Nat.le_of_lt (small_sz (by show 1 + _ ≤ _; omega))
        have sl := same_upd (o := .lst ([V.int 0] ++ natsV (Pk x (i + 1)))) nl
        have s3 := sz1.trans (s2.trans sl)
        have el : upd H2 l (.lst ([V.int 0] ++ natsV (Pk x (i + 1)))) l = some (.lst (natsV (0 :: Pk x (i + 1)))) := upd_same
        have ec3 := s3 _ _ ec
        refine ⟨_, rfl, _, rfl, dS (0 :: Pk x (i + 1)), dS (0 :: Pk x i), dp_list el, dp_list ec3, dS_shaped _, dS_shaped _, _, rfl, ?_⟩
        rw [dS_eqv]
        by_cases eq : Pk x (i + 1) = Pk x i
        · have eqb : ((0 :: Pk x (i + 1)) == (0 :: Pk x i)) = true := by
            rw [eq]
            exact beq_self_eq_true _
          rw [eqb]
          have rp := rest_places g.lo eq
          refine iteT ⟨_, rfl, _, rfl, c, _, rfl, SqL.of ec3, fun v nv => ?_⟩
          have ev : cutV (natsV (0 :: Pk x i)) (some 1) none = natsV (Or03.places x) := by
            rw [rp.2]
            exact cut1 _ _
          rw [ev]
          exact q1 rp.1 _ _ (sm.trans (s3.trans (same_upd nv))) (sm.free (s3.free nv)) upd_same
        · rw [beq_eq_false_iff_ne.mpr (fun z => eq (List.cons.inj z).2)]
          refine iteF ⟨_, rfl, l, _, _, rfl, sm.trans s3, el, fun j hj => ?_⟩
          by_cases e : j < i
          · exact no j e
          · have : j = i := by omega
            rw [this]
            exact eq
    · rintro σ H1 ⟨c, v2, v3, rfl, sm, ec, no⟩
      exact q2 (rest_none g.lo no) _ sm
end
end Stt
set_option Elab.async false
set_option maxRecDepth 100000
set_option maxHeartbeats 2000000
set_option linter.all false
namespace Stt
open PySem PySem.Spec PyProof.Rows L2
/-! ### walks that end at the first -/
theorem fs_hit {α β : Type} {l : List α} {i : Nat} {a : α} {F : α → Option β} {b : β} (h : l[i]? = some a) (e : F a = some b) : (l.drop i).findSome? F = some b := by
  obtain ⟨hi, rfl⟩ := List.getElem?_eq_some_iff.mp h
  rw [List.drop_eq_getElem_cons hi, List.findSome?_cons, e]
theorem fs_miss {α β : Type} {l : List α} {i : Nat} {a : α} {F : α → Option β} (h : l[i]? = some a) (e : F a = none) : (l.drop i).findSome? F = (l.drop (i + 1)).findSome? F := by
  obtain ⟨hi, rfl⟩ := List.getElem?_eq_some_iff.mp h
  rw [List.drop_eq_getElem_cons hi, List.findSome?_cons, e]
theorem fs_end {α β : Type} {l : List α} {F : α → Option β} : (l.drop l.length).findSome? F = none := by
  rw [List.drop_length]
  rfl
theorem sel_true {b : Bool} {l : List Nat} (h : b = true) : sel b l = some l := if_pos h
theorem sel_false {b : Bool} {l : List Nat} (h : b = false) : sel b l = none := by
  rw [h]
  rfl
def Four (H : Hp) (Q : VK) (r : Option (List Nat)) : Prop := (∀ l, r = some l → ∀ H' q, Same H H' → H q = none → H' q = some (.lst (natsV l)) → Q (.ref q) H') ∧ (r = none → ∀ H', Same H H' → Q .non H')
theorem Four.hit {H : Hp} {Q : VK} {r : Option (List Nat)} {l : List Nat} (h : Four H Q r) (e : r = some l) {H' : Hp} {q : Addr} (s : Same H H') (n : H' q = none) : Q (.ref q) (upd H' q (.lst (natsV l))) :=
  h.1 l e _ _ (s.trans (same_upd n)) (s.free n) upd_same
/-! ### first_two_and_two -/
abbrev sTT : Stmt := topS 12
theorem scTT : FnScope ["over", "pairs", "a", "b", "c", "d"] ["over"] (defScope sTT) := ⟨rfl, rfl, rfl, by decide +kernel, rfl, by decide +kernel, by decide +kernel⟩
def spTT : Sp := fun vs H Q _ => ∃ (p : Addr) (x : Or03.Order) (r : Nat → Addr), vs = [.ref p] ∧ MatAt H p x.many (rel x) r ∧ Good x ∧ Four H Q (ttO x)
theorem pair_le {x : Or03.Order} {i : Nat} {pr : Nat × Nat} (h : (Or03.pairs x)[i]? = some pr) : pr.1 ≤ x.many ∧ pr.2 ≤ x.many := by
  have m := mem_pairs (List.mem_of_getElem? h)
  rw [mem_things, mem_things] at m
  exact ⟨m.1.2, m.2.2⟩
section
variable {P : Program} {w : World} {K : PySem.W.Frag} {mg : Str → Option Value} {base : Heap}
theorem ok_tt {f fP : Addr} {fd fdP : FuncData} {k : Nat} (F : Fun K "first_two_and_two" "first_two_and_two" sTT f fd)
    (GP : FnOk P w K mg base CX0 (k + 1) fP fdP ["over"] spPairs) (kP : PySem.W.keepIn K (.ref fP) = true) (bP : Binds K fdP ["over"] []) (gP : mg "pairs_over" = some (.ref fP)) :
    FnOk P w K mg base CX0 (k + 2) f fd ["over"] spTT := by
  refine F.ok scTT (fun vs H Q E h => ?_) (fun cdv A outer s H vs Q E hr h => ?_)
  · obtain ⟨p, x, r, rfl, _⟩ := h
    rfl
  · obtain ⟨p, x, r, rfl, hM, g, q⟩ := h
    refine ⟨_, pss_cons (ps_set (i := 1) scTT.nd rfl (.inl rfl) (pe_call GP hr (by rfl) gP kP bP .nil pass0 (pa_cons (pv 0) pa_nil)))
      (pss_cons (ps_for PassesOwn.never rfl (pi_list (pv 1)) (pg_tup rfl (pgs_cons (pg_name (i := 2) scTT.nd rfl (.inl rfl)) (pgs_cons (pg_name (i := 3) scTT.nd rfl (.inl rfl)) pgs_nil)))
        (pss_one (ps_for PassesOwn.never rfl (pi_list (pv 1)) (pg_tup rfl (pgs_cons (pg_name (i := 4) scTT.nd rfl (.inl rfl)) (pgs_cons (pg_name (i := 5) scTT.nd rfl (.inl rfl)) pgs_nil)))
          (pss_one (ps_if (PW.pt (pw_and (pt_not (pt_val (pe_ix ix_list (pe_ix ix_list (pv 0) (pv 2) (fun _ _ => rfl)) (pv 5) (fun _ _ => rfl)))) (pw_and1 (pt_not (pt_val (pe_ix ix_list (pe_ix ix_list (pv 0) (pv 4) (fun _ _ => rfl)) (pv 3) (fun _ _ => rfl)))))))
            (pss_one (ps_ret (pe_lst (pa_cons (pv 2) (pa_cons (pv 3) (pa_cons (pv 4) (pa_cons (pv 5) pa_nil))))))) pss_nil)))))
      (pss_one (ps_ret pe_non))), ?_⟩
    have hi8 := g.hi
    refine ⟨_, rfl, p, _, _, r, rfl, hM, g.hi, fun H1 u s1 nu hP => ?_⟩
    rw [pairsM_pairs g] at hP
    obtain ⟨as, eu, hT⟩ := hP
    have el : (refs as).length = (Or03.pairs x).length := by rw [refs_len, hT.len]
    refine ⟨_, rfl, u, rfl, ⟨_, SqL.of eu⟩, for_list (K := K) (a := u) (xs := refs as) (fun i σ H' => ∃ v2 v3 v4 v5, σ = [some (.ref p), some (.ref u), v2, v3, v4, v5] ∧ H' = H1 ∧ ttO x = ((Or03.pairs x).drop i).findSome? fun p => (Or03.pairs x).findSome? fun q => ttT (rel x) p q)
      ⟨none, none, none, none, rfl, rfl, rfl⟩ (fun i σ H' _ ⟨_, _, _, _, _, e, _⟩ => by rw [e]; exact SqL.of eu) ?_ ?_⟩
    · rintro i v σ H2 hi ⟨v2, v3, v4, v5, rfl, rfl, ho⟩
      obtain ⟨a, pr, rfl, hp, ha⟩ := refs_pair hT hi
      have lp := pair_le hp
      refine ⟨a, _, rfl, .inl (.inl ha), rfl, _, _, rfl, _, _, rfl, rfl, ?_⟩
      refine ⟨_, rfl, u, rfl, ⟨_, SqL.of eu⟩, for_list (K := K) (a := u) (xs := refs as) (fun j σ H' => ∃ v4 v5, σ = [some (.ref p), some (.ref u), some (.int (pr.1 : Nat)), some (.int (pr.2 : Nat)), v4, v5] ∧ H' = H2 ∧ ((Or03.pairs x).findSome? fun q => ttT (rel x) pr q) = ((Or03.pairs x).drop j).findSome? fun q => ttT (rel x) pr q)
        ⟨v4, v5, rfl, rfl, rfl⟩ (fun i σ H' _ ⟨_, _, _, e, _⟩ => by rw [e]; exact SqL.of eu) ?_ ?_⟩
      · rintro j v σ H3 hj ⟨v4, v5, rfl, rfl, hn⟩
        obtain ⟨b, pr2, rfl, hp2, hb⟩ := refs_pair hT hj
        have lp2 := pair_le hp2
        have et : ttT (rel x) pr pr2 = sel (!rel x pr.1 pr2.2 && !rel x pr2.1 pr.2) [pr.1, pr.2, pr2.1, pr2.2] := rfl
        refine ⟨b, _, rfl, .inl (.inl hb), rfl, _, _, rfl, _, _, rfl, rfl, ?_⟩
        refine (hM.same s1).cell (x := pr.1) (y := pr2.2) (fun Q h => ⟨_, rfl, h⟩) (fun Q h => ⟨_, rfl, h⟩) (fun Q h => ⟨_, rfl, h⟩) lp.1 lp2.2 ⟨_, rfl, ?_⟩
        by_cases c1 : rel x pr.1 pr2.2 = true
        · rw [c1]
          rw [c1, Bool.not_true, Bool.false_and, sel_false rfl] at et
          refine iteF ⟨_, _, rfl, rfl, ?_⟩
          rw [hn]
          exact fs_miss hp2 et
        · have c1' := Bool.eq_false_iff.mpr c1
          rw [c1']
          refine iteT ?_
          refine (hM.same s1).cell (x := pr2.1) (y := pr.2) (fun Q h => ⟨_, rfl, h⟩) (fun Q h => ⟨_, rfl, h⟩) (fun Q h => ⟨_, rfl, h⟩) lp2.1 lp.2 ⟨_, rfl, ?_⟩
          by_cases c2 : rel x pr2.1 pr.2 = true
          · rw [c2]
            rw [c2, Bool.not_true, Bool.and_false, sel_false rfl] at et
            refine iteF ⟨_, _, rfl, rfl, ?_⟩
            rw [hn]
            exact fs_miss hp2 et
          · have c2' := Bool.eq_false_iff.mpr c2
            rw [c2']
            rw [c1', c2', Bool.not_false, Bool.true_and, sel_true rfl] at et
            have e1 := fs_hit hp2 et
            have e2 := fs_hit (F := fun p => (Or03.pairs x).findSome? fun q => ttT (rel x) p q) hp (hn.trans e1)
            exact iteT ⟨_, rfl, _, rfl, _, rfl, _, rfl, (by show 4 ≤ sizeLine; decide), fun l nl => q.hit (ho.trans e2) s1 nl⟩
      · rintro σ H3 ⟨v4, v5, rfl, rfl, hn⟩
        rw [el, fs_end] at hn
        refine ⟨_, _, _, _, rfl, rfl, ?_⟩
        rw [ho]
        exact fs_miss (F := fun p => (Or03.pairs x).findSome? fun q => ttT (rel x) p q) hp hn
    · rintro σ H2 ⟨v2, v3, v4, v5, rfl, rfl, ho⟩
      rw [el, fs_end] at ho
      exact q.2 ho _ s1
/-! ### are_open -/
abbrev sOpn : Stmt := topS 13
theorem scOpn : FnScope ["over", "x", "y"] ["over", "x", "y"] (defScope sOpn) := ⟨rfl, rfl, rfl, by decide +kernel, rfl, by decide +kernel, by decide +kernel⟩
def spOpn : Sp := fun vs H Q _ => ∃ (p : Addr) (n : Nat) (M : Mat) (r : Nat → Addr) (x y : Nat), vs = [.ref p, .int (x : Nat), .int (y : Nat)] ∧ MatAt H p n M r ∧ x ≤ n ∧ y ≤ n ∧ Q (.bl (opM M x y)) H
theorem ok_opn {f : Addr} {fd : FuncData} {k : Nat} (F : Fun K "are_open" "are_open" sOpn f fd) : FnOk P w K mg base CX0 (k + 1) f fd ["over", "x", "y"] spOpn := by
  refine F.ok scOpn (fun vs H Q E h => ?_) (fun cdv A outer s H vs Q E hr h => ?_)
  · obtain ⟨p, n, M, r, x, y, rfl, _⟩ := h
    rfl
  · obtain ⟨p, n, M, r, x, y, rfl, hM, hx, hy, q⟩ := h
    refine ⟨_, pss_one (ps_ret (pe_and (pe_cmpR op_ne (pv 1) (pv 2) (nomark _)) (pe_and (pe_not (pe_ix ix_list (pe_ix ix_list (pv 0) (pv 1) (fun _ _ => rfl)) (pv 2) (fun _ _ => rfl))) (pe_one (pe_not (pe_ix ix_list (pe_ix ix_list (pv 0) (pv 2) (fun _ _ => rfl)) (pv 1) (fun _ _ => rfl))))))), ?_⟩
    have eo : opM M x y = (x != y && (!M x y && !M y x)) := rfl
    have en : (!decide (V.int (x : Int) = V.int (y : Int))) = (x != y) := by
      rw [eq_nat]
      by_cases c : x = y
      · rw [decide_eq_true c, c, bne_self_eq_false]
        rfl
      · rw [decide_eq_false c, bne_iff_ne.mpr c]
        rfl
    refine ⟨_, rfl, _, rfl, rfl, _, rfl, ?_⟩
    rw [en]
    cases c : x != y with
    | false =>
      rw [c, Bool.false_and] at eo
      rw [eo] at q
      exact iteF q
    | true =>
      rw [c, Bool.true_and] at eo
      refine iteT ?_
      refine hM.cell (x := x) (y := y) (fun Q h => ⟨_, rfl, h⟩) (fun Q h => ⟨_, rfl, h⟩) (fun Q h => ⟨_, rfl, h⟩) hx hy ⟨_, rfl, _, rfl, ?_⟩
      cases d : M x y with
      | true =>
        rw [d, Bool.not_true, Bool.false_and] at eo
        rw [eo] at q
        exact iteF q
      | false =>
        rw [d, Bool.not_false, Bool.true_and] at eo
        refine iteT ?_
        refine hM.cell (x := y) (y := x) (fun Q h => ⟨_, rfl, h⟩) (fun Q h => ⟨_, rfl, h⟩) (fun Q h => ⟨_, rfl, h⟩) hy hx ⟨_, rfl, ?_⟩
        rw [eo] at q
        exact q
/-! ### is_open_to_all -/
abbrev sAll : Stmt := topS 14
theorem scAll : FnScope ["over", "thing", "others", "other"] ["over", "thing", "others"] (defScope sAll) := ⟨rfl, rfl, rfl, by decide +kernel, rfl, by decide +kernel, by decide +kernel⟩
def spAll (K : PySem.W.Frag) : Sp := fun vs H Q _ => ∃ (p b : Addr) (n : Nat) (M : Mat) (r : Nat → Addr) (t : Nat) (l : List Nat), vs = [.ref p, .int (t : Nat), .ref b] ∧ MatAt H p n M r ∧ t ≤ n ∧ H b = some (.lst (natsV l)) ∧ (∀ x ∈ l, x ≤ n) ∧ l.length ≤ 100 ∧
  ∀ H', Same H H' → Q (.bl (l.all (opM M t))) H'
theorem ok_all {f fO : Addr} {fd fdO : FuncData} {k : Nat} (F : Fun K "is_open_to_all" "is_open_to_all" sAll f fd)
    (GO : FnOk P w K mg base CX0 (k + 1) fO fdO ["over", "x", "y"] spOpn) (kO : PySem.W.keepIn K (.ref fO) = true) (bO : Binds K fdO ["over", "x", "y"] []) (gO : mg "are_open" = some (.ref fO)) (ma : mg "all" = none) :
    FnOk P w K mg base CX0 (k + 2) f fd ["over", "thing", "others"] (spAll K) := by
  refine F.ok scAll (fun vs H Q E h => ?_) (fun cdv A outer s H vs Q E hr h => ?_)
  · obtain ⟨p, b, n, M, r, t, l, rfl, _⟩ := h
    rfl
  · obtain ⟨p, b, n, M, r, t, l, rfl, hM, ht, hb, hl, hlen, q⟩ := h
    refine ⟨_, pss_one (ps_ret (pe_callB (cr_all rfl) (by rfl) ma (by decide +kernel) (pa_cons (pe_lc (own := [("other", 3)]) (g := gName 3) (tt := tYes) (te := tCall spOpn [] E0 (tCons (tVar 0) (tCons (tVar 1) (tCons (tVar 3) tNil)))) rfl scAll.nd (pi_list (pv 2))
        (blkOk_by (N := ["over", "thing", "others", "other"]) (sc := defScope sAll) (by decide +kernel))
        (fun _ _ _ _ _ => pg_name (i := 3) scAll.nd rfl (Or.inl rfl))
        (fun _ _ _ _ _ => pts_nil)
        (fun _ _ _ _ _ => pe_call GO hr (by rfl) gO kO bO .nil pass0 (pa_cons (pv 0) (pa_cons (pv 1) (pa_cons (pv 3) pa_nil))))) pa_nil))), ?_⟩
    refine ⟨_, rfl, b, rfl, ⟨_, SqL.of hb⟩, fun D nD => ?_⟩
    refine lc_list (K := K) (a := b) (xs := natsV l) (fun i H' => Same H H' ∧ H' D = some (.lst (((l.take i).map (opM M t)).map V.bl))) ⟨same_upd nD, upd_same⟩ (fun i H' _ h => SqL.of (h.1 _ _ hb)) ?_ ?_
    · rintro i v H1 hi ⟨sm, eD⟩
      obtain ⟨z, hz, rfl⟩ := natsV_of hi
      refine ⟨rfl, _, rfl, _, rfl, _, rfl, p, n, M, r, t, z, rfl, hM.same sm, ht, hl z (List.mem_of_getElem? hz), _, eD, ?_, same_put sm nD, ?_⟩
      · rw [List.length_map, List.length_map, List.length_take]
        exact small_sz (by omega)
      · rw [upd_same, List.take_add_one, hz, List.map_append, List.map_append]
        rfl
    · rintro H1 ⟨sm, eD⟩
      rw [natsV_len, List.take_length] at eD
      refine ⟨D, _, rfl, SqL.of eD, ?_⟩
      have e : (l.map (opM M t)).all id = l.all (opM M t) := by
        rw [List.all_map]
        rfl
      rw [e]
      exact q _ sm
/-! ### first_three_and_one -/
abbrev sTO : Stmt := topS 15
theorem scTO : FnScope ["over", "a", "b", "c", "d"] ["over"] (defScope sTO) := ⟨rfl, rfl, rfl, by decide +kernel, rfl, by decide +kernel, by decide +kernel⟩
def spTO : Sp := fun vs H Q _ => ∃ (p : Addr) (x : Or03.Order) (r : Nat → Addr), vs = [.ref p] ∧ MatAt H p x.many (rel x) r ∧ Good x ∧ Four H Q (toO x)
theorem fs_th_end {β : Type} {n : Nat} {F : Nat → Option β} : ((th n).drop n).findSome? F = none := by
  have := fs_end (l := th n) (F := F)
  rw [th_len] at this
  exact this
theorem ok_to1 {f fP fA : Addr} {fd fdP fdA : FuncData} {k : Nat} (F : Fun K "first_three_and_one" "first_three_and_one" sTO f fd)
    (GP : FnOk P w K mg base CX0 (k + 1) fP fdP ["over"] spPairs) (kP : PySem.W.keepIn K (.ref fP) = true) (bP : Binds K fdP ["over"] []) (gP : mg "pairs_over" = some (.ref fP))
    (GA : FnOk P w K mg base CX0 (k + 2) fA fdA ["over", "thing", "others"] (spAll K)) (kA : PySem.W.keepIn K (.ref fA) = true) (bA : Binds K fdA ["over", "thing", "others"] []) (gA : mg "is_open_to_all" = some (.ref fA))
    (ml : mg "len" = none) (mr : mg "range" = none) :
    FnOk P w K mg base CX0 (k + 3) f fd ["over"] spTO := by
  refine F.ok scTO (fun vs H Q E h => ?_) (fun cdv A outer s H vs Q E hr h => ?_)
  · obtain ⟨p, x, r, rfl, _⟩ := h
    rfl
  · obtain ⟨p, x, r, rfl, hM, g, q⟩ := h
    have hr1 : Room (k + 1) _ := hr.mono (by omega)
    refine ⟨_, pss_cons (ps_for PassesOwn.never rfl (pi_list (pe_call GP hr1 (by rfl) gP kP bP .nil pass0 (pa_cons (pv 0) pa_nil))) (pg_tup rfl (pgs_cons (pg_name (i := 1) scTO.nd rfl (.inl rfl)) (pgs_cons (pg_name (i := 2) scTO.nd rfl (.inl rfl)) pgs_nil)))
        (pss_one (ps_for PassesOwn.never rfl (pi_range2 (by rfl) mr (pa_cons pe_int (pa_cons (pe_callB call_len_seq (by rfl) ml PySem.boot_len (pa_cons (pv 0) pa_nil)) pa_nil))) (pg_name (i := 3) scTO.nd rfl (.inl rfl))
          (pss_one (ps_for PassesOwn.never rfl (pi_range2 (by rfl) mr (pa_cons pe_int (pa_cons (pe_callB call_len_seq (by rfl) ml PySem.boot_len (pa_cons (pv 0) pa_nil)) pa_nil))) (pg_name (i := 4) scTO.nd rfl (.inl rfl))
            (pss_one (ps_if (PW.pt (pw_and (pt_val (pe_ix ix_list (pe_ix ix_list (pv 0) (pv 2) (fun _ _ => rfl)) (pv 3) (fun _ _ => rfl))) (pw_and1 (pt_val (pe_call GA hr (by rfl) gA kA bA .nil pass0 (pa_cons (pv 0) (pa_cons (pv 4) (pa_cons (pe_lst (pa_cons (pv 1) (pa_cons (pv 2) (pa_cons (pv 3) pa_nil)))) pa_nil))))))))
              (pss_one (ps_ret (pe_lst (pa_cons (pv 1) (pa_cons (pv 2) (pa_cons (pv 3) (pa_cons (pv 4) pa_nil))))))) pss_nil)))))))
      (pss_one (ps_ret pe_non)), ?_⟩
    have hi8 := g.hi
    refine ⟨_, rfl, p, _, _, r, rfl, hM, g.hi, fun H1 u s1 nu hP => ?_⟩
    rw [pairsM_pairs g] at hP
    obtain ⟨as, eu, hT⟩ := hP
    have el : (refs as).length = (Or03.pairs x).length := by rw [refs_len, hT.len]
    have hM1 := hM.same s1
    refine ⟨u, rfl, ⟨_, SqL.of eu⟩, for_list (K := K) (a := u) (xs := refs as) (fun i σ H' => ∃ v1 v2 v3 v4, σ = [some (.ref p), v1, v2, v3, v4] ∧ Same H1 H' ∧ toO x = ((Or03.pairs x).drop i).findSome? fun p => (Or03.things x).findSome? fun c => (Or03.things x).findSome? fun d => toT (rel x) p c d)
      ⟨none, none, none, none, rfl, Same.refl _, rfl⟩ (fun i σ H' _ ⟨_, _, _, _, _, e, _⟩ => SqL.of (e _ _ eu)) ?_ ?_⟩
    · rintro i v σ H2 hi ⟨v1, v2, v3, v4, rfl, s2, ho⟩
      obtain ⟨a, pr, rfl, hp, ha⟩ := refs_pair hT hi
      have lp := pair_le hp
      refine ⟨a, _, rfl, .inl (.inl (s2 _ _ ha)), rfl, _, _, rfl, _, _, rfl, rfl, ?_⟩
      refine ⟨.ref p, rfl, p, _, rfl, .inl (SqL.of (s2 _ _ hM1.here)), 1, _, rfl, rb1 (refsV_leni x.many r) (by omega), ?_⟩
      refine for_r1 (refsV_leni x.many r) (fun j σ H' => ∃ v3 v4, σ = [some (.ref p), some (.int (pr.1 : Nat)), some (.int (pr.2 : Nat)), v3, v4] ∧ Same H1 H' ∧ ((th x.many).findSome? fun c => (th x.many).findSome? fun d => toT (rel x) pr c d) = ((th x.many).drop j).findSome? fun c => (th x.many).findSome? fun d => toT (rel x) pr c d)
        ⟨v3, v4, rfl, s2, rfl⟩ ?_ ?_
      · rintro j σ H3 hj ⟨v3, v4, rfl, s3, hj2⟩
        refine ⟨.ref p, rfl, p, _, rfl, .inl (SqL.of (s3 _ _ hM1.here)), 1, _, rfl, rb1 (refsV_leni x.many r) (by omega), ?_⟩
        refine for_r1 (refsV_leni x.many r) (fun m σ H' => ∃ v4, σ = [some (.ref p), some (.int (pr.1 : Nat)), some (.int (pr.2 : Nat)), some (.int ((j + 1 : Nat) : Int)), v4] ∧ Same H1 H' ∧ ((th x.many).findSome? fun d => toT (rel x) pr (j + 1) d) = ((th x.many).drop m).findSome? fun d => toT (rel x) pr (j + 1) d)
          ⟨v4, rfl, s3, rfl⟩ ?_ ?_
        · rintro m σ H4 hm ⟨v4, rfl, s4, hm2⟩
          have et : toT (rel x) pr (j + 1) (m + 1) = sel (rel x pr.2 (j + 1) && [pr.1, pr.2, j + 1].all (opM (rel x) (m + 1))) [pr.1, pr.2, j + 1, m + 1] := rfl
          have miss : toT (rel x) pr (j + 1) (m + 1) = none → ((th x.many).findSome? fun d => toT (rel x) pr (j + 1) d) = ((th x.many).drop (m + 1)).findSome? fun d => toT (rel x) pr (j + 1) d := fun e => hm2.trans (fs_miss (F := fun d => toT (rel x) pr (j + 1) d) (th_get hm) e)
          refine (hM1.same s4).cell (x := pr.2) (y := j + 1) (fun Q h => ⟨_, rfl, h⟩) (fun Q h => ⟨_, rfl, h⟩) (fun Q h => ⟨_, rfl, h⟩) lp.2 (by omega) ⟨_, rfl, ?_⟩
          by_cases c1 : rel x pr.2 (j + 1) = true
          · rw [c1]
            rw [c1, Bool.true_and] at et
            refine iteT ⟨_, rfl, _, rfl, _, rfl, _, rfl, _, rfl, (by show 3 ≤ sizeLine; decide), fun z nz => ?_⟩
            have sz := same_upd (o := .lst [V.int (pr.1 : Nat), V.int (pr.2 : Nat), V.int ((j + 1 : Nat) : Int)]) nz
            refine ⟨p, z, x.many, rel x, r, m + 1, [pr.1, pr.2, j + 1], rfl, (hM1.same s4).same sz, by omega, upd_same, ?_, by show 3 ≤ 100; decide, fun H5 s5 => ⟨_, rfl, ?_⟩⟩
            · intro y hy
              simp only [List.mem_cons, List.not_mem_nil, or_false] at hy
              omega
            have s45 := s4.trans (sz.trans s5)
            refine ite2 (fun c2 => ?_) (fun c2 => ?_)
            · rw [sel_true c2] at et
              have e1 := hm2.trans (fs_hit (F := fun d => toT (rel x) pr (j + 1) d) (th_get hm) et)
              have e2 := hj2.trans (fs_hit (F := fun c => (th x.many).findSome? fun d => toT (rel x) pr c d) (th_get hj) e1)
              have e3 := ho.trans (fs_hit (F := fun p => (Or03.things x).findSome? fun c => (Or03.things x).findSome? fun d => toT (rel x) p c d) hp e2)
              exact ⟨_, rfl, _, rfl, _, rfl, _, rfl, (by show 4 ≤ sizeLine; decide), fun l nl => q.hit e3 (s1.trans s45) nl⟩
            · rw [sel_false (Bool.eq_false_iff.mpr c2)] at et
              exact ⟨_, rfl, s45, miss et⟩
          · have c1' := Bool.eq_false_iff.mpr c1
            rw [c1']
            rw [c1', Bool.false_and, sel_false rfl] at et
            exact iteF ⟨_, rfl, s4, miss et⟩
        · rintro σ H4 ⟨v4, rfl, s4, hm2⟩
          rw [fs_th_end] at hm2
          exact ⟨_, _, rfl, s4, hj2.trans (fs_miss (F := fun c => (th x.many).findSome? fun d => toT (rel x) pr c d) (th_get hj) hm2)⟩
      · rintro σ H3 ⟨v3, v4, rfl, s3, hj2⟩
        rw [fs_th_end] at hj2
        exact ⟨_, _, _, _, rfl, s3, ho.trans (fs_miss (F := fun p => (Or03.things x).findSome? fun c => (Or03.things x).findSome? fun d => toT (rel x) p c d) hp hj2)⟩
    · rintro σ H2 ⟨v1, v2, v3, v4, rfl, s2, ho⟩
      rw [el, fs_end] at ho
      exact q.2 ho _ (s1.trans s2)
end
end Stt
set_option Elab.async false
set_option maxRecDepth 100000
set_option maxHeartbeats 2000000
set_option linter.all false
namespace Stt
open PySem PySem.Spec PyProof.Rows L2
/-! ### one_larger -/
theorem aft_th (t : Nat) : ∀ n, aft (th n) t = (List.range (n - t)).map fun i => t + 1 + i
  | 0 => by
    rw [Nat.zero_sub]
    rfl
  | n + 1 => by
    have ih := aft_th t n
    have e : aft (th (n + 1)) t = aft (th n) t ++ [n + 1].filter fun y => decide (t < y) := by
      unfold aft
      rw [th_succ, List.filter_append]
    rw [e, ih]
    by_cases c : t ≤ n
    · rw [List.filter_cons_of_pos (by rw [decide_eq_true_iff]; omega), show n + 1 - t = (n - t) + 1 by omega, List.range_succ, List.map_append, List.map_singleton, show t + 1 + (n - t) = n + 1 by omega]
      rfl
    · rw [List.filter_cons_of_neg (by rw [decide_eq_true_iff]; omega), show n + 1 - t = 0 by omega, show n - t = 0 by omega]
      rfl
def rowL (M : Mat) (s : List Nat) (j : Nat) : List (List Nat) := (((List.range j).map fun i => lastOf s + 1 + i).filter fun t => s.all (opM M t)).map fun t => s ++ [t]
theorem rowL_succ (M : Mat) (s : List Nat) (j : Nat) : rowL M s (j + 1) = rowL M s j ++ (if s.all (opM M (lastOf s + 1 + j)) = true then [s ++ [lastOf s + 1 + j]] else []) := by
  unfold rowL
  rw [List.range_succ, List.map_append, List.map_singleton, List.filter_append, List.map_append]
  by_cases c : s.all (opM M (lastOf s + 1 + j)) = true
  · rw [List.filter_cons_of_pos (p := fun t => s.all (opM M t)) c, if_pos c]
    rfl
  · rw [List.filter_cons_of_neg (p := fun t => s.all (opM M t)) c, if_neg c]
    rfl
theorem rowL_len (M : Mat) (s : List Nat) (j : Nat) : (rowL M s j).length ≤ j := by
  unfold rowL
  rw [List.length_map]
  refine Nat.le_trans (List.length_filter_le _ _) ?_
  rw [List.length_map, List.length_range]
  exact Nat.le_refl _
theorem larger_take {n : Nat} {M : Mat} {ss : List (List Nat)} {i : Nat} {s : List Nat} (h : ss[i]? = some s) : largerM n M (ss.take (i + 1)) = largerM n M (ss.take i) ++ rowL M s (n - lastOf s) := by
  unfold largerM rowL
  rw [List.take_add_one, h, List.flatMap_append, ← aft_th]
  congr 1
  exact List.flatMap_singleton ..
theorem larger_len (n : Nat) (M : Mat) : ∀ ss : List (List Nat), (largerM n M ss).length ≤ ss.length * n
  | [] => Nat.zero_le _
  | s :: ss => by
    have ih := larger_len n M ss
    have h := rowL_len M s (n - lastOf s)
    have e : largerM n M (s :: ss) = rowL M s (n - lastOf s) ++ largerM n M ss := by
      unfold largerM rowL
      rw [List.flatMap_cons, ← aft_th]
    rw [e, List.length_append, List.length_cons, Nat.succ_mul]
    omega
abbrev sOL : Stmt := topS 16
theorem scOL : FnScope ["over", "crowds", "larger", "crowd", "thing"] ["over", "crowds"] (defScope sOL) := ⟨rfl, rfl, rfl, by decide +kernel, rfl, by decide +kernel, by decide +kernel⟩
def spOL : Sp := fun vs H Q _ => ∃ (p u : Addr) (n : Nat) (M : Mat) (r : Nat → Addr) (ss : List (List Nat)), vs = [.ref p, .ref u] ∧ MatAt H p n M r ∧ n ≤ 8 ∧ SetsAt H u ss ∧ ss.length ≤ 1000 ∧ (∀ s ∈ ss, s ≠ [] ∧ s.length ≤ 8 ∧ ∀ x ∈ s, x ≤ n) ∧
  ∀ H' q, Same H H' → H q = none → SetsAt H' q (largerM n M ss) → Q (.ref q) H'
section
variable {P : Program} {w : World} {K : PySem.W.Frag} {mg : Str → Option Value} {base : Heap}
theorem ok_ol {f fA : Addr} {fd fdA : FuncData} {k : Nat} (F : Fun K "one_larger" "one_larger" sOL f fd)
    (GA : FnOk P w K mg base CX0 (k + 1) fA fdA ["over", "thing", "others"] (spAll K)) (kA : PySem.W.keepIn K (.ref fA) = true) (bA : Binds K fdA ["over", "thing", "others"] []) (gA : mg "is_open_to_all" = some (.ref fA))
    (ml : mg "len" = none) (mr : mg "range" = none) : FnOk P w K mg base CX0 (k + 2) f fd ["over", "crowds"] spOL := by
  refine F.ok scOL (fun vs H Q E h => ?_) (fun cdv A outer s H vs Q E hr h => ?_)
  · obtain ⟨p, u, n, M, r, ss, rfl, _⟩ := h
    rfl
  · obtain ⟨p, u, n, M, r, ss, rfl, hM, hn, ⟨us, eu, hU⟩, hlen, hss, q⟩ := h
    refine ⟨_, pss_cons (ps_set (i := 2) scOL.nd rfl (.inl rfl) (pe_lst pa_nil))
      (pss_cons (ps_for PassesOwn.never rfl (pi_list (pv 1)) (pg_name (i := 3) scOL.nd rfl (.inl rfl))
        (pss_one (ps_for PassesOwn.never rfl (pi_range2 (by rfl) mr (pa_cons (pe_op op_add (pe_ix ix_list (pv 3) (pe_un un_neg pe_int) (fun _ _ => rfl)) pe_int) (pa_cons (pe_callB call_len_seq (by rfl) ml PySem.boot_len (pa_cons (pv 0) pa_nil)) pa_nil)))
          (pg_name (i := 4) scOL.nd rfl (.inl rfl))
          (pss_one (ps_if (pt_val (pe_call GA hr (by rfl) gA kA bA .nil pass0 (pa_cons (pv 0) (pa_cons (pv 4) (pa_cons (pv 3) pa_nil)))))
            (pss_one (ps_expr (pe_bm PySem.F.plainAttrs_list PySem.F.slot_list_append PySem.F.type_list_append mt_append (pv 2) (pa_cons (pe_op op_cat (pv 3) (pe_lst (pa_cons (pv 4) pa_nil))) pa_nil))))
            pss_nil)))))
      (pss_one (ps_ret (pv 2)))), ?_⟩
    refine ⟨Nat.zero_le _, fun t nt => ?_⟩
    have s1 : Same H (upd H t (.lst [])) := same_upd nt
    have el : (refs us).length = ss.length := by rw [refs_len, hU.len]
    refine ⟨_, rfl, u, rfl, ⟨_, SqL.of (s1 _ _ eu)⟩, for_list (K := K) (a := u) (xs := refs us) (fun i σ H' => ∃ v3 v4 as, σ = [some (.ref p), some (.ref u), some (.ref t), v3, v4] ∧ Same H H' ∧ H' t = some (.lst (refs as)) ∧ (∀ a ∈ as, a ≠ t) ∧ Lsts H' as (largerM n M (ss.take i)))
      ⟨none, none, [], rfl, s1, upd_same, (fun a h => by cases h), trivial⟩ (fun i σ H' _ ⟨_, _, _, _, sm, _⟩ => SqL.of (sm _ _ eu)) ?_ ?_⟩
    · rintro i v σ H1 hi ⟨v3, v4, as, rfl, sm, et, ne, hL⟩
      obtain ⟨a, s', rfl, hs, ha⟩ := refs_at hU hi
      obtain ⟨sne, sl8, sle⟩ := hss s' (List.mem_of_getElem? hs)
      have hil : i < ss.length := by
        rw [← el]
        exact (List.getElem?_eq_some_iff.mp hi).1
      obtain ⟨w', ew⟩ := lastOf_snoc sne
      have ela : atI (natsV s') (-1) = some (.int ((lastOf s' : Nat) : Int)) := by
        have : natsV s' = natsV w' ++ [V.int ((lastOf s' : Nat) : Int)] := by
          rw [← natsV_snoc, ← ew]
        rw [this]
        exact atI_last _ _
      have lastle : lastOf s' ≤ n := sle _ (last_mem sne)
      refine ⟨_, rfl, 1, rfl, a, _, _, _, rfl, rfl, SqL.of (sm _ _ ha), ela, _, _, rfl, rfl, .ref p, rfl, p, _, rfl, .inl (SqL.of (sm _ _ hM.here)), _, _, rfl, ?_, ?_⟩
      · rw [refsV_len]
        omega
      have en : (((refsV n r).length : Int) - ((lastOf s' : Int) + 1)).toNat = n - lastOf s' := by
        rw [refsV_len]
        omega
      rw [en]
      refine for_range (fun j σ H' => ∃ v4 as, σ = [some (.ref p), some (.ref u), some (.ref t), some (.ref a), v4] ∧ Same H H' ∧ H' t = some (.lst (refs as)) ∧ (∀ a ∈ as, a ≠ t) ∧ Lsts H' as (largerM n M (ss.take i) ++ rowL M s' j)) ⟨v4, as, rfl, sm, et, ne, ?_⟩ ?_ ?_
      · show Lsts H1 as (_ ++ [])
        rw [List.append_nil]
        exact hL
      · rintro j σ H2 hj ⟨v4, bs, rfl, sm2, et2, ne2, hL2⟩
        have ei : ((lastOf s' : Int) + 1 + (j : Int)) = ((lastOf s' + 1 + j : Nat) : Int) := by omega
        rw [ei]
        have e := rowL_succ M s' j
        refine ⟨_, rfl, _, rfl, _, rfl, p, a, n, M, r, lastOf s' + 1 + j, s', rfl, hM.same sm2, by omega, sm2 _ _ ha, sle, by omega, fun H3 s3 => ⟨_, rfl, ?_⟩⟩
        have sm3 := sm2.trans s3
        have et3 := s3 _ _ et2
        refine ite2 (fun c => ?_) (fun c => ?_)
        · rw [if_pos c] at e
          refine ⟨_, rfl, .inl ⟨rfl, _, SqL.of et3⟩, _, rfl, _, rfl, (by show 1 ≤ sizeLine; decide), fun z nz => ?_⟩
          have sz := same_upd (o := .lst [.int ((lastOf s' + 1 + j : Nat) : Int)]) nz
          refine ⟨a, z, _, _, rfl, rfl, sz _ _ (sm3 _ _ ha), upd_same, ?_, fun y ny => ?_⟩
          · rw [natsV_len]
            exact Nat.le_of_lt (small_sz (by show _ + 1 ≤ _; omega))
          have sy := same_upd (o := .lst (natsV s' ++ [.int ((lastOf s' + 1 + j : Nat) : Int)])) ny
          have szy := sz.trans sy
          have ety := szy _ _ et3
          refine ⟨t, _, _, rfl, rfl, ety, ?_, ?_⟩
          · rw [refs_len, hL2.len, List.length_append]
            have l1 := larger_len n M (ss.take i)
            have l2 := rowL_len M s' j
            have l3 : (ss.take i).length * n ≤ 1000 * 8 := Nat.mul_le_mul (by rw [List.length_take]; omega) hn
            exact small_sz (by omega)
          · have yt : y ≠ t := fun zz => by
              rw [zz] at ny
              rw [sz _ _ et3] at ny
              cases ny
            have ne' : ∀ b ∈ bs ++ [y], b ≠ t := fun b hb => by
              rcases List.mem_append.mp hb with zz | zz
              · exact ne2 b zz
              · rw [List.mem_singleton] at zz
                rw [zz]
                exact yt
            refine ⟨_, bs ++ [y], rfl, same_put (sm3.trans szy) nt, ?_, ne', ?_⟩
            · rw [upd_same, refs_snoc]
            · rw [e, ← List.append_assoc]
              refine Lsts.put ne' (Lsts.snoc ?_ ((hL2.same s3).same szy))
              rw [upd_same, natsV_snoc]
        · rw [if_neg c, List.append_nil] at e
          refine ⟨_, bs, rfl, sm3, et3, ne2, ?_⟩
          rw [e]
          exact hL2.same s3
      · rintro σ H2 ⟨v4, bs, rfl, sm2, et2, ne2, hL2⟩
        refine ⟨_, _, bs, rfl, sm2, et2, ne2, ?_⟩
        rw [larger_take hs]
        exact hL2
    · rintro σ H1 ⟨v3, v4, as, rfl, sm, et, ne, hL⟩
      rw [el, List.take_length] at hL
      exact ⟨_, rfl, q _ _ sm nt ⟨as, et, hL⟩⟩
/-! ### first_crowd -/
theorem while_m {c : TT} {tb : TS} {D : Ends} {σ : L2.St} {H : Hp} (Pv : Nat → L2.St → Hp → Prop) (m0 : Nat) (h0 : Pv m0 σ H)
    (hs : ∀ m σ H, Pv m σ H → c σ H fun b H1 => if b = true then tb { D with nx := fun σ' H' => ∃ m', m' < m ∧ Pv m' σ' H', ct := fun σ' H' => ∃ m', m' < m ∧ Pv m' σ' H', bk := D.nx } σ H1 else D.nx σ H1)
    (mono : ∀ σ H Q Q', (∀ b H1, Q b H1 → Q' b H1) → c σ H Q → c σ H Q') : tWhile c tb D σ H := by
  refine ⟨Pv, ⟨m0, h0⟩, ?_⟩
  intro m σ H p
  refine mono σ H _ _ (fun b H1 q => ?_) (hs m σ H p)
  cases b with
  | true => exact ⟨_, fun σ' H' h => h, q⟩
  | false => exact q
abbrev sFC : Stmt := topS 17
theorem scFC : FnScope ["over", "crowds", "larger", "thing"] ["over"] (defScope sFC) := ⟨rfl, rfl, rfl, by decide +kernel, rfl, by decide +kernel, by decide +kernel⟩
def spFC : Sp := fun vs H Q _ => ∃ (p : Addr) (x : Or03.Order) (r : Nat → Addr), vs = [.ref p] ∧ MatAt H p x.many (rel x) r ∧ Good x ∧ ∀ H' q, Same H H' → H' q = some (.lst (natsV (Or03.crowd x))) → Q (.ref q) H'
theorem lev_fit {x : Or03.Order} (g : Good x) {k : Nat} : ∀ s ∈ lev x (k + 1), s ≠ [] ∧ s.length ≤ 8 ∧ ∀ y ∈ s, y ≤ x.many := by
  intro s hs
  obtain ⟨h1, h2, h3⟩ := lev_mem hs
  have := g.hi
  refine ⟨fun z => ?_, by omega, fun y hy => (mem_things.mp (h2 y hy)).2⟩
  rw [z] at h1
  cases h1
theorem ok_fc {f fO : Addr} {fd fdO : FuncData} {k : Nat} (F : Fun K "first_crowd" "first_crowd" sFC f fd)
    (GO : FnOk P w K mg base CX0 (k + 1) fO fdO ["over", "crowds"] spOL) (kO : PySem.W.keepIn K (.ref fO) = true) (bO : Binds K fdO ["over", "crowds"] []) (gO : mg "one_larger" = some (.ref fO))
    (ml : mg "len" = none) (mr : mg "range" = none) : FnOk P w K mg base CX0 (k + 2) f fd ["over"] spFC := by
  refine F.ok scFC (fun vs H Q E h => ?_) (fun cdv A outer s H vs Q E hr h => ?_)
  · obtain ⟨p, x, r, rfl, _⟩ := h
    rfl
  · obtain ⟨p, x, r, rfl, hM, g, q⟩ := h
    refine ⟨_, pss_cons (ps_setLc (i := 1) (own := [("thing", 3)]) (g := gName 3) (tt := tYes) (te := tLst (tCons (tVar 3) tNil)) rfl scFC.nd rfl rfl (sw_true rfl rfl rfl (by decide +kernel)) (pi_range2 (by rfl) mr (pa_cons pe_int (pa_cons (pe_callB call_len_seq (by rfl) ml PySem.boot_len (pa_cons (pv 0) pa_nil)) pa_nil)))
        (blkOk_by (N := ["over", "crowds", "larger", "thing"]) (sc := defScope sFC) (by decide +kernel))
        (fun _ _ _ _ _ => pg_name (i := 3) scFC.nd rfl (Or.inl rfl))
        (fun _ _ _ _ _ => pts_nil)
        (fun _ _ _ _ _ => pe_lst (pa_cons (pv 3) pa_nil)))
      (pss_cons (ps_set (i := 2) scFC.nd rfl (.inl rfl) (pe_call GO hr (by rfl) gO kO bO .nil pass0 (pa_cons (pv 0) (pa_cons (pv 1) pa_nil))))
      (pss_cons (ps_while PassesOwn.never (pt_cmpR op_gt (pe_callB call_len_seq (by rfl) ml PySem.boot_len (pa_cons (pv 2) pa_nil)) pe_int (nomark _))
        (pss_cons (ps_set (i := 1) scFC.nd rfl (.inl rfl) (pv 2))
        (pss_one (ps_set (i := 2) scFC.nd rfl (.inl rfl) (pe_call GO hr (by rfl) gO kO bO .nil pass0 (pa_cons (pv 0) (pa_cons (pv 1) pa_nil)))))))
      (pss_one (ps_ret (pe_ix ix_list (pv 1) pe_int (fun _ _ => rfl)))))), ?_⟩
    have hi8 := g.hi
    have lo1 := g.lo
    refine ⟨.ref p, rfl, p, _, rfl, .inl (SqL.of hM.here), 1, _, rfl, rb1 (refsV_leni x.many r) (by omega), fun D nD => ?_⟩
    have en : (((refsV x.many r).length : Int) - 1).toNat = x.many := by rw [refsV_len]; omega
    rw [en]
    refine lc_range (lo := 1) (n := x.many) (fun i H' => Same H H' ∧ ∃ as, H' D = some (.lst (refs as)) ∧ (∀ a ∈ as, a ≠ D) ∧ Lsts H' as ((th i).map fun t => [t])) ⟨same_upd nD, [], upd_same, (fun a h => by cases h), trivial⟩ ?_ ?_
    · rintro i H1 hi ⟨sm, as, eD, ne, hL⟩
      rw [one_add]
      refine ⟨rfl, _, rfl, (by show 1 ≤ sizeLine; decide), fun z nz => ?_⟩
      have sz := same_upd (o := .lst [.int ((i + 1 : Nat) : Int)]) nz
      have zD : z ≠ D := fun e => by
        rw [e, eD] at nz
        cases nz
      have ne' : ∀ a ∈ as ++ [z], a ≠ D := fun b hb => by
        rcases List.mem_append.mp hb with e | e
        · exact ne b e
        · rw [List.mem_singleton] at e
          rw [e]
          exact zD
      refine ⟨_, sz _ _ eD, ?_, same_put (sm.trans sz) nD, as ++ [z], ?_, ne', ?_⟩
      · rw [refs_len, hL.len, List.length_map, th_len]
        exact small_sz (by omega)
      · rw [upd_same, refs_snoc]
      · rw [th_succ, List.map_append]
        exact Lsts.put ne' (Lsts.snoc (p := [i + 1]) upd_same (hL.same sz))
    · rintro H1 ⟨sm, as, eD, ne, hL⟩
      have hS : SetsAt H1 D (lev x 1) := by
        refine ⟨as, eD, ?_⟩
        rw [lev_one]
        exact hL
      have ll : ∀ k, (lev x k).length ≤ 1000 := fun k => Nat.le_trans (lev_len g k) (by decide)
      refine ⟨_, rfl, _, rfl, p, D, x.many, rel x, r, lev x 1, rfl, hM.same sm, hi8, hS, ll 1, lev_fit g, fun H2 l s2 nl hl => ?_⟩
      have h1 : ∃ s r, lev x 1 = s :: r := by
        cases e : lev x 1 with
        | nil =>
          have z := congrArg List.length e
          rw [lev_one, List.length_map, things_len, List.length_nil] at z
          omega
        | cons s' r' => exact ⟨s', r', rfl⟩
      refine while_m (fun m σ H' => ∃ c l k, σ = [some (.ref p), some (.ref c), some (.ref l), none] ∧ m = 9 - k ∧ k ≤ 8 ∧ Same H H' ∧ SetsAt H' c (lev x (k + 1)) ∧ SetsAt H' l (lev x (k + 2)) ∧ ∃ s r, lev x (k + 1) = s :: r) 9
        ⟨D, l, 0, rfl, rfl, by omega, sm.trans s2, hS.same s2, ?_, h1⟩ ?_ ?_
      · rw [← larger_lev g 0]
        exact hl
      · rintro m σ H3 ⟨c, l, k', rfl, rfl, hk, s3, hc, hl3, hne⟩
        obtain ⟨bs, el, hLl⟩ := id hl3
        refine ⟨_, rfl, l, _, rfl, .inl (SqL.of el), _, _, rfl, rfl, _, rfl, ?_⟩
        have ec : ((refs bs).length : Int) = ((lev x (k' + 2)).length : Int) := by rw [refs_len, hLl.len]
        rw [ec]
        cases e2 : lev x (k' + 2) with
        | nil =>
          refine iteF ?_
          obtain ⟨s', r', e1⟩ := hne
          obtain ⟨cs, ecs, hLc⟩ := hc
          rw [e1] at hLc
          have cr := crowd_of g e1 e2
          cases cs with
          | nil => exact hLc.elim
          | cons a0 cs =>
            rw [← cr] at hLc
            exact ⟨_, rfl, c, _, 0, _, rfl, rfl, SqL.of ecs, atI_nat (j := 0) rfl, q _ _ s3 hLc.1⟩
        | cons s' r' =>
          have m2 := lev_mem (o := x) (k := k' + 2) (s := s') (by rw [e2]; exact List.mem_cons_self)
          rw [decide_eq_true (show (0 : Int) < ((s' :: r').length : Int) by rw [List.length_cons]; omega)]
          refine iteT ⟨_, rfl, _, rfl, _, rfl, p, l, x.many, rel x, r, lev x (k' + 2), rfl, hM.same s3, hi8, hl3, ll _, lev_fit g, fun H4 l4 s4 n4 h4 => ?_⟩
          refine ⟨9 - (k' + 1), by omega, l, l4, k' + 1, rfl, rfl, by omega, s3.trans s4, hl3.same s4, ?_, s', r', e2⟩
          rw [← larger_lev g (k' + 1)]
          exact h4
      · rintro σ H3 Q1 Q2 hq ⟨v, e1, a', ys, e2, h3, z1, z2, e4, e5, k', e6, h6⟩
        exact ⟨v, e1, a', ys, e2, h3, z1, z2, e4, e5, k', e6, hq _ _ h6⟩
end
end Stt
set_option Elab.async false
set_option maxRecDepth 100000
set_option maxHeartbeats 2000000
set_option linter.all false
namespace Stt
open PySem PySem.Spec PyProof.Rows L2
/-- a statement that is never come to -/
theorem ps_dead {X : Cx} {st : Stmt} : PS X st (fun _ _ _ => False) := ⟨fun _ _ _ _ _ _ h => h.elim⟩
/-! ### answer_long -/
abbrev sLo : Stmt := topS 51
theorem scLo : FnScope ["order", "begins"] ["order"] (defScope sLo) := ⟨rfl, rfl, rfl, by decide +kernel, rfl, by decide +kernel, by decide +kernel⟩
def spLo (C : Addr) : Sp := fun vs H Q _ => ∃ (o t : Addr) (x : Or03.Order), vs = [.ref o] ∧ OrdAt C H o t x ∧ Good x ∧ Back C H o t (Or03.step x .long) Q
section
variable {P : Program} {w : World} {K : PySem.W.Frag} {mg : Str → Option Value} {base : Heap} {C : Addr} {tw tm ta tf t8 te : Tok}
theorem ok_lo {f fR fB : Addr} {fd fdR fdB : FuncData} {k : Nat} (F : Fun K "answer_long" "answer_long" sLo f fd)
    (GR : FnOk P w K mg base CX0 (k + 2) fR fdR ["order"] (spRows C)) (kR : PySem.W.keepIn K (.ref fR) = true) (bR : Binds K fdR ["order"] []) (gR : mg "rows_of" = some (.ref fR))
    (GB : FnOk P w K mg base CX0 (k + 2) fB fdB ["over"] spBL) (kB : PySem.W.keepIn K (.ref fB) = true) (bB : Binds K fdB ["over"] []) (gB : mg "begins_all_as_long" = some (.ref fB))
    (gF : mg "FORBIDDEN" = some (.int (-6) tf)) :
    FnOk P w K mg base CX0 (k + 3) f fd ["order"] (spLo C) := by
  refine F.ok scLo (fun vs H Q E h => ?_) (fun cdv A outer s H vs Q E hr h => ?_)
  · obtain ⟨o, t, x, rfl, _⟩ := h
    rfl
  · obtain ⟨o, t, x, rfl, hO, g, q⟩ := h
    refine ⟨_, pss_cons (ps_set (i := 1) scLo.nd rfl (.inl rfl) (pe_call GB hr (by rfl) gB kB bB .nil pass0 (pa_cons (pe_call GR hr (by rfl) gR kR bR .nil pass0 (pa_cons (pv 0) pa_nil)) pa_nil)))
      (pss_cons (ps_if (pt_cmpR op_isN (pv 1) pe_non (nomark _)) (pss_one (ps_ret (pe_lst (pa_cons (pe_glob rfl gF rel_int) pa_nil)))) pss_nil)
      (pss_one (ps_ret (pv 1)))), ?_⟩
    have e : Or03.step x .long = (x, if Or03.asLong x = false then [-6] else Or03.ints (Or03.places x)) := rfl
    refine ⟨_, rfl, o, t, x, rfl, hO, g, fun H1 p r s1 np hM => ?_⟩
    refine ⟨p, x, r, rfl, hM, g, fun yes H2 u s2 nu eu => ?_, fun no H2 s2 => ?_⟩
    · rw [e, if_neg (by rw [yes]; decide)] at q
      refine ⟨_, rfl, rfl, _, rfl, ?_⟩
      rw [decide_eq_false (show ¬ V.ref u = V.non from fun z => by cases z)]
      rw [natsV_intsV] at eu
      exact iteF ⟨_, rfl, q.list hO (s1.trans s2) (s1.free nu) eu⟩
    · rw [e, if_pos no] at q
      exact ⟨_, rfl, rfl, _, rfl, iteT ⟨(by show 1 ≤ sizeLine; decide), fun v nv => q.stay hO (s1.trans s2) nv⟩⟩
/-! ### answer_four -/
abbrev sFo : Stmt := topS 52
theorem scFo : FnScope ["four"] ["four"] (defScope sFo) := ⟨rfl, rfl, rfl, by decide +kernel, rfl, by decide +kernel, by decide +kernel⟩
def spFo : Sp := fun vs H Q _ => ∃ v : V, vs = [v] ∧ ((v = .non ∧ ∀ p, H p = none → Q (.ref p) (upd H p (.lst [.int (-3)]))) ∨ ∃ q, v = .ref q ∧ Q (.ref q) H)
theorem ok_fo {f : Addr} {fd : FuncData} {k : Nat} (F : Fun K "answer_four" "answer_four" sFo f fd) (gM : mg "MISSING" = some (.int (-3) tm)) :
    FnOk P w K mg base CX0 (k + 1) f fd ["four"] spFo := by
  refine F.ok scFo (fun vs H Q E h => ?_) (fun cdv A outer s H vs Q E hr h => ?_)
  · obtain ⟨v, rfl, _⟩ := h
    rfl
  · obtain ⟨v, rfl, h⟩ := h
    refine ⟨_, pss_cons (ps_if (pt_cmpR op_isN (pv 0) pe_non (nomark _)) (pss_one (ps_ret (pe_lst (pa_cons (pe_glob rfl gM rel_int) pa_nil)))) pss_nil)
      (pss_one (ps_ret (pv 0))), ?_⟩
    rcases h with ⟨rfl, q⟩ | ⟨u, rfl, q⟩
    · exact ⟨_, rfl, rfl, _, rfl, iteT ⟨(by show 1 ≤ sizeLine; decide), fun v nv => q v nv⟩⟩
    · refine ⟨_, rfl, rfl, _, rfl, ?_⟩
      rw [decide_eq_false (show ¬ V.ref u = V.non from fun z => by cases z)]
      exact iteF ⟨_, rfl, q⟩
/-! ### answer_crowd -/
abbrev sCr : Stmt := topS 53
theorem scCr : FnScope ["order", "crowd"] ["order"] (defScope sCr) := ⟨rfl, rfl, rfl, by decide +kernel, rfl, by decide +kernel, by decide +kernel⟩
def spCr (C : Addr) : Sp := fun vs H Q _ => ∃ (o t : Addr) (x : Or03.Order), vs = [.ref o] ∧ OrdAt C H o t x ∧ Good x ∧ Back C H o t (Or03.step x .crowd) Q
theorem pick_len : ∀ (L : List (List Nat)) (b : List Nat) (n : Nat), b.length ≤ n → (∀ s ∈ L, s.length ≤ n) → (L.foldl pick b).length ≤ n
  | [], b, n, h, _ => h
  | a :: L, b, n, h, hL => by
    rw [List.foldl_cons]
    refine pick_len L _ n ?_ fun s hs => hL s (List.mem_cons_of_mem _ hs)
    have := hL a List.mem_cons_self
    unfold pick
    split <;> omega
theorem subsets_le : ∀ {l s : List Nat}, s ∈ Or03.subsets l → s.length ≤ l.length
  | [], s, h => by
    have h' : s ∈ [[]] := h
    rw [List.mem_singleton] at h'
    rw [h']
    exact Nat.le_refl _
  | x :: l, s, h => by
    rw [subsets_cons, List.mem_append, List.mem_map] at h
    rcases h with ⟨t, ht, e⟩ | h
    · have := subsets_le ht
      rw [← e, List.length_cons, List.length_cons]
      omega
    · have := subsets_le h
      rw [List.length_cons]
      omega
theorem crowd_le {x : Or03.Order} (g : Good x) : (Or03.crowd x).length ≤ 8 := by
  have e : Or03.crowd x = ((Or03.subsets (Or03.things x)).filter (okB x)).foldl pick [] := rfl
  rw [e]
  refine pick_len _ _ _ (Nat.zero_le _) fun s hs => ?_
  have h := subsets_le (List.mem_filter.mp hs).1
  rw [things_len] at h
  exact Nat.le_trans h g.hi
theorem ok_cr {f fR fB : Addr} {fd fdR fdB : FuncData} {k : Nat} (F : Fun K "answer_crowd" "answer_crowd" sCr f fd)
    (GR : FnOk P w K mg base CX0 (k + 2) fR fdR ["order"] (spRows C)) (kR : PySem.W.keepIn K (.ref fR) = true) (bR : Binds K fdR ["order"] []) (gR : mg "rows_of" = some (.ref fR))
    (GB : FnOk P w K mg base CX0 (k + 4) fB fdB ["over"] spFC) (kB : PySem.W.keepIn K (.ref fB) = true) (bB : Binds K fdB ["over"] []) (gB : mg "first_crowd" = some (.ref fB))
    (ml : mg "len" = none) :
    FnOk P w K mg base CX0 (k + 5) f fd ["order"] (spCr C) := by
  refine F.ok scCr (fun vs H Q E h => ?_) (fun cdv A outer s H vs Q E hr h => ?_)
  · obtain ⟨o, t, x, rfl, _⟩ := h
    rfl
  · obtain ⟨o, t, x, rfl, hO, g, q⟩ := h
    have hr2 : Room (k + 2) _ := hr.mono (by omega)
    refine ⟨_, pss_cons (ps_set (i := 1) scCr.nd rfl (.inl rfl) (pe_call GB hr (by rfl) gB kB bB .nil pass0 (pa_cons (pe_call GR hr2 (by rfl) gR kR bR .nil pass0 (pa_cons (pv 0) pa_nil)) pa_nil)))
      (pss_one (ps_ret (pe_op op_cat (pe_lst (pa_cons (pe_callB call_len_seq (by rfl) ml PySem.boot_len (pa_cons (pv 1) pa_nil)) pa_nil)) (pv 1)))), ?_⟩
    have e : Or03.step x .crowd = (x, Or03.counted (Or03.crowd x)) := rfl
    rw [e] at q
    refine ⟨_, rfl, o, t, x, rfl, hO, g, fun H1 p r s1 np hM => ?_⟩
    refine ⟨p, x, r, rfl, hM, g, fun H2 v s2 ev => ?_⟩
    have s12 := s1.trans s2
    refine ⟨_, rfl, v, _, rfl, .inl (SqL.of ev), (by show 1 ≤ sizeLine; decide), fun y ny => ?_⟩
    have sy := same_upd (o := .lst [.int ((natsV (Or03.crowd x)).length : Nat)]) ny
    refine ⟨_, rfl, y, v, _, _, rfl, rfl, upd_same, sy _ _ ev, ?_, fun z nz => ?_⟩
    · rw [natsV_len]
      have := crowd_le g
      exact Nat.le_of_lt (small_sz (by show 1 + _ ≤ _; omega))
    · have ez : [V.int ((natsV (Or03.crowd x)).length : Nat)] ++ natsV (Or03.crowd x) = intsV (Or03.counted (Or03.crowd x)) := by
        rw [natsV_len, natsV_intsV]
        rfl
      rw [ez]
      exact q.stay hO (s12.trans sy) nz
/-! ### answer_turn -/
abbrev sTu : Stmt := topS 54
theorem scTu : FnScope ["order", "x", "y"] ["order"] (defScope sTu) := ⟨rfl, rfl, rfl, by decide +kernel, rfl, by decide +kernel, by decide +kernel⟩
def spTu (C : Addr) : Sp := fun vs H Q _ => ∃ (o t : Addr) (x : Or03.Order), vs = [.ref o] ∧ OrdAt C H o t x ∧ Good x ∧ x.told.length ≤ 2000 ∧ Back C H o t (Or03.step x .turn) Q
theorem ok_tu {f fN : Addr} {fd fdN : FuncData} {k : Nat} (F : Fun K "answer_turn" "answer_turn" sTu f fd) (T : Txt K C)
    (GN : FnOk P w K mg base CX0 (k + 3) fN fdN ["order"] (spAP C)) (kN : PySem.W.keepIn K (.ref fN) = true) (bN : Binds K fdN ["order"] []) (gN : mg "answer_pairs" = some (.ref fN)) :
    FnOk P w K mg base CX0 (k + 4) f fd ["order"] (spTu C) := by
  refine F.ok scTu (fun vs H Q E h => ?_) (fun cdv A outer s H vs Q E hr h => ?_)
  · obtain ⟨o, t, x, rfl, _⟩ := h
    rfl
  · obtain ⟨o, t, x, rfl, hO, g, hlen, q⟩ := h
    refine ⟨_, pss_cons (ps_fld (pv 0) (pe_lc (own := [("x", 1), ("y", 2)]) (g := gTup K 2 (gCons (gName 1) (gCons (gName 2) gNil))) (tt := tYes) (te := tTup (tCons (tVar 2) (tCons (tVar 1) tNil))) rfl scTu.nd (pi_list (pe_fld (pv 0) rfl))
          (blkOk_by (N := ["order", "x", "y"]) (sc := defScope sTu) (by decide +kernel))
          (fun _ _ _ _ _ => pg_tup rfl (pgs_cons (pg_name (i := 1) scTu.nd rfl (Or.inl rfl)) (pgs_cons (pg_name (i := 2) scTu.nd rfl (Or.inl rfl)) pgs_nil)))
          (fun _ _ _ _ _ => pts_nil)
          (fun _ _ _ _ _ => pe_tup (pa_cons (pv 2) (pa_cons (pv 1) pa_nil)))) rfl)
      (pss_one (ps_ret (pe_call GN hr (by rfl) gN kN bN .nil pass0 (pa_cons (pv 0) pa_nil)))), ?_⟩
    have e : Or03.step x .turn = ({ x with told := x.told.map fun p => (p.2, p.1) }, Or03.pairRow (Or03.pairs { x with told := x.told.map fun p => (p.2, p.1) })) := rfl
    rw [e] at q
    have g2 := good_turn g
    obtain ⟨⟨dx, ho⟩, as, et, hT⟩ := id hO
    have el : (refs as).length = x.told.length := by rw [refs_len, hT.len]
    refine ⟨_, rfl, o, C, dx, _, _, rfl, ho, T.cl, T.nT, oF_told _ _, t, rfl, ⟨_, SqL.of et⟩, fun D nD => ?_⟩
    refine lc_list (K := K) (a := t) (xs := refs as) (fun i H' => Same H H' ∧ PairsAt H' D ((x.told.take i).map fun p => (p.2, p.1))) ⟨same_upd nD, [], upd_same, trivial⟩ (fun i H' _ h => SqL.of (h.1 _ _ et)) ?_ ?_
    · rintro i v H1 hi ⟨sm, bs, eD, hB⟩
      obtain ⟨a, pr, rfl, hp, ha⟩ := refs_pair hT hi
      have hil : i < x.told.length := by
        rw [← el]
        exact (List.getElem?_eq_some_iff.mp hi).1
      refine ⟨a, _, rfl, .inl (.inl (sm _ _ ha)), rfl, _, _, rfl, _, _, rfl, rfl, rfl, _, rfl, _, rfl, (by show 2 ≤ sizeLine; decide), fun z nz => ?_⟩
      have sz := same_upd (o := .tup [.int (pr.2 : Nat), .int (pr.1 : Nat)]) nz
      have eDz := sz _ _ eD
      refine ⟨_, eDz, ?_, same_put (sm.trans sz) nD, bs ++ [z], ?_, ?_⟩
      · rw [refs_len, hB.len, List.length_map, List.length_take]
        exact small_sz (by omega)
      · rw [upd_same, refs_snoc]
      · rw [List.take_add_one, hp, List.map_append]
        exact Tups.put eDz (Tups.snoc (p := (pr.2, pr.1)) upd_same (hB.same sz))
    · rintro H1 ⟨sm, hP⟩
      rw [el, List.take_length] at hP
      have ho1 := sm _ _ ho
      refine ⟨_, rfl, o, C, dx, _, rfl, ho1, T.cl, T.nT, (by show 2 < 1000; decide), ?_⟩
      rw [oF_putT]
      have nDo : D ≠ o := fun z => by
        rw [z, ho] at nD
        cases nD
      have hO3 : OrdAt C (upd H1 o (.ins C dx (oF x.many D))) o D { x with told := x.told.map fun p => (p.2, p.1) } := by
        refine ⟨⟨dx, upd_same⟩, ?_⟩
        obtain ⟨bs, e1, e2⟩ := hP
        exact ⟨bs, keep_ne e1 nDo, e2.mono fun b' y z e => keep_ne e (ne_kind e ho1 (by intro z; cases z))⟩
      refine ⟨_, rfl, o, D, _, rfl, hO3, g2, fun H6 p6 s46 n63 e6 => ?_⟩
      have n60 : p6 ≠ o := fun z => by
        rw [z, upd_same] at n63
        cases n63
      have n6H : H p6 = none := by
        rw [upd_ne n60] at n63
        exact sm.free n63
      refine q _ p6 D (hO3.same s46) (.inr nD) n6H e6 fun b y eb nb nt => s46 _ _ ?_
      rw [upd_ne nb]
      exact sm _ _ eb
end
end Stt
set_option Elab.async false
set_option maxRecDepth 100000
set_option maxHeartbeats 4000000
set_option linter.all false
namespace Stt
open PySem PySem.Spec PyProof.Rows L2
/-! ### what a call is -/
theorem step_tt_some {x : Or03.Order} (g : Good x) {l : List Nat} (h : ttO x = some l) : Or03.step x .twoTwo = (x, Or03.ints l) := by
  have e : Or03.step x .twoTwo = (x, match Or03.twoTwo x with
    | none => [-3]
    | some q => Or03.ints [q.1, q.2.1, q.2.2.1, q.2.2.2]) := rfl
  rw [← ttO_spec g] at h
  cases c : Or03.twoTwo x with
  | none =>
    rw [c] at h
    cases h
  | some q =>
    rw [c] at h
    have h' := Option.some.inj h
    rw [e, c, ← h']
theorem step_tt_none {x : Or03.Order} (g : Good x) (h : ttO x = none) : Or03.step x .twoTwo = (x, [-3]) := by
  have e : Or03.step x .twoTwo = (x, match Or03.twoTwo x with
    | none => [-3]
    | some q => Or03.ints [q.1, q.2.1, q.2.2.1, q.2.2.2]) := rfl
  rw [← ttO_spec g] at h
  cases c : Or03.twoTwo x with
  | none => rw [e, c]
  | some q =>
    rw [c] at h
    cases h
theorem step_to_some {x : Or03.Order} (g : Good x) {l : List Nat} (h : toO x = some l) : Or03.step x .threeOne = (x, Or03.ints l) := by
  have e : Or03.step x .threeOne = (x, match Or03.threeOne x with
    | none => [-3]
    | some q => Or03.ints [q.1, q.2.1, q.2.2.1, q.2.2.2]) := rfl
  rw [← toO_spec g] at h
  cases c : Or03.threeOne x with
  | none =>
    rw [c] at h
    cases h
  | some q =>
    rw [c] at h
    have h' := Option.some.inj h
    rw [e, c, ← h']
theorem step_to_none {x : Or03.Order} (g : Good x) (h : toO x = none) : Or03.step x .threeOne = (x, [-3]) := by
  have e : Or03.step x .threeOne = (x, match Or03.threeOne x with
    | none => [-3]
    | some q => Or03.ints [q.1, q.2.1, q.2.2.1, q.2.2.2]) := rfl
  rw [← toO_spec g] at h
  cases c : Or03.threeOne x with
  | none => rw [e, c]
  | some q =>
    rw [c] at h
    cases h
theorem call0 {ns : List Nat} {c : Or03.Call} (h : Or03Neutral.callIn (0 :: ns) = some c) : ∃ n, ns = [n] ∧ c = .things n := by
  unfold Or03Neutral.callIn at h
  split at h <;> first
    | rename_i e; cases e; cases h; exact ⟨_, rfl, rfl⟩
    | rename_i e; cases e; done
    | cases h
theorem call1 {ns : List Nat} {c : Or03.Call} (h : Or03Neutral.callIn (1 :: ns) = some c) : ∃ x y, ns = [x, y] ∧ c = .over x y := by
  unfold Or03Neutral.callIn at h
  split at h <;> first
    | rename_i e; cases e; cases h; exact ⟨_, _, rfl, rfl⟩
    | rename_i e; cases e; done
    | cases h
theorem call3 {ns : List Nat} {c : Or03.Call} (h : Or03Neutral.callIn (3 :: ns) = some c) : c = .told ns := by
  unfold Or03Neutral.callIn at h
  split at h <;> first
    | rename_i e; cases e; cases h; exact rfl
    | rename_i e; cases e; done
    | cases h
theorem call5 {ns : List Nat} {c : Or03.Call} (h : Or03Neutral.callIn (5 :: ns) = some c) : ∃ n, ns = [n] ∧ c = .at_ n := by
  unfold Or03Neutral.callIn at h
  split at h <;> first
    | rename_i e; cases e; cases h; exact ⟨_, rfl, rfl⟩
    | rename_i e; cases e; done
    | cases h
theorem call2 {ns : List Nat} {c : Or03.Call} (h : Or03Neutral.callIn (2 :: ns) = some c) : c = .undo := by
  unfold Or03Neutral.callIn at h
  split at h <;> first
    | rename_i e; cases e; cases h; exact rfl
    | rename_i e; cases e; done
    | cases h
theorem call4 {ns : List Nat} {c : Or03.Call} (h : Or03Neutral.callIn (4 :: ns) = some c) : c = .stretches := by
  unfold Or03Neutral.callIn at h
  split at h <;> first
    | rename_i e; cases e; cases h; exact rfl
    | rename_i e; cases e; done
    | cases h
theorem call6 {ns : List Nat} {c : Or03.Call} (h : Or03Neutral.callIn (6 :: ns) = some c) : c = .long := by
  unfold Or03Neutral.callIn at h
  split at h <;> first
    | rename_i e; cases e; cases h; exact rfl
    | rename_i e; cases e; done
    | cases h
theorem call7 {ns : List Nat} {c : Or03.Call} (h : Or03Neutral.callIn (7 :: ns) = some c) : c = .twoTwo := by
  unfold Or03Neutral.callIn at h
  split at h <;> first
    | rename_i e; cases e; cases h; exact rfl
    | rename_i e; cases e; done
    | cases h
theorem call8 {ns : List Nat} {c : Or03.Call} (h : Or03Neutral.callIn (8 :: ns) = some c) : c = .threeOne := by
  unfold Or03Neutral.callIn at h
  split at h <;> first
    | rename_i e; cases e; cases h; exact rfl
    | rename_i e; cases e; done
    | cases h
theorem call9 {ns : List Nat} {c : Or03.Call} (h : Or03Neutral.callIn (9 :: ns) = some c) : c = .pairs := by
  unfold Or03Neutral.callIn at h
  split at h <;> first
    | rename_i e; cases e; cases h; exact rfl
    | rename_i e; cases e; done
    | cases h
theorem call10 {ns : List Nat} {c : Or03.Call} (h : Or03Neutral.callIn (10 :: ns) = some c) : c = .crowd := by
  unfold Or03Neutral.callIn at h
  split at h <;> first
    | rename_i e; cases e; cases h; exact rfl
    | rename_i e; cases e; done
    | cases h
theorem call11 {ns : List Nat} {c : Or03.Call} (h : Or03Neutral.callIn (11 :: ns) = some c) : c = .turn := by
  unfold Or03Neutral.callIn at h
  split at h <;> first
    | rename_i e; cases e; cases h; exact rfl
    | rename_i e; cases e; done
    | cases h
theorem call_le {p : Nat} {ns : List Nat} {c : Or03.Call} (h : Or03Neutral.callIn (p :: ns) = some c) : p ≤ 11 := by
  unfold Or03Neutral.callIn at h
  split at h <;> first
    | rename_i e; cases e; decide
    | cases h
/-! ### answer_call -/
abbrev sCa : Stmt := topS 56
theorem scCa : FnScope ["order", "call", "numbers"] ["order", "call", "numbers"] (defScope sCa) := ⟨rfl, rfl, rfl, by decide +kernel, rfl, by decide +kernel, by decide +kernel⟩
section
variable {P : Program} {w : World} {K : PySem.W.Frag} {mg : Str → Option Value} {base : Heap} {C : Addr} {q0 q1 q2 q3 q4 q5 q6 q7 q8 q9 q10 q11 : Tok}
theorem ok_call {f fTh fOv fUn fTo fAS fAt fLo fRo fTT fTO fFo fAP fCr fTu : Addr} {fd fdTh fdOv fdUn fdTo fdAS fdAt fdLo fdRo fdTT fdTO fdFo fdAP fdCr fdTu : FuncData} (F : Fun K "answer_call" "answer_call" sCa f fd)
    (GTh : FnOk P w K mg base CX0 1 fTh fdTh ["order", "size"] (spTh C)) (kTh : PySem.W.keepIn K (.ref fTh) = true) (bTh : Binds K fdTh ["order", "size"] []) (gTh : mg "answer_things" = some (.ref fTh))
    (GOv : FnOk P w K mg base CX0 3 fOv fdOv ["order", "x", "y"] (spOv C)) (kOv : PySem.W.keepIn K (.ref fOv) = true) (bOv : Binds K fdOv ["order", "x", "y"] []) (gOv : mg "answer_over" = some (.ref fOv))
    (GUn : FnOk P w K mg base CX0 1 fUn fdUn ["order"] (spUn C)) (kUn : PySem.W.keepIn K (.ref fUn) = true) (bUn : Binds K fdUn ["order"] []) (gUn : mg "answer_undo" = some (.ref fUn))
    (GTo : FnOk P w K mg base CX0 4 fTo fdTo ["order", "ends"] (spTo C)) (kTo : PySem.W.keepIn K (.ref fTo) = true) (bTo : Binds K fdTo ["order", "ends"] []) (gTo : mg "answer_told" = some (.ref fTo))
    (GAS : FnOk P w K mg base CX0 5 fAS fdAS ["order"] (spAS C)) (kAS : PySem.W.keepIn K (.ref fAS) = true) (bAS : Binds K fdAS ["order"] []) (gAS : mg "answer_stretches" = some (.ref fAS))
    (GAt : FnOk P w K mg base CX0 5 fAt fdAt ["order", "moment"] (spAt C)) (kAt : PySem.W.keepIn K (.ref fAt) = true) (bAt : Binds K fdAt ["order", "moment"] []) (gAt : mg "answer_at" = some (.ref fAt))
    (GLo : FnOk P w K mg base CX0 3 fLo fdLo ["order"] (spLo C)) (kLo : PySem.W.keepIn K (.ref fLo) = true) (bLo : Binds K fdLo ["order"] []) (gLo : mg "answer_long" = some (.ref fLo))
    (GRo : FnOk P w K mg base CX0 2 fRo fdRo ["order"] (spRows C)) (kRo : PySem.W.keepIn K (.ref fRo) = true) (bRo : Binds K fdRo ["order"] []) (gRo : mg "rows_of" = some (.ref fRo))
    (GTT : FnOk P w K mg base CX0 2 fTT fdTT ["over"] spTT) (kTT : PySem.W.keepIn K (.ref fTT) = true) (bTT : Binds K fdTT ["over"] []) (gTT : mg "first_two_and_two" = some (.ref fTT))
    (GTO : FnOk P w K mg base CX0 3 fTO fdTO ["over"] spTO) (kTO : PySem.W.keepIn K (.ref fTO) = true) (bTO : Binds K fdTO ["over"] []) (gTO : mg "first_three_and_one" = some (.ref fTO))
    (GFo : FnOk P w K mg base CX0 1 fFo fdFo ["four"] spFo) (kFo : PySem.W.keepIn K (.ref fFo) = true) (bFo : Binds K fdFo ["four"] []) (gFo : mg "answer_four" = some (.ref fFo))
    (GAP : FnOk P w K mg base CX0 3 fAP fdAP ["order"] (spAP C)) (kAP : PySem.W.keepIn K (.ref fAP) = true) (bAP : Binds K fdAP ["order"] []) (gAP : mg "answer_pairs" = some (.ref fAP))
    (GCr : FnOk P w K mg base CX0 5 fCr fdCr ["order"] (spCr C)) (kCr : PySem.W.keepIn K (.ref fCr) = true) (bCr : Binds K fdCr ["order"] []) (gCr : mg "answer_crowd" = some (.ref fCr))
    (GTu : FnOk P w K mg base CX0 4 fTu fdTu ["order"] (spTu C)) (kTu : PySem.W.keepIn K (.ref fTu) = true) (bTu : Binds K fdTu ["order"] []) (gTu : mg "answer_turn" = some (.ref fTu))
    (c0 : mg "THINGS" = some (.int 0 q0)) (c1 : mg "OVER" = some (.int 1 q1)) (c2 : mg "UNDO" = some (.int 2 q2)) (c3 : mg "TOLD" = some (.int 3 q3)) (c4 : mg "STRETCHES" = some (.int 4 q4)) (c5 : mg "AT" = some (.int 5 q5)) (c6 : mg "LONG" = some (.int 6 q6)) (c7 : mg "TWO_AND_TWO" = some (.int 7 q7)) (c8 : mg "THREE_AND_ONE" = some (.int 8 q8)) (c9 : mg "PAIRS" = some (.int 9 q9)) (c10 : mg "CROWD" = some (.int 10 q10)) (c11 : mg "TURN" = some (.int 11 q11)) :
    FnOk P w K mg base CX0 6 f fd ["order", "call", "numbers"] (spCall C) := by
  refine F.ok scCa (fun vs H Q E h => ?_) (fun cdv A outer s H vs Q E hr h => ?_)
  · obtain ⟨o, t, b, x, p, ns, c, rfl, _⟩ := h
    rfl
  · obtain ⟨o, t, b, x, p, ns, c, rfl, hO, g, hl, hb, hns, hc, q⟩ := h
    have hr1 : Room 1 _ := hr.mono (by decide)
    have hr2 : Room 2 _ := hr.mono (by decide)
    have hr3 : Room 3 _ := hr.mono (by decide)
    have hr4 : Room 4 _ := hr.mono (by decide)
    refine ⟨_, pss_cons (ps_if (pt_cmpR op_eq (pv 1) (pe_glob rfl c0 rel_int) (nomark _)) (pss_one (ps_ret (pe_call GTh hr1 (by rfl) gTh kTh bTh .nil pass0 (pa_cons (pv 0) (pa_cons (pe_ix ix_list (pv 2) pe_int (fun _ _ => rfl)) pa_nil))))) pss_nil)
      (pss_cons (ps_if (pt_cmpR op_eq (pv 1) (pe_glob rfl c1 rel_int) (nomark _)) (pss_one (ps_ret (pe_call GOv hr3 (by rfl) gOv kOv bOv .nil pass0 (pa_cons (pv 0) (pa_cons (pe_ix ix_list (pv 2) pe_int (fun _ _ => rfl)) (pa_cons (pe_ix ix_list (pv 2) pe_int (fun _ _ => rfl)) pa_nil)))))) pss_nil)
      (pss_cons (ps_if (pt_cmpR op_eq (pv 1) (pe_glob rfl c2 rel_int) (nomark _)) (pss_one (ps_ret (pe_call GUn hr1 (by rfl) gUn kUn bUn .nil pass0 (pa_cons (pv 0) pa_nil)))) pss_nil)
      (pss_cons (ps_if (pt_cmpR op_eq (pv 1) (pe_glob rfl c3 rel_int) (nomark _)) (pss_one (ps_ret (pe_call GTo hr4 (by rfl) gTo kTo bTo .nil pass0 (pa_cons (pv 0) (pa_cons (pv 2) pa_nil))))) pss_nil)
      (pss_cons (ps_if (pt_cmpR op_eq (pv 1) (pe_glob rfl c4 rel_int) (nomark _)) (pss_one (ps_ret (pe_call GAS hr (by rfl) gAS kAS bAS .nil pass0 (pa_cons (pv 0) pa_nil)))) pss_nil)
      (pss_cons (ps_if (pt_cmpR op_eq (pv 1) (pe_glob rfl c5 rel_int) (nomark _)) (pss_one (ps_ret (pe_call GAt hr (by rfl) gAt kAt bAt .nil pass0 (pa_cons (pv 0) (pa_cons (pe_ix ix_list (pv 2) pe_int (fun _ _ => rfl)) pa_nil))))) pss_nil)
      (pss_cons (ps_if (pt_cmpR op_eq (pv 1) (pe_glob rfl c6 rel_int) (nomark _)) (pss_one (ps_ret (pe_call GLo hr3 (by rfl) gLo kLo bLo .nil pass0 (pa_cons (pv 0) pa_nil)))) pss_nil)
      (pss_cons (ps_if (pt_cmpR op_eq (pv 1) (pe_glob rfl c7 rel_int) (nomark _)) (pss_one (ps_ret (pe_call GFo hr1 (by rfl) gFo kFo bFo .nil pass0 (pa_cons (pe_call GTT hr2 (by rfl) gTT kTT bTT .nil pass0 (pa_cons (pe_call GRo hr2 (by rfl) gRo kRo bRo .nil pass0 (pa_cons (pv 0) pa_nil)) pa_nil)) pa_nil)))) pss_nil)
      (pss_cons (ps_if (pt_cmpR op_eq (pv 1) (pe_glob rfl c8 rel_int) (nomark _)) (pss_one (ps_ret (pe_call GFo hr1 (by rfl) gFo kFo bFo .nil pass0 (pa_cons (pe_call GTO hr3 (by rfl) gTO kTO bTO .nil pass0 (pa_cons (pe_call GRo hr2 (by rfl) gRo kRo bRo .nil pass0 (pa_cons (pv 0) pa_nil)) pa_nil)) pa_nil)))) pss_nil)
      (pss_cons (ps_if (pt_cmpR op_eq (pv 1) (pe_glob rfl c9 rel_int) (nomark _)) (pss_one (ps_ret (pe_call GAP hr3 (by rfl) gAP kAP bAP .nil pass0 (pa_cons (pv 0) pa_nil)))) pss_nil)
      (pss_cons (ps_if (pt_cmpR op_eq (pv 1) (pe_glob rfl c10 rel_int) (nomark _)) (pss_one (ps_ret (pe_call GCr hr (by rfl) gCr kCr bCr .nil pass0 (pa_cons (pv 0) pa_nil)))) pss_nil)
      (pss_cons (ps_if (pt_cmpR op_eq (pv 1) (pe_glob rfl c11 rel_int) (nomark _)) (pss_one (ps_ret (pe_call GTu hr4 (by rfl) gTu kTu bTu .nil pass0 (pa_cons (pv 0) pa_nil)))) pss_nil)
      (pss_one ps_dead)))))))))))), ?_⟩
    refine ⟨_, rfl, rfl, _, rfl, ?_⟩
    rw [show decide (V.int (p : Int) = V.int 0) = decide (p = 0) from eq_nat (b := 0)]
    by_cases p0 : p = 0
    · rw [decide_eq_true p0]
      subst p0
      obtain ⟨n, rfl, rfl⟩ := call0 hc
      exact iteT ⟨_, rfl, _, rfl, b, _, 0, _, rfl, rfl, SqL.of hb, atI_nat (j := 0) rfl, o, t, x, n, rfl, hO, q⟩
    rw [decide_eq_false p0]
    refine iteF ⟨_, rfl, rfl, _, rfl, ?_⟩
    rw [show decide (V.int (p : Int) = V.int 1) = decide (p = 1) from eq_nat (b := 1)]
    by_cases p1 : p = 1
    · rw [decide_eq_true p1]
      subst p1
      obtain ⟨n, m, rfl, rfl⟩ := call1 hc
      exact iteT ⟨_, rfl, _, rfl, b, _, 0, _, rfl, rfl, SqL.of hb, atI_nat (j := 0) rfl, _, rfl, b, _, 1, _, rfl, rfl, SqL.of hb, atI_nat (j := 1) rfl, o, t, x, n, m, rfl, hO, g, hl, q⟩
    rw [decide_eq_false p1]
    refine iteF ⟨_, rfl, rfl, _, rfl, ?_⟩
    rw [show decide (V.int (p : Int) = V.int 2) = decide (p = 2) from eq_nat (b := 2)]
    by_cases p2 : p = 2
    · rw [decide_eq_true p2]
      subst p2
      rw [call2 hc] at q
      exact iteT ⟨_, rfl, o, t, x, rfl, hO, q⟩
    rw [decide_eq_false p2]
    refine iteF ⟨_, rfl, rfl, _, rfl, ?_⟩
    rw [show decide (V.int (p : Int) = V.int 3) = decide (p = 3) from eq_nat (b := 3)]
    by_cases p3 : p = 3
    · rw [decide_eq_true p3]
      subst p3
      rw [call3 hc] at q
      exact iteT ⟨_, rfl, _, rfl, o, t, b, x, ns, rfl, hO, hb, hns, q⟩
    rw [decide_eq_false p3]
    refine iteF ⟨_, rfl, rfl, _, rfl, ?_⟩
    rw [show decide (V.int (p : Int) = V.int 4) = decide (p = 4) from eq_nat (b := 4)]
    by_cases p4 : p = 4
    · rw [decide_eq_true p4]
      subst p4
      rw [call4 hc] at q
      exact iteT ⟨_, rfl, o, t, x, rfl, hO, g, q⟩
    rw [decide_eq_false p4]
    refine iteF ⟨_, rfl, rfl, _, rfl, ?_⟩
    rw [show decide (V.int (p : Int) = V.int 5) = decide (p = 5) from eq_nat (b := 5)]
    by_cases p5 : p = 5
    · rw [decide_eq_true p5]
      subst p5
      obtain ⟨n, rfl, rfl⟩ := call5 hc
      exact iteT ⟨_, rfl, _, rfl, b, _, 0, _, rfl, rfl, SqL.of hb, atI_nat (j := 0) rfl, o, t, x, n, rfl, hO, g, q⟩
    rw [decide_eq_false p5]
    refine iteF ⟨_, rfl, rfl, _, rfl, ?_⟩
    rw [show decide (V.int (p : Int) = V.int 6) = decide (p = 6) from eq_nat (b := 6)]
    by_cases p6 : p = 6
    · rw [decide_eq_true p6]
      subst p6
      rw [call6 hc] at q
      exact iteT ⟨_, rfl, o, t, x, rfl, hO, g, q⟩
    rw [decide_eq_false p6]
    refine iteF ⟨_, rfl, rfl, _, rfl, ?_⟩
    rw [show decide (V.int (p : Int) = V.int 7) = decide (p = 7) from eq_nat (b := 7)]
    by_cases p7 : p = 7
    · rw [decide_eq_true p7]
      subst p7
      rw [call7 hc] at q
      refine iteT ⟨_, rfl, o, t, x, rfl, hO, g, fun H1 p r s1 np hM => ⟨p, x, r, rfl, hM, g, fun l e H2 u s2 nu eu => ⟨_, rfl, .inr ⟨u, rfl, ?_⟩⟩, fun e H2 s2 => ⟨_, rfl, .inl ⟨rfl, fun v nv => ?_⟩⟩⟩⟩
      · rw [step_tt_some g e] at q
        rw [natsV_intsV] at eu
        exact q.list hO (s1.trans s2) (s1.free nu) eu
      · rw [step_tt_none g e] at q
        exact q.stay hO (s1.trans s2) nv
    rw [decide_eq_false p7]
    refine iteF ⟨_, rfl, rfl, _, rfl, ?_⟩
    rw [show decide (V.int (p : Int) = V.int 8) = decide (p = 8) from eq_nat (b := 8)]
    by_cases p8 : p = 8
    · rw [decide_eq_true p8]
      subst p8
      rw [call8 hc] at q
      refine iteT ⟨_, rfl, o, t, x, rfl, hO, g, fun H1 p r s1 np hM => ⟨p, x, r, rfl, hM, g, fun l e H2 u s2 nu eu => ⟨_, rfl, .inr ⟨u, rfl, ?_⟩⟩, fun e H2 s2 => ⟨_, rfl, .inl ⟨rfl, fun v nv => ?_⟩⟩⟩⟩
      · rw [step_to_some g e] at q
        rw [natsV_intsV] at eu
        exact q.list hO (s1.trans s2) (s1.free nu) eu
      · rw [step_to_none g e] at q
        exact q.stay hO (s1.trans s2) nv
    rw [decide_eq_false p8]
    refine iteF ⟨_, rfl, rfl, _, rfl, ?_⟩
    rw [show decide (V.int (p : Int) = V.int 9) = decide (p = 9) from eq_nat (b := 9)]
    by_cases p9 : p = 9
    · rw [decide_eq_true p9]
      subst p9
      rw [call9 hc] at q
      exact iteT ⟨_, rfl, o, t, x, rfl, hO, g, fun H1 u s1 nu eu => q.list hO s1 nu eu⟩
    rw [decide_eq_false p9]
    refine iteF ⟨_, rfl, rfl, _, rfl, ?_⟩
    rw [show decide (V.int (p : Int) = V.int 10) = decide (p = 10) from eq_nat (b := 10)]
    by_cases p10 : p = 10
    · rw [decide_eq_true p10]
      subst p10
      rw [call10 hc] at q
      exact iteT ⟨_, rfl, o, t, x, rfl, hO, g, q⟩
    rw [decide_eq_false p10]
    refine iteF ⟨_, rfl, rfl, _, rfl, ?_⟩
    rw [show decide (V.int (p : Int) = V.int 11) = decide (p = 11) from eq_nat (b := 11)]
    by_cases p11 : p = 11
    · rw [decide_eq_true p11]
      subst p11
      rw [call11 hc] at q
      exact iteT ⟨_, rfl, o, t, x, rfl, hO, g, hl, q⟩
    rw [decide_eq_false p11]
    have := call_le hc
    omega
end
end Stt
set_option Elab.async false
set_option maxRecDepth 100000
set_option maxHeartbeats 4000000
set_option linter.all false
namespace Stt
open PySem PySem.Spec PyProof.Rows L2
/-! ### all that the top leaves -/
theorem all_mk {P : Program} {w : World} {K : PySem.W.Frag} {h : Heap} {mg : Str → Option Value} {fa C fOver fPairs fBef fSets fLess fMany fBE fTell fStr fEar fBL fTT fOpn fAll fTO fOL fFC fRo fNums fAP fTh fIs fOv fUn fAre fApt fTo fAS fAt fLo fFo fCr fTu fHow fCa fMain fInit : Addr} (X : K.In h) (G : h.Ns mainGlobals mg) (hfa : mg "answers" = some (.ref fa))
    {odOver anOver odPairs anPairs odBef anBef odSets anSets odLess anLess odMany anMany odBE anBE odTell anTell odStr anStr odEar anEar odBL anBL odTT anTT odOpn anOpn odAll anAll odTO anTO odOL anOL odFC anFC odRo anRo odNums anNums odAP anAP odTh anTh odIs anIs odOv anOv odUn anUn odAre anAre odApt anApt odTo anTo odAS anAS odAt anAt odLo anLo odFo anFo odCr anCr odTu anTu odHow anHow odCa anCa odMain anMain odInit anInit : Option Addr} {slOver slPairs slBef slSets slLess slMany slBE slTell slStr slEar slBL slTT slOpn slAll slTO slOL slFC slRo slNums slAP slTh slIs slOv slUn slAre slApt slTo slAS slAt slLo slFo slCr slTu slHow slCa slMain slInit : Array (Option Value)} {ocOver kVOver dcOver pmOver cdOver ctOver ocPairs kVPairs dcPairs pmPairs cdPairs ctPairs ocBef kVBef dcBef pmBef cdBef ctBef ocSets kVSets dcSets pmSets cdSets ctSets ocLess kVLess dcLess pmLess cdLess ctLess ocMany kVMany dcMany pmMany cdMany ctMany ocBE kVBE dcBE pmBE cdBE ctBE ocTell kVTell dcTell pmTell cdTell ctTell ocStr kVStr dcStr pmStr cdStr ctStr ocEar kVEar dcEar pmEar cdEar ctEar ocBL kVBL dcBL pmBL cdBL ctBL ocTT kVTT dcTT pmTT cdTT ctTT ocOpn kVOpn dcOpn pmOpn cdOpn ctOpn ocAll kVAll dcAll pmAll cdAll ctAll ocTO kVTO dcTO pmTO cdTO ctTO ocOL kVOL dcOL pmOL cdOL ctOL ocFC kVFC dcFC pmFC cdFC ctFC ocRo kVRo dcRo pmRo cdRo ctRo ocNums kVNums dcNums pmNums cdNums ctNums ocAP kVAP dcAP pmAP cdAP ctAP ocTh kVTh dcTh pmTh cdTh ctTh ocIs kVIs dcIs pmIs cdIs ctIs ocOv kVOv dcOv pmOv cdOv ctOv ocUn kVUn dcUn pmUn cdUn ctUn ocAre kVAre dcAre pmAre cdAre ctAre ocApt kVApt dcApt pmApt cdApt ctApt ocTo kVTo dcTo pmTo cdTo ctTo ocAS kVAS dcAS pmAS cdAS ctAS ocAt kVAt dcAt pmAt cdAt ctAt ocLo kVLo dcLo pmLo cdLo ctLo ocFo kVFo dcFo pmFo cdFo ctFo ocCr kVCr dcCr pmCr cdCr ctCr ocTu kVTu dcTu pmTu cdTu ctTu ocHow kVHow dcHow pmHow cdHow ctHow ocCa kVCa dcCa pmCa cdCa ctCa ocMain kVMain dcMain pmMain cdMain ctMain ocInit kVInit dcInit pmInit cdInit ctInit : Value} {t_THINGS t_OVER t_UNDO t_TOLD t_STRETCHES t_AT t_LONG t_TWO_AND_TWO t_THREE_AND_ONE t_PAIRS t_CROWD t_TURN t_WRONG t_MISSING t_ALREADY t_FORBIDDEN t_MOST_THINGS t_HIGHEST_END : Tok}
    (aC : PySem.W.nsIn K mainGlobals "Order" = some (some (.ref C)))
    (aInit : PySem.W.findIn K (.ref C) "__init__" = some (some (.ref fInit))) (iInit : PySem.W.isFn K (.ref fInit) = true) (lInit : K.lookup fInit = some ⟨ocInit, odInit, .func (PySem.W.fnOf "__init__" "Order.__init__" (defArgs sInit) (defBody sInit) (defScope sInit) .none kVInit dcInit pmInit anInit cdInit ctInit), slInit⟩) (cInit : PySem.W.codeIn K cdInit "Order.__init__" = true) (kInit : PySem.W.keepIn K (.ref fInit) = true)
    (aOver : PySem.W.nsIn K mainGlobals "over_before" = some (some (.ref fOver))) (lOver : K.lookup fOver = some ⟨ocOver, odOver, .func (PySem.W.fnOf "over_before" "over_before" (defArgs sOver) (defBody sOver) (defScope sOver) .none kVOver dcOver pmOver anOver cdOver ctOver), slOver⟩) (cOver : PySem.W.codeIn K cdOver "over_before" = true) (kOver : PySem.W.keepIn K (.ref fOver) = true)
    (aPairs : PySem.W.nsIn K mainGlobals "pairs_over" = some (some (.ref fPairs))) (lPairs : K.lookup fPairs = some ⟨ocPairs, odPairs, .func (PySem.W.fnOf "pairs_over" "pairs_over" (defArgs sPairs) (defBody sPairs) (defScope sPairs) .none kVPairs dcPairs pmPairs anPairs cdPairs ctPairs), slPairs⟩) (cPairs : PySem.W.codeIn K cdPairs "pairs_over" = true) (kPairs : PySem.W.keepIn K (.ref fPairs) = true)
    (aBef : PySem.W.nsIn K mainGlobals "all_before" = some (some (.ref fBef))) (lBef : K.lookup fBef = some ⟨ocBef, odBef, .func (PySem.W.fnOf "all_before" "all_before" (defArgs sBef) (defBody sBef) (defScope sBef) .none kVBef dcBef pmBef anBef cdBef ctBef), slBef⟩) (cBef : PySem.W.codeIn K cdBef "all_before" = true) (kBef : PySem.W.keepIn K (.ref fBef) = true)
    (aSets : PySem.W.nsIn K mainGlobals "sets_before" = some (some (.ref fSets))) (lSets : K.lookup fSets = some ⟨ocSets, odSets, .func (PySem.W.fnOf "sets_before" "sets_before" (defArgs sSets) (defBody sSets) (defScope sSets) .none kVSets dcSets pmSets anSets cdSets ctSets), slSets⟩) (cSets : PySem.W.codeIn K cdSets "sets_before" = true) (kSets : PySem.W.keepIn K (.ref fSets) = true)
    (aLess : PySem.W.nsIn K mainGlobals "is_less" = some (some (.ref fLess))) (lLess : K.lookup fLess = some ⟨ocLess, odLess, .func (PySem.W.fnOf "is_less" "is_less" (defArgs sLess) (defBody sLess) (defScope sLess) .none kVLess dcLess pmLess anLess cdLess ctLess), slLess⟩) (cLess : PySem.W.codeIn K cdLess "is_less" = true) (kLess : PySem.W.keepIn K (.ref fLess) = true)
    (aMany : PySem.W.nsIn K mainGlobals "how_many_moments" = some (some (.ref fMany))) (lMany : K.lookup fMany = some ⟨ocMany, odMany, .func (PySem.W.fnOf "how_many_moments" "how_many_moments" (defArgs sMany) (defBody sMany) (defScope sMany) .none kVMany dcMany pmMany anMany cdMany ctMany), slMany⟩) (cMany : PySem.W.codeIn K cdMany "how_many_moments" = true) (kMany : PySem.W.keepIn K (.ref fMany) = true)
    (aBE : PySem.W.nsIn K mainGlobals "begins_and_ends" = some (some (.ref fBE))) (lBE : K.lookup fBE = some ⟨ocBE, odBE, .func (PySem.W.fnOf "begins_and_ends" "begins_and_ends" (defArgs sBE) (defBody sBE) (defScope sBE) .none kVBE dcBE pmBE anBE cdBE ctBE), slBE⟩) (cBE : PySem.W.codeIn K cdBE "begins_and_ends" = true) (kBE : PySem.W.keepIn K (.ref fBE) = true)
    (aTell : PySem.W.nsIn K mainGlobals "do_tell" = some (some (.ref fTell))) (lTell : K.lookup fTell = some ⟨ocTell, odTell, .func (PySem.W.fnOf "do_tell" "do_tell" (defArgs sTell) (defBody sTell) (defScope sTell) .none kVTell dcTell pmTell anTell cdTell ctTell), slTell⟩) (cTell : PySem.W.codeIn K cdTell "do_tell" = true) (kTell : PySem.W.keepIn K (.ref fTell) = true)
    (aStr : PySem.W.nsIn K mainGlobals "stretches_told" = some (some (.ref fStr))) (lStr : K.lookup fStr = some ⟨ocStr, odStr, .func (PySem.W.fnOf "stretches_told" "stretches_told" (defArgs sStr) (defBody sStr) (defScope sStr) .none kVStr dcStr pmStr anStr cdStr ctStr), slStr⟩) (cStr : PySem.W.codeIn K cdStr "stretches_told" = true) (kStr : PySem.W.keepIn K (.ref fStr) = true)
    (aEar : PySem.W.nsIn K mainGlobals "earliest_begin" = some (some (.ref fEar))) (lEar : K.lookup fEar = some ⟨ocEar, odEar, .func (PySem.W.fnOf "earliest_begin" "earliest_begin" (defArgs sEar) (defBody sEar) (defScope sEar) .none kVEar dcEar pmEar anEar cdEar ctEar), slEar⟩) (cEar : PySem.W.codeIn K cdEar "earliest_begin" = true) (kEar : PySem.W.keepIn K (.ref fEar) = true)
    (aBL : PySem.W.nsIn K mainGlobals "begins_all_as_long" = some (some (.ref fBL))) (lBL : K.lookup fBL = some ⟨ocBL, odBL, .func (PySem.W.fnOf "begins_all_as_long" "begins_all_as_long" (defArgs sBL) (defBody sBL) (defScope sBL) .none kVBL dcBL pmBL anBL cdBL ctBL), slBL⟩) (cBL : PySem.W.codeIn K cdBL "begins_all_as_long" = true) (kBL : PySem.W.keepIn K (.ref fBL) = true)
    (aTT : PySem.W.nsIn K mainGlobals "first_two_and_two" = some (some (.ref fTT))) (lTT : K.lookup fTT = some ⟨ocTT, odTT, .func (PySem.W.fnOf "first_two_and_two" "first_two_and_two" (defArgs sTT) (defBody sTT) (defScope sTT) .none kVTT dcTT pmTT anTT cdTT ctTT), slTT⟩) (cTT : PySem.W.codeIn K cdTT "first_two_and_two" = true) (kTT : PySem.W.keepIn K (.ref fTT) = true)
    (aOpn : PySem.W.nsIn K mainGlobals "are_open" = some (some (.ref fOpn))) (lOpn : K.lookup fOpn = some ⟨ocOpn, odOpn, .func (PySem.W.fnOf "are_open" "are_open" (defArgs sOpn) (defBody sOpn) (defScope sOpn) .none kVOpn dcOpn pmOpn anOpn cdOpn ctOpn), slOpn⟩) (cOpn : PySem.W.codeIn K cdOpn "are_open" = true) (kOpn : PySem.W.keepIn K (.ref fOpn) = true)
    (aAll : PySem.W.nsIn K mainGlobals "is_open_to_all" = some (some (.ref fAll))) (lAll : K.lookup fAll = some ⟨ocAll, odAll, .func (PySem.W.fnOf "is_open_to_all" "is_open_to_all" (defArgs sAll) (defBody sAll) (defScope sAll) .none kVAll dcAll pmAll anAll cdAll ctAll), slAll⟩) (cAll : PySem.W.codeIn K cdAll "is_open_to_all" = true) (kAll : PySem.W.keepIn K (.ref fAll) = true)
    (aTO : PySem.W.nsIn K mainGlobals "first_three_and_one" = some (some (.ref fTO))) (lTO : K.lookup fTO = some ⟨ocTO, odTO, .func (PySem.W.fnOf "first_three_and_one" "first_three_and_one" (defArgs sTO) (defBody sTO) (defScope sTO) .none kVTO dcTO pmTO anTO cdTO ctTO), slTO⟩) (cTO : PySem.W.codeIn K cdTO "first_three_and_one" = true) (kTO : PySem.W.keepIn K (.ref fTO) = true)
    (aOL : PySem.W.nsIn K mainGlobals "one_larger" = some (some (.ref fOL))) (lOL : K.lookup fOL = some ⟨ocOL, odOL, .func (PySem.W.fnOf "one_larger" "one_larger" (defArgs sOL) (defBody sOL) (defScope sOL) .none kVOL dcOL pmOL anOL cdOL ctOL), slOL⟩) (cOL : PySem.W.codeIn K cdOL "one_larger" = true) (kOL : PySem.W.keepIn K (.ref fOL) = true)
    (aFC : PySem.W.nsIn K mainGlobals "first_crowd" = some (some (.ref fFC))) (lFC : K.lookup fFC = some ⟨ocFC, odFC, .func (PySem.W.fnOf "first_crowd" "first_crowd" (defArgs sFC) (defBody sFC) (defScope sFC) .none kVFC dcFC pmFC anFC cdFC ctFC), slFC⟩) (cFC : PySem.W.codeIn K cdFC "first_crowd" = true) (kFC : PySem.W.keepIn K (.ref fFC) = true)
    (aRo : PySem.W.nsIn K mainGlobals "rows_of" = some (some (.ref fRo))) (lRo : K.lookup fRo = some ⟨ocRo, odRo, .func (PySem.W.fnOf "rows_of" "rows_of" (defArgs sRows) (defBody sRows) (defScope sRows) .none kVRo dcRo pmRo anRo cdRo ctRo), slRo⟩) (cRo : PySem.W.codeIn K cdRo "rows_of" = true) (kRo : PySem.W.keepIn K (.ref fRo) = true)
    (aNums : PySem.W.nsIn K mainGlobals "with_pairs" = some (some (.ref fNums))) (lNums : K.lookup fNums = some ⟨ocNums, odNums, .func (PySem.W.fnOf "with_pairs" "with_pairs" (defArgs sNums) (defBody sNums) (defScope sNums) .none kVNums dcNums pmNums anNums cdNums ctNums), slNums⟩) (cNums : PySem.W.codeIn K cdNums "with_pairs" = true) (kNums : PySem.W.keepIn K (.ref fNums) = true)
    (aAP : PySem.W.nsIn K mainGlobals "answer_pairs" = some (some (.ref fAP))) (lAP : K.lookup fAP = some ⟨ocAP, odAP, .func (PySem.W.fnOf "answer_pairs" "answer_pairs" (defArgs sAP) (defBody sAP) (defScope sAP) .none kVAP dcAP pmAP anAP cdAP ctAP), slAP⟩) (cAP : PySem.W.codeIn K cdAP "answer_pairs" = true) (kAP : PySem.W.keepIn K (.ref fAP) = true)
    (aTh : PySem.W.nsIn K mainGlobals "answer_things" = some (some (.ref fTh))) (lTh : K.lookup fTh = some ⟨ocTh, odTh, .func (PySem.W.fnOf "answer_things" "answer_things" (defArgs sTh) (defBody sTh) (defScope sTh) .none kVTh dcTh pmTh anTh cdTh ctTh), slTh⟩) (cTh : PySem.W.codeIn K cdTh "answer_things" = true) (kTh : PySem.W.keepIn K (.ref fTh) = true)
    (aIs : PySem.W.nsIn K mainGlobals "is_thing" = some (some (.ref fIs))) (lIs : K.lookup fIs = some ⟨ocIs, odIs, .func (PySem.W.fnOf "is_thing" "is_thing" (defArgs sIs) (defBody sIs) (defScope sIs) .none kVIs dcIs pmIs anIs cdIs ctIs), slIs⟩) (cIs : PySem.W.codeIn K cdIs "is_thing" = true) (kIs : PySem.W.keepIn K (.ref fIs) = true)
    (aOv : PySem.W.nsIn K mainGlobals "answer_over" = some (some (.ref fOv))) (lOv : K.lookup fOv = some ⟨ocOv, odOv, .func (PySem.W.fnOf "answer_over" "answer_over" (defArgs sOv) (defBody sOv) (defScope sOv) .none kVOv dcOv pmOv anOv cdOv ctOv), slOv⟩) (cOv : PySem.W.codeIn K cdOv "answer_over" = true) (kOv : PySem.W.keepIn K (.ref fOv) = true)
    (aUn : PySem.W.nsIn K mainGlobals "answer_undo" = some (some (.ref fUn))) (lUn : K.lookup fUn = some ⟨ocUn, odUn, .func (PySem.W.fnOf "answer_undo" "answer_undo" (defArgs sUn) (defBody sUn) (defScope sUn) .none kVUn dcUn pmUn anUn cdUn ctUn), slUn⟩) (cUn : PySem.W.codeIn K cdUn "answer_undo" = true) (kUn : PySem.W.keepIn K (.ref fUn) = true)
    (aAre : PySem.W.nsIn K mainGlobals "are_stretches" = some (some (.ref fAre))) (lAre : K.lookup fAre = some ⟨ocAre, odAre, .func (PySem.W.fnOf "are_stretches" "are_stretches" (defArgs sAre) (defBody sAre) (defScope sAre) .none kVAre dcAre pmAre anAre cdAre ctAre), slAre⟩) (cAre : PySem.W.codeIn K cdAre "are_stretches" = true) (kAre : PySem.W.keepIn K (.ref fAre) = true)
    (aApt : PySem.W.nsIn K mainGlobals "pairs_apart" = some (some (.ref fApt))) (lApt : K.lookup fApt = some ⟨ocApt, odApt, .func (PySem.W.fnOf "pairs_apart" "pairs_apart" (defArgs sAp) (defBody sAp) (defScope sAp) .none kVApt dcApt pmApt anApt cdApt ctApt), slApt⟩) (cApt : PySem.W.codeIn K cdApt "pairs_apart" = true) (kApt : PySem.W.keepIn K (.ref fApt) = true)
    (aTo : PySem.W.nsIn K mainGlobals "answer_told" = some (some (.ref fTo))) (lTo : K.lookup fTo = some ⟨ocTo, odTo, .func (PySem.W.fnOf "answer_told" "answer_told" (defArgs sTo) (defBody sTo) (defScope sTo) .none kVTo dcTo pmTo anTo cdTo ctTo), slTo⟩) (cTo : PySem.W.codeIn K cdTo "answer_told" = true) (kTo : PySem.W.keepIn K (.ref fTo) = true)
    (aAS : PySem.W.nsIn K mainGlobals "answer_stretches" = some (some (.ref fAS))) (lAS : K.lookup fAS = some ⟨ocAS, odAS, .func (PySem.W.fnOf "answer_stretches" "answer_stretches" (defArgs sAS) (defBody sAS) (defScope sAS) .none kVAS dcAS pmAS anAS cdAS ctAS), slAS⟩) (cAS : PySem.W.codeIn K cdAS "answer_stretches" = true) (kAS : PySem.W.keepIn K (.ref fAS) = true)
    (aAt : PySem.W.nsIn K mainGlobals "answer_at" = some (some (.ref fAt))) (lAt : K.lookup fAt = some ⟨ocAt, odAt, .func (PySem.W.fnOf "answer_at" "answer_at" (defArgs sAt) (defBody sAt) (defScope sAt) .none kVAt dcAt pmAt anAt cdAt ctAt), slAt⟩) (cAt : PySem.W.codeIn K cdAt "answer_at" = true) (kAt : PySem.W.keepIn K (.ref fAt) = true)
    (aLo : PySem.W.nsIn K mainGlobals "answer_long" = some (some (.ref fLo))) (lLo : K.lookup fLo = some ⟨ocLo, odLo, .func (PySem.W.fnOf "answer_long" "answer_long" (defArgs sLo) (defBody sLo) (defScope sLo) .none kVLo dcLo pmLo anLo cdLo ctLo), slLo⟩) (cLo : PySem.W.codeIn K cdLo "answer_long" = true) (kLo : PySem.W.keepIn K (.ref fLo) = true)
    (aFo : PySem.W.nsIn K mainGlobals "answer_four" = some (some (.ref fFo))) (lFo : K.lookup fFo = some ⟨ocFo, odFo, .func (PySem.W.fnOf "answer_four" "answer_four" (defArgs sFo) (defBody sFo) (defScope sFo) .none kVFo dcFo pmFo anFo cdFo ctFo), slFo⟩) (cFo : PySem.W.codeIn K cdFo "answer_four" = true) (kFo : PySem.W.keepIn K (.ref fFo) = true)
    (aCr : PySem.W.nsIn K mainGlobals "answer_crowd" = some (some (.ref fCr))) (lCr : K.lookup fCr = some ⟨ocCr, odCr, .func (PySem.W.fnOf "answer_crowd" "answer_crowd" (defArgs sCr) (defBody sCr) (defScope sCr) .none kVCr dcCr pmCr anCr cdCr ctCr), slCr⟩) (cCr : PySem.W.codeIn K cdCr "answer_crowd" = true) (kCr : PySem.W.keepIn K (.ref fCr) = true)
    (aTu : PySem.W.nsIn K mainGlobals "answer_turn" = some (some (.ref fTu))) (lTu : K.lookup fTu = some ⟨ocTu, odTu, .func (PySem.W.fnOf "answer_turn" "answer_turn" (defArgs sTu) (defBody sTu) (defScope sTu) .none kVTu dcTu pmTu anTu cdTu ctTu), slTu⟩) (cTu : PySem.W.codeIn K cdTu "answer_turn" = true) (kTu : PySem.W.keepIn K (.ref fTu) = true)
    (aHow : PySem.W.nsIn K mainGlobals "how_many_numbers" = some (some (.ref fHow))) (lHow : K.lookup fHow = some ⟨ocHow, odHow, .func (PySem.W.fnOf "how_many_numbers" "how_many_numbers" (defArgs sHow) (defBody sHow) (defScope sHow) .none kVHow dcHow pmHow anHow cdHow ctHow), slHow⟩) (cHow : PySem.W.codeIn K cdHow "how_many_numbers" = true) (kHow : PySem.W.keepIn K (.ref fHow) = true)
    (aCa : PySem.W.nsIn K mainGlobals "answer_call" = some (some (.ref fCa))) (lCa : K.lookup fCa = some ⟨ocCa, odCa, .func (PySem.W.fnOf "answer_call" "answer_call" (defArgs sCa) (defBody sCa) (defScope sCa) .none kVCa dcCa pmCa anCa cdCa ctCa), slCa⟩) (cCa : PySem.W.codeIn K cdCa "answer_call" = true) (kCa : PySem.W.keepIn K (.ref fCa) = true)
    (aMain : PySem.W.nsIn K mainGlobals "answers" = some (some (.ref fMain))) (lMain : K.lookup fMain = some ⟨ocMain, odMain, .func (PySem.W.fnOf "answers" "answers" (defArgs sMain) (defBody sMain) (defScope sMain) .none kVMain dcMain pmMain anMain cdMain ctMain), slMain⟩) (cMain : PySem.W.codeIn K cdMain "answers" = true) (kMain : PySem.W.keepIn K (.ref fMain) = true)
    (n_THINGS : PySem.W.nsIn K mainGlobals "THINGS" = some (some (.int 0 t_THINGS)))
    (n_OVER : PySem.W.nsIn K mainGlobals "OVER" = some (some (.int 1 t_OVER)))
    (n_UNDO : PySem.W.nsIn K mainGlobals "UNDO" = some (some (.int 2 t_UNDO)))
    (n_TOLD : PySem.W.nsIn K mainGlobals "TOLD" = some (some (.int 3 t_TOLD)))
    (n_STRETCHES : PySem.W.nsIn K mainGlobals "STRETCHES" = some (some (.int 4 t_STRETCHES)))
    (n_AT : PySem.W.nsIn K mainGlobals "AT" = some (some (.int 5 t_AT)))
    (n_LONG : PySem.W.nsIn K mainGlobals "LONG" = some (some (.int 6 t_LONG)))
    (n_TWO_AND_TWO : PySem.W.nsIn K mainGlobals "TWO_AND_TWO" = some (some (.int 7 t_TWO_AND_TWO)))
    (n_THREE_AND_ONE : PySem.W.nsIn K mainGlobals "THREE_AND_ONE" = some (some (.int 8 t_THREE_AND_ONE)))
    (n_PAIRS : PySem.W.nsIn K mainGlobals "PAIRS" = some (some (.int 9 t_PAIRS)))
    (n_CROWD : PySem.W.nsIn K mainGlobals "CROWD" = some (some (.int 10 t_CROWD)))
    (n_TURN : PySem.W.nsIn K mainGlobals "TURN" = some (some (.int 11 t_TURN)))
    (n_WRONG : PySem.W.nsIn K mainGlobals "WRONG" = some (some (.int (-1) t_WRONG)))
    (n_MISSING : PySem.W.nsIn K mainGlobals "MISSING" = some (some (.int (-3) t_MISSING)))
    (n_ALREADY : PySem.W.nsIn K mainGlobals "ALREADY" = some (some (.int (-4) t_ALREADY)))
    (n_FORBIDDEN : PySem.W.nsIn K mainGlobals "FORBIDDEN" = some (some (.int (-6) t_FORBIDDEN)))
    (n_MOST_THINGS : PySem.W.nsIn K mainGlobals "MOST_THINGS" = some (some (.int 8 t_MOST_THINGS)))
    (n_HIGHEST_END : PySem.W.nsIn K mainGlobals "HIGHEST_END" = some (some (.int 100000 t_HIGHEST_END)))
    (b_len : PySem.W.nsIn K mainGlobals "len" = some none)
    (b_range : PySem.W.nsIn K mainGlobals "range" = some none)
    (b_max : PySem.W.nsIn K mainGlobals "max" = some none)
    (b_all : PySem.W.nsIn K mainGlobals "all" = some none)
    (b_enumerate : PySem.W.nsIn K mainGlobals "enumerate" = some none)
    (pg : PySem.W.plainGet K C Str.empty = true) (hd : PySem.W.hasDictIn K C = true) (po : PySem.W.plainOver K C = true) (sa : PySem.W.findIn K (.ref C) "__setattr__" = some (some (.builtin "object.__setattr__"))) (mk : PySem.W.makesIn K C = true) (kc : PySem.W.keepIn K (.ref C) = true)
    (nS : PySem.W.findIn K (.ref C) "size" = some none) (nT : PySem.W.findIn K (.ref C) "told" = some none) :
    ∃ fd : FuncData, (∀ (s : Shared) (us : List Value), us.length = (["calls"] : List Str).length → BindsTo s fd ⟨us, []⟩ ((["calls"] : List Str).zip us)) ∧ ∀ base : Heap, K.In base → base.Ns mainGlobals mg → FnOk P w K mg base CX0 7 fa fd ["calls"] (spMain K) := by
  have e := hfa.symm.trans (PySem.W.mg_of X G aMain)
  cases e
  have T : Txt K C := ⟨⟨pg, hd, po, sa⟩, nS, nT⟩
  have FOver := fun_mk (st := sOver) lOver cOver kOver
  have BOver := FOver.binds (ps := ["size", "told"]) fun _ _ _ _ _ _ us hl => match us, hl with | [_, _], _ => rfl
  have gOver := PySem.W.mg_of X G aOver
  have FPairs := fun_mk (st := sPairs) lPairs cPairs kPairs
  have BPairs := FPairs.binds (ps := ["over"]) fun _ _ _ _ _ _ us hl => match us, hl with | [_], _ => rfl
  have gPairs := PySem.W.mg_of X G aPairs
  have FBef := fun_mk (st := sBef) lBef cBef kBef
  have BBef := FBef.binds (ps := ["over", "thing"]) fun _ _ _ _ _ _ us hl => match us, hl with | [_, _], _ => rfl
  have gBef := PySem.W.mg_of X G aBef
  have FSets := fun_mk (st := sSets) lSets cSets kSets
  have BSets := FSets.binds (ps := ["over"]) fun _ _ _ _ _ _ us hl => match us, hl with | [_], _ => rfl
  have gSets := PySem.W.mg_of X G aSets
  have FLess := fun_mk (st := sLess) lLess cLess kLess
  have BLess := FLess.binds (ps := ["one", "other"]) fun _ _ _ _ _ _ us hl => match us, hl with | [_, _], _ => rfl
  have gLess := PySem.W.mg_of X G aLess
  have FMany := fun_mk (st := sMany) lMany cMany kMany
  have BMany := FMany.binds (ps := ["over"]) fun _ _ _ _ _ _ us hl => match us, hl with | [_], _ => rfl
  have gMany := PySem.W.mg_of X G aMany
  have FBE := fun_mk (st := sBE) lBE cBE kBE
  have BBE := FBE.binds (ps := ["over"]) fun _ _ _ _ _ _ us hl => match us, hl with | [_], _ => rfl
  have gBE := PySem.W.mg_of X G aBE
  have FTell := fun_mk (st := sTell) lTell cTell kTell
  have BTell := FTell.binds (ps := ["spans", "over"]) fun _ _ _ _ _ _ us hl => match us, hl with | [_, _], _ => rfl
  have gTell := PySem.W.mg_of X G aTell
  have FStr := fun_mk (st := sStr) lStr cStr kStr
  have BStr := FStr.binds (ps := ["over"]) fun _ _ _ _ _ _ us hl => match us, hl with | [_], _ => rfl
  have gStr := PySem.W.mg_of X G aStr
  have FEar := fun_mk (st := sEar) lEar cEar kEar
  have BEar := FEar.binds (ps := ["over", "begins", "thing"]) fun _ _ _ _ _ _ us hl => match us, hl with | [_, _, _], _ => rfl
  have gEar := PySem.W.mg_of X G aEar
  have FBL := fun_mk (st := sBL) lBL cBL kBL
  have BBL := FBL.binds (ps := ["over"]) fun _ _ _ _ _ _ us hl => match us, hl with | [_], _ => rfl
  have gBL := PySem.W.mg_of X G aBL
  have FTT := fun_mk (st := sTT) lTT cTT kTT
  have BTT := FTT.binds (ps := ["over"]) fun _ _ _ _ _ _ us hl => match us, hl with | [_], _ => rfl
  have gTT := PySem.W.mg_of X G aTT
  have FOpn := fun_mk (st := sOpn) lOpn cOpn kOpn
  have BOpn := FOpn.binds (ps := ["over", "x", "y"]) fun _ _ _ _ _ _ us hl => match us, hl with | [_, _, _], _ => rfl
  have gOpn := PySem.W.mg_of X G aOpn
  have FAll := fun_mk (st := sAll) lAll cAll kAll
  have BAll := FAll.binds (ps := ["over", "thing", "others"]) fun _ _ _ _ _ _ us hl => match us, hl with | [_, _, _], _ => rfl
  have gAll := PySem.W.mg_of X G aAll
  have FTO := fun_mk (st := sTO) lTO cTO kTO
  have BTO := FTO.binds (ps := ["over"]) fun _ _ _ _ _ _ us hl => match us, hl with | [_], _ => rfl
  have gTO := PySem.W.mg_of X G aTO
  have FOL := fun_mk (st := sOL) lOL cOL kOL
  have BOL := FOL.binds (ps := ["over", "crowds"]) fun _ _ _ _ _ _ us hl => match us, hl with | [_, _], _ => rfl
  have gOL := PySem.W.mg_of X G aOL
  have FFC := fun_mk (st := sFC) lFC cFC kFC
  have BFC := FFC.binds (ps := ["over"]) fun _ _ _ _ _ _ us hl => match us, hl with | [_], _ => rfl
  have gFC := PySem.W.mg_of X G aFC
  have FRo := fun_mk (st := sRows) lRo cRo kRo
  have BRo := FRo.binds (ps := ["order"]) fun _ _ _ _ _ _ us hl => match us, hl with | [_], _ => rfl
  have gRo := PySem.W.mg_of X G aRo
  have FNums := fun_mk (st := sNums) lNums cNums kNums
  have BNums := FNums.binds (ps := ["first", "pairs"]) fun _ _ _ _ _ _ us hl => match us, hl with | [_, _], _ => rfl
  have gNums := PySem.W.mg_of X G aNums
  have FAP := fun_mk (st := sAP) lAP cAP kAP
  have BAP := FAP.binds (ps := ["order"]) fun _ _ _ _ _ _ us hl => match us, hl with | [_], _ => rfl
  have gAP := PySem.W.mg_of X G aAP
  have FTh := fun_mk (st := sTh) lTh cTh kTh
  have BTh := FTh.binds (ps := ["order", "size"]) fun _ _ _ _ _ _ us hl => match us, hl with | [_, _], _ => rfl
  have gTh := PySem.W.mg_of X G aTh
  have FIs := fun_mk (st := sIs) lIs cIs kIs
  have BIs := FIs.binds (ps := ["order", "number"]) fun _ _ _ _ _ _ us hl => match us, hl with | [_, _], _ => rfl
  have gIs := PySem.W.mg_of X G aIs
  have FOv := fun_mk (st := sOv) lOv cOv kOv
  have BOv := FOv.binds (ps := ["order", "x", "y"]) fun _ _ _ _ _ _ us hl => match us, hl with | [_, _, _], _ => rfl
  have gOv := PySem.W.mg_of X G aOv
  have FUn := fun_mk (st := sUn) lUn cUn kUn
  have BUn := FUn.binds (ps := ["order"]) fun _ _ _ _ _ _ us hl => match us, hl with | [_], _ => rfl
  have gUn := PySem.W.mg_of X G aUn
  have FAre := fun_mk (st := sAre) lAre cAre kAre
  have BAre := FAre.binds (ps := ["ends"]) fun _ _ _ _ _ _ us hl => match us, hl with | [_], _ => rfl
  have gAre := PySem.W.mg_of X G aAre
  have FApt := fun_mk (st := sAp) lApt cApt kApt
  have BApt := FApt.binds (ps := ["ends"]) fun _ _ _ _ _ _ us hl => match us, hl with | [_], _ => rfl
  have gApt := PySem.W.mg_of X G aApt
  have FTo := fun_mk (st := sTo) lTo cTo kTo
  have BTo := FTo.binds (ps := ["order", "ends"]) fun _ _ _ _ _ _ us hl => match us, hl with | [_, _], _ => rfl
  have gTo := PySem.W.mg_of X G aTo
  have FAS := fun_mk (st := sAS) lAS cAS kAS
  have BAS := FAS.binds (ps := ["order"]) fun _ _ _ _ _ _ us hl => match us, hl with | [_], _ => rfl
  have gAS := PySem.W.mg_of X G aAS
  have FAt := fun_mk (st := sAt) lAt cAt kAt
  have BAt := FAt.binds (ps := ["order", "moment"]) fun _ _ _ _ _ _ us hl => match us, hl with | [_, _], _ => rfl
  have gAt := PySem.W.mg_of X G aAt
  have FLo := fun_mk (st := sLo) lLo cLo kLo
  have BLo := FLo.binds (ps := ["order"]) fun _ _ _ _ _ _ us hl => match us, hl with | [_], _ => rfl
  have gLo := PySem.W.mg_of X G aLo
  have FFo := fun_mk (st := sFo) lFo cFo kFo
  have BFo := FFo.binds (ps := ["four"]) fun _ _ _ _ _ _ us hl => match us, hl with | [_], _ => rfl
  have gFo := PySem.W.mg_of X G aFo
  have FCr := fun_mk (st := sCr) lCr cCr kCr
  have BCr := FCr.binds (ps := ["order"]) fun _ _ _ _ _ _ us hl => match us, hl with | [_], _ => rfl
  have gCr := PySem.W.mg_of X G aCr
  have FTu := fun_mk (st := sTu) lTu cTu kTu
  have BTu := FTu.binds (ps := ["order"]) fun _ _ _ _ _ _ us hl => match us, hl with | [_], _ => rfl
  have gTu := PySem.W.mg_of X G aTu
  have FHow := fun_mk (st := sHow) lHow cHow kHow
  have BHow := FHow.binds (ps := ["calls", "place"]) fun _ _ _ _ _ _ us hl => match us, hl with | [_, _], _ => rfl
  have gHow := PySem.W.mg_of X G aHow
  have FCa := fun_mk (st := sCa) lCa cCa kCa
  have BCa := FCa.binds (ps := ["order", "call", "numbers"]) fun _ _ _ _ _ _ us hl => match us, hl with | [_, _, _], _ => rfl
  have gCa := PySem.W.mg_of X G aCa
  have FMain := fun_mk (st := sMain) lMain cMain kMain
  have FInit := fun_mk (st := sInit) lInit cInit kInit
  have BInit := FInit.binds (ps := ["self"]) fun _ _ _ _ _ _ us hl => match us, hl with | [_], _ => rfl
  have gC := PySem.W.mg_of X G aC
  have g_THINGS := PySem.W.mg_of X G n_THINGS
  have g_OVER := PySem.W.mg_of X G n_OVER
  have g_UNDO := PySem.W.mg_of X G n_UNDO
  have g_TOLD := PySem.W.mg_of X G n_TOLD
  have g_STRETCHES := PySem.W.mg_of X G n_STRETCHES
  have g_AT := PySem.W.mg_of X G n_AT
  have g_LONG := PySem.W.mg_of X G n_LONG
  have g_TWO_AND_TWO := PySem.W.mg_of X G n_TWO_AND_TWO
  have g_THREE_AND_ONE := PySem.W.mg_of X G n_THREE_AND_ONE
  have g_PAIRS := PySem.W.mg_of X G n_PAIRS
  have g_CROWD := PySem.W.mg_of X G n_CROWD
  have g_TURN := PySem.W.mg_of X G n_TURN
  have g_WRONG := PySem.W.mg_of X G n_WRONG
  have g_MISSING := PySem.W.mg_of X G n_MISSING
  have g_ALREADY := PySem.W.mg_of X G n_ALREADY
  have g_FORBIDDEN := PySem.W.mg_of X G n_FORBIDDEN
  have g_MOST_THINGS := PySem.W.mg_of X G n_MOST_THINGS
  have g_HIGHEST_END := PySem.W.mg_of X G n_HIGHEST_END
  have m_len := PySem.W.mg_none_of X G b_len
  have m_range := PySem.W.mg_none_of X G b_range
  have m_max := PySem.W.mg_none_of X G b_max
  have m_all := PySem.W.mg_none_of X G b_all
  have m_enumerate := PySem.W.mg_none_of X G b_enumerate
  refine ⟨PySem.W.fnOf "answers" "answers" (defArgs sMain) (defBody sMain) (defScope sMain) .none kVMain dcMain pmMain anMain cdMain ctMain, fun s us hu => match us, hu with | [_], _ => .of_eq rfl, fun base _ _ => ?_⟩
  have GOver : FnOk P w K mg base CX0 1 fOver _ ["size", "told"] spOver := ok_over (k := 0) FOver m_range
  have GPairs : FnOk P w K mg base CX0 1 fPairs _ ["over"] spPairs := ok_pairs (k := 0) FPairs m_len m_range
  have GBef : FnOk P w K mg base CX0 1 fBef _ ["over", "thing"] spBef := ok_bef (k := 0) FBef m_len m_range
  have GSets : FnOk P w K mg base CX0 2 fSets _ ["over"] spSets := ok_sets (k := 0) FSets FBef BBef gBef m_len m_range
  have GLess : FnOk P w K mg base CX0 1 fLess _ ["one", "other"] (spLess K) := ok_less (k := 0) FLess m_len m_all
  have GMany : FnOk P w K mg base CX0 3 fMany _ ["over"] spMany := ok_many (k := 1) FMany GSets kSets BSets gSets m_len
  have GBE : FnOk P w K mg base CX0 3 fBE _ ["over"] spBE := ok_be (k := 0) FBE GSets kSets BSets gSets GBef kBef BBef gBef GLess kLess BLess gLess m_len m_range
  have GTell : FnOk P w K mg base CX0 1 fTell _ ["spans", "over"] spTell := ok_tell (k := 0) FTell m_enumerate
  have GStr : FnOk P w K mg base CX0 4 fStr _ ["over"] spStr := ok_str (k := 0) FStr GBE kBE BBE gBE GTell kTell BTell gTell
  have GEar : FnOk P w K mg base CX0 1 fEar _ ["over", "begins", "thing"] (spEar K) := ok_ear (k := 0) FEar m_len m_range m_max
  have GBL : FnOk P w K mg base CX0 2 fBL _ ["over"] spBL := ok_bl (k := 0) FBL GEar kEar BEar gEar m_len m_range
  have GTT : FnOk P w K mg base CX0 2 fTT _ ["over"] spTT := ok_tt (k := 0) FTT GPairs kPairs BPairs gPairs
  have GOpn : FnOk P w K mg base CX0 1 fOpn _ ["over", "x", "y"] spOpn := ok_opn (k := 0) FOpn
  have GAll : FnOk P w K mg base CX0 2 fAll _ ["over", "thing", "others"] (spAll K) := ok_all (k := 0) FAll GOpn kOpn BOpn gOpn m_all
  have GTO : FnOk P w K mg base CX0 3 fTO _ ["over"] spTO := ok_to1 (k := 0) FTO GPairs kPairs BPairs gPairs GAll kAll BAll gAll m_len m_range
  have GOL : FnOk P w K mg base CX0 3 fOL _ ["over", "crowds"] spOL := ok_ol (k := 1) FOL GAll kAll BAll gAll m_len m_range
  have GFC : FnOk P w K mg base CX0 4 fFC _ ["over"] spFC := ok_fc (k := 2) FFC GOL kOL BOL gOL m_len m_range
  have GRo : FnOk P w K mg base CX0 2 fRo _ ["order"] (spRows C) := ok_rows (k := 0) FRo T GOver kOver BOver gOver
  have GNums : FnOk P w K mg base CX0 1 fNums _ ["first", "pairs"] spNums := ok_nums (k := 0) FNums
  have GAP : FnOk P w K mg base CX0 3 fAP _ ["order"] (spAP C) := ok_ap2 (k := 0) FAP GRo kRo BRo gRo GPairs kPairs BPairs gPairs GNums kNums BNums gNums m_len
  have GTh : FnOk P w K mg base CX0 1 fTh _ ["order", "size"] (spTh C) := ok_th (k := 0) FTh T g_MOST_THINGS g_WRONG
  have GIs : FnOk P w K mg base CX0 1 fIs _ ["order", "number"] (spIs C) := ok_is (k := 0) FIs T
  have GOv : FnOk P w K mg base CX0 3 fOv _ ["order", "x", "y"] (spOv C) := ok_ov (k := 0) FOv T GIs kIs BIs gIs GRo kRo BRo gRo GPairs kPairs BPairs gPairs m_len g_WRONG g_ALREADY g_FORBIDDEN
  have GUn : FnOk P w K mg base CX0 1 fUn _ ["order"] (spUn C) := ok_un (k := 0) FUn T m_len g_MISSING
  have GAre : FnOk P w K mg base CX0 1 fAre _ ["ends"] (spAre K) := ok_are (k := 0) FAre m_len m_max m_range g_MOST_THINGS g_HIGHEST_END
  have GApt : FnOk P w K mg base CX0 1 fApt _ ["ends"] (spAp K) := ok_ap (k := 0) FApt m_len m_range
  have GTo : FnOk P w K mg base CX0 4 fTo _ ["order", "ends"] (spTo C) := ok_to (k := 0) FTo T GAre kAre BAre gAre GApt kApt BApt gApt GAP kAP BAP gAP m_len g_WRONG
  have GAS : FnOk P w K mg base CX0 5 fAS _ ["order"] (spAS C) := ok_as (k := 0) FAS GRo kRo BRo gRo GStr kStr BStr gStr GMany kMany BMany gMany GNums kNums BNums gNums g_FORBIDDEN
  have GAt : FnOk P w K mg base CX0 5 fAt _ ["order", "moment"] (spAt C) := ok_at (k := 0) FAt GRo kRo BRo gRo GStr kStr BStr gStr GMany kMany BMany gMany g_FORBIDDEN g_MISSING m_len m_enumerate
  have GLo : FnOk P w K mg base CX0 3 fLo _ ["order"] (spLo C) := ok_lo (k := 0) FLo GRo kRo BRo gRo GBL kBL BBL gBL g_FORBIDDEN
  have GFo : FnOk P w K mg base CX0 1 fFo _ ["four"] spFo := ok_fo (k := 0) FFo g_MISSING
  have GCr : FnOk P w K mg base CX0 5 fCr _ ["order"] (spCr C) := ok_cr (k := 0) FCr GRo kRo BRo gRo GFC kFC BFC gFC m_len
  have GTu : FnOk P w K mg base CX0 4 fTu _ ["order"] (spTu C) := ok_tu (k := 0) FTu T GAP kAP BAP gAP
  have GHow : FnOk P w K mg base CX0 1 fHow _ ["calls", "place"] (spHow K) := ok_how (k := 0) FHow g_TOLD g_OVER g_THINGS g_AT
  have GInit : FnOk P w K mg base CX0 1 fInit _ ["self"] (spInit C) := ok_init (k := 0) FInit T
  have GCa : FnOk P w K mg base CX0 6 fCa _ ["order", "call", "numbers"] (spCall C) := ok_call FCa GTh kTh BTh gTh GOv kOv BOv gOv GUn kUn BUn gUn GTo kTo BTo gTo GAS kAS BAS gAS GAt kAt BAt gAt GLo kLo BLo gLo GRo kRo BRo gRo GTT kTT BTT gTT GTO kTO BTO gTO GFo kFo BFo gFo GAP kAP BAP gAP GCr kCr BCr gCr GTu kTu BTu gTu g_THINGS g_OVER g_UNDO g_TOLD g_STRETCHES g_AT g_LONG g_TWO_AND_TWO g_THREE_AND_ONE g_PAIRS g_CROWD g_TURN
  exact ok_main (k := 4) FMain T ⟨mk, aInit, iInit, kc⟩ GInit BInit gC GHow kHow BHow gHow GCa kCa BCa gCa m_len g_TOLD
end Stt
set_option Elab.async false
set_option linter.all false
open PySem PySem.W PyProof.Rows
set_option maxRecDepth 100000 in
set_option maxHeartbeats 0 in
theorem PySem.Challenge.cw_stretches_s01_answers_holds : PySem.Challenge.rw_stretches_s01_answers.Holds := by
  w_on; k_headS; (case hw => exact ⟨[.list [.int 4]], by decide +kernel, by decide +kernel⟩)
  k_fillS
  refine L2.walk_specK (r := PySem.Challenge.rw_stretches_s01_answers) (k := 7) (CX := L2.CX0) (ps := ["calls"]) (sp := Stt.spMain) (by decide +kernel) rfl rfl ⟨rfl, by decide, by decide⟩ (fun w h Y => PySem.W.kIn_of Y) ?F ?S (fun _ _ _ _ z => z)
  case F =>
    intro w mg fa h Y KX G hmg
    refine' Stt.all_mk KX G hmg ?aC ?aInit ?iInit ?lInit ?cInit ?kInit ?aOver ?lOver ?cOver ?kOver ?aPairs ?lPairs ?cPairs ?kPairs ?aBef ?lBef ?cBef ?kBef ?aSets ?lSets ?cSets ?kSets ?aLess ?lLess ?cLess ?kLess ?aMany ?lMany ?cMany ?kMany ?aBE ?lBE ?cBE ?kBE ?aTell ?lTell ?cTell ?kTell ?aStr ?lStr ?cStr ?kStr ?aEar ?lEar ?cEar ?kEar ?aBL ?lBL ?cBL ?kBL ?aTT ?lTT ?cTT ?kTT ?aOpn ?lOpn ?cOpn ?kOpn ?aAll ?lAll ?cAll ?kAll ?aTO ?lTO ?cTO ?kTO ?aOL ?lOL ?cOL ?kOL ?aFC ?lFC ?cFC ?kFC ?aRo ?lRo ?cRo ?kRo ?aNums ?lNums ?cNums ?kNums ?aAP ?lAP ?cAP ?kAP ?aTh ?lTh ?cTh ?kTh ?aIs ?lIs ?cIs ?kIs ?aOv ?lOv ?cOv ?kOv ?aUn ?lUn ?cUn ?kUn ?aAre ?lAre ?cAre ?kAre ?aApt ?lApt ?cApt ?kApt ?aTo ?lTo ?cTo ?kTo ?aAS ?lAS ?cAS ?kAS ?aAt ?lAt ?cAt ?kAt ?aLo ?lLo ?cLo ?kLo ?aFo ?lFo ?cFo ?kFo ?aCr ?lCr ?cCr ?kCr ?aTu ?lTu ?cTu ?kTu ?aHow ?lHow ?cHow ?kHow ?aCa ?lCa ?cCa ?kCa ?aMain ?lMain ?cMain ?kMain ?n_THINGS ?n_OVER ?n_UNDO ?n_TOLD ?n_STRETCHES ?n_AT ?n_LONG ?n_TWO_AND_TWO ?n_THREE_AND_ONE ?n_PAIRS ?n_CROWD ?n_TURN ?n_WRONG ?n_MISSING ?n_ALREADY ?n_FORBIDDEN ?n_MOST_THINGS ?n_HIGHEST_END ?b_len ?b_range ?b_max ?b_all ?b_enumerate ?pg ?hd ?po ?sa ?mk ?kc ?nS ?nT
    (case aC => k_is)
    (case aInit => k_is)
    (case iInit => k_is)
    (case lInit => k_is)
    (case cInit => k_is)
    (case kInit => k_is)
    (case aOver => k_is)
    (case lOver => k_is)
    (case cOver => k_is)
    (case kOver => k_is)
    (case aPairs => k_is)
    (case lPairs => k_is)
    (case cPairs => k_is)
    (case kPairs => k_is)
    (case aBef => k_is)
    (case lBef => k_is)
    (case cBef => k_is)
    (case kBef => k_is)
    (case aSets => k_is)
    (case lSets => k_is)
    (case cSets => k_is)
    (case kSets => k_is)
    (case aLess => k_is)
    (case lLess => k_is)
    (case cLess => k_is)
    (case kLess => k_is)
    (case aMany => k_is)
    (case lMany => k_is)
    (case cMany => k_is)
    (case kMany => k_is)
    (case aBE => k_is)
    (case lBE => k_is)
    (case cBE => k_is)
    (case kBE => k_is)
    (case aTell => k_is)
    (case lTell => k_is)
    (case cTell => k_is)
    (case kTell => k_is)
    (case aStr => k_is)
    (case lStr => k_is)
    (case cStr => k_is)
    (case kStr => k_is)
    (case aEar => k_is)
    (case lEar => k_is)
    (case cEar => k_is)
    (case kEar => k_is)
    (case aBL => k_is)
    (case lBL => k_is)
    (case cBL => k_is)
    (case kBL => k_is)
    (case aTT => k_is)
    (case lTT => k_is)
    (case cTT => k_is)
    (case kTT => k_is)
    (case aOpn => k_is)
    (case lOpn => k_is)
    (case cOpn => k_is)
    (case kOpn => k_is)
    (case aAll => k_is)
    (case lAll => k_is)
    (case cAll => k_is)
    (case kAll => k_is)
    (case aTO => k_is)
    (case lTO => k_is)
    (case cTO => k_is)
    (case kTO => k_is)
    (case aOL => k_is)
    (case lOL => k_is)
    (case cOL => k_is)
    (case kOL => k_is)
    (case aFC => k_is)
    (case lFC => k_is)
    (case cFC => k_is)
    (case kFC => k_is)
    (case aRo => k_is)
    (case lRo => k_is)
    (case cRo => k_is)
    (case kRo => k_is)
    (case aNums => k_is)
    (case lNums => k_is)
    (case cNums => k_is)
    (case kNums => k_is)
    (case aAP => k_is)
    (case lAP => k_is)
    (case cAP => k_is)
    (case kAP => k_is)
    (case aTh => k_is)
    (case lTh => k_is)
    (case cTh => k_is)
    (case kTh => k_is)
    (case aIs => k_is)
    (case lIs => k_is)
    (case cIs => k_is)
    (case kIs => k_is)
    (case aOv => k_is)
    (case lOv => k_is)
    (case cOv => k_is)
    (case kOv => k_is)
    (case aUn => k_is)
    (case lUn => k_is)
    (case cUn => k_is)
    (case kUn => k_is)
    (case aAre => k_is)
    (case lAre => k_is)
    (case cAre => k_is)
    (case kAre => k_is)
    (case aApt => k_is)
    (case lApt => k_is)
    (case cApt => k_is)
    (case kApt => k_is)
    (case aTo => k_is)
    (case lTo => k_is)
    (case cTo => k_is)
    (case kTo => k_is)
    (case aAS => k_is)
    (case lAS => k_is)
    (case cAS => k_is)
    (case kAS => k_is)
    (case aAt => k_is)
    (case lAt => k_is)
    (case cAt => k_is)
    (case kAt => k_is)
    (case aLo => k_is)
    (case lLo => k_is)
    (case cLo => k_is)
    (case kLo => k_is)
    (case aFo => k_is)
    (case lFo => k_is)
    (case cFo => k_is)
    (case kFo => k_is)
    (case aCr => k_is)
    (case lCr => k_is)
    (case cCr => k_is)
    (case kCr => k_is)
    (case aTu => k_is)
    (case lTu => k_is)
    (case cTu => k_is)
    (case kTu => k_is)
    (case aHow => k_is)
    (case lHow => k_is)
    (case cHow => k_is)
    (case kHow => k_is)
    (case aCa => k_is)
    (case lCa => k_is)
    (case cCa => k_is)
    (case kCa => k_is)
    (case aMain => k_is)
    (case lMain => k_is)
    (case cMain => k_is)
    (case kMain => k_is)
    (case n_THINGS => k_is)
    (case n_OVER => k_is)
    (case n_UNDO => k_is)
    (case n_TOLD => k_is)
    (case n_STRETCHES => k_is)
    (case n_AT => k_is)
    (case n_LONG => k_is)
    (case n_TWO_AND_TWO => k_is)
    (case n_THREE_AND_ONE => k_is)
    (case n_PAIRS => k_is)
    (case n_CROWD => k_is)
    (case n_TURN => k_is)
    (case n_WRONG => k_is)
    (case n_MISSING => k_is)
    (case n_ALREADY => k_is)
    (case n_FORBIDDEN => k_is)
    (case n_MOST_THINGS => k_is)
    (case n_HIGHEST_END => k_is)
    (case b_len => k_is)
    (case b_range => k_is)
    (case b_max => k_is)
    (case b_all => k_is)
    (case b_enumerate => k_is)
    (case pg => k_is)
    (case hd => k_is)
    (case po => k_is)
    (case sa => k_is)
    (case mk => k_is)
    (case kc => k_is)
    (case nS => k_is)
    (case nT => k_is)
  case S =>
    intro K H xs a hO hwi hask hx
    cases hx with
    | cons h1 h2 =>
      cases h2
      cases h1 with
      | lst hs ha =>
        have e := L2.ints_dw a.1 _ ha
        subst e
        have q : ((Codec.inLen 0 1260 a.1 && a.1.all (Codec.inInt 0 4294967295)) && true) = true := hwi
        rw [Bool.and_eq_true, Bool.and_eq_true] at q
        refine ⟨_, a.1, rfl, hs, (Codec.inNat_iff.mp q.1.1).2, fun z hz => ?_, hask, fun H' p hp => .lst (L2.SqL.of hp) (L2.dw_ints _)⟩
        exact Codec.inInt_iff.mp (List.all_eq_true.mp q.1.2 z hz)
