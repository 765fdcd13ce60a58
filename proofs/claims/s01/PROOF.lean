import PyProof.Rows.All
import Wide.All
import OpenK.AllK
import Wide.FinOn
import Open.SpecLaws
import KE.OsGo
import HandS.ForSpec
import HandS.Comp
import HandS.Iter
import HandS.Codes
import HandS.SortKw
import KE.SortKeyHeap
import PySem.Challenge.RW_processfronts_s01_answers
/-! The mathematics of fronts: what is kept of a list of points. -/
namespace Pf
open Wf (P)
open Wf06
/-- x is at most y in both -/
def le (x y : Point) : Bool := decide (x.t ≤ y.t) && decide (x.c ≤ y.c)
/-- the same pair -/
def same (x y : Point) : Bool := decide (y.t = x.t) && decide (y.c = x.c)
theorem le_iff {x y : Point} : le x y = true ↔ x.t ≤ y.t ∧ x.c ≤ y.c := by simp [le]
theorem same_iff {x y : Point} : same x y = true ↔ y.t = x.t ∧ y.c = x.c := by simp [same]
theorem same_self (x : Point) : same x x = true := by simp [same]
theorem same_eq {x y : Point} (h : same x y = true) : same x = same y := by
  obtain ⟨h1, h2⟩ := same_iff.mp h
  funext z; simp [same, h1, h2]
abbrev Asc (l : List Point) : Prop := l.Pairwise fun x y => x.t < y.t ∧ y.c < x.c
structure IsBest (l b : List Point) : Prop where
  asc : Asc b
  first : ∀ x ∈ b, l.find? (same x) = some x
  met : ∀ y ∈ l, ∃ x ∈ b, x.t ≤ y.t ∧ x.c ≤ y.c
theorem find_mem {l : List Point} {x : Point} (h : l.find? (same x) = some x) : x ∈ l := List.mem_of_find?_eq_some h
theorem IsBest.mem {l b : List Point} (h : IsBest l b) {x : Point} (hx : x ∈ b) : x ∈ l := find_mem (h.first x hx)
theorem asc_eq {l : List Point} (h : Asc l) {x y : Point} (hx : x ∈ l) (hy : y ∈ l) (a : x.t ≤ y.t) (b : x.c ≤ y.c) : x = y := by
  induction l with
  | nil => simp at hx
  | cons z r ih =>
    rw [Asc, List.pairwise_cons] at h
    rcases List.mem_cons.mp hx with rfl | hx' <;> rcases List.mem_cons.mp hy with rfl | hy'
    · rfl
    · have := h.1 _ hy'; omega
    · have := h.1 _ hx'; omega
    · exact ih h.2 hx' hy'
theorem asc_ext : ∀ {a b : List Point}, Asc a → Asc b → (∀ x, x ∈ a ↔ x ∈ b) → a = b
  | [], [], _, _, _ => rfl
  | [], y :: b, _, _, h => absurd ((h y).mpr (by simp)) (by simp)
  | x :: a, [], _, _, h => absurd ((h x).mp (by simp)) (by simp)
  | x :: a, y :: b, ha, hb, h => by
    have ha' := List.pairwise_cons.mp ha
    have hb' := List.pairwise_cons.mp hb
    have e : x = y := by
      have h1 := (h x).mp (by simp)
      have h2 := (h y).mpr (by simp)
      rcases List.mem_cons.mp h1 with e | m1
      · exact e
      · rcases List.mem_cons.mp h2 with e | m2
        · exact e.symm
        · have := ha'.1 _ m2; have := hb'.1 _ m1; omega
    subst e
    have : a = b := asc_ext ha'.2 hb'.2 fun z => by
      constructor
      · intro m
        rcases List.mem_cons.mp ((h z).mp (List.mem_cons_of_mem _ m)) with e | m'
        · have := ha'.1 _ m; rw [e] at this; omega
        · exact m'
      · intro m
        rcases List.mem_cons.mp ((h z).mpr (List.mem_cons_of_mem _ m)) with e | m'
        · have := hb'.1 _ m; rw [e] at this; omega
        · exact m'
    rw [this]
theorem IsBest.sub {l b b' : List Point} (h : IsBest l b) (h' : IsBest l b') {x : Point} (hx : x ∈ b) : x ∈ b' := by
  obtain ⟨y, hy, a1, a2⟩ := h'.met x (h.mem hx)
  obtain ⟨z, hz, b1, b2⟩ := h.met y (h'.mem hy)
  have e : z = x := asc_eq h.asc hz hx (by omega) (by omega)
  subst e
  have s : same z y = true := same_iff.mpr ⟨by omega, by omega⟩
  have e1 := h.first z hx
  rw [same_eq s, h'.first y hy] at e1
  rw [← Option.some.inj e1]; exact hy
theorem IsBest.unique {l b b' : List Point} (h : IsBest l b) (h' : IsBest l b') : b = b' :=
  asc_ext h.asc h'.asc fun _ => ⟨h.sub h', h'.sub h⟩

/-! ### the specification's -/
def k1 (m : List Point) (x : Point) : List Point := if (m.any fun y => decide (y.t ≤ x.t) && decide (y.c ≤ x.c)) = true then m else (m.filter fun y => !(decide (x.t ≤ y.t) && decide (x.c ≤ y.c))) ++ [x]
def k2 (m : List Point) (x : Point) : List Point := (m.filter fun y => decide (y.t < x.t)) ++ (x :: m.filter fun y => decide (x.t < y.t))
theorem best_def (l : List Point) : best l = (l.foldl k1 []).foldl k2 [] := rfl
abbrev Anti (l : List Point) : Prop := l.Pairwise fun x y => ¬ (x.t ≤ y.t ∧ x.c ≤ y.c) ∧ ¬ (y.t ≤ x.t ∧ y.c ≤ x.c)
structure One (l m : List Point) : Prop where
  anti : Anti m
  first : ∀ x ∈ m, l.find? (same x) = some x
  met : ∀ y ∈ l, ∃ x ∈ m, x.t ≤ y.t ∧ x.c ≤ y.c
theorem find_app {l r : List Point} {x : Point} (h : l.find? (same x) = some x) : (l ++ r).find? (same x) = some x := by
  rw [List.find?_append, h]; rfl
theorem find_new {l : List Point} {x : Point} (h : ∀ y ∈ l, ¬ (y.t = x.t ∧ y.c = x.c)) : (l ++ [x]).find? (same x) = some x := by
  have : l.find? (same x) = none := List.find?_eq_none.mpr fun y hy e => h y hy (same_iff.mp e)
  rw [List.find?_append, this]; simp [same_self]
theorem One.step {l m : List Point} (h : One l m) (x : Point) : One (l ++ [x]) (k1 m x) := by
  unfold k1
  split
  · rename_i ha
    obtain ⟨z, hz, hc⟩ := List.any_eq_true.mp ha
    simp only [Bool.and_eq_true, decide_eq_true_eq] at hc
    refine ⟨h.anti, fun y hy => find_app (h.first y hy), fun y hy => ?_⟩
    rcases List.mem_append.mp hy with hy | hy
    · exact h.met y hy
    · rw [List.mem_singleton] at hy; subst hy; exact ⟨z, hz, hc.1, hc.2⟩
  · rename_i ha
    have hn : ∀ y ∈ m, ¬ (y.t ≤ x.t ∧ y.c ≤ x.c) := fun y hy hc => ha (List.any_eq_true.mpr ⟨y, hy, by simp [hc.1, hc.2]⟩)
    have hf : ∀ y, y ∈ m.filter (fun y => !(decide (x.t ≤ y.t) && decide (x.c ≤ y.c))) ↔ y ∈ m ∧ ¬ (x.t ≤ y.t ∧ x.c ≤ y.c) := fun y => by
      rw [List.mem_filter]; simp; intro _; omega
    refine ⟨?_, fun y hy => ?_, fun y hy => ?_⟩
    · refine List.pairwise_append.mpr ⟨h.anti.filter _, by simp, fun y hy z hz => ?_⟩
      rw [List.mem_singleton] at hz; subst hz
      exact ⟨hn y ((hf y).mp hy).1, ((hf y).mp hy).2⟩
    · rcases List.mem_append.mp hy with hy | hy
      · exact find_app (h.first y ((hf y).mp hy).1)
      · rw [List.mem_singleton] at hy; subst hy
        refine find_new fun z hz hc => ?_
        obtain ⟨w, hw, a, b⟩ := h.met z hz
        exact hn w hw ⟨by omega, by omega⟩
    · have hx : x ∈ m.filter (fun y => !(decide (x.t ≤ y.t) && decide (x.c ≤ y.c))) ++ [x] := by simp
      rcases List.mem_append.mp hy with hy | hy
      · obtain ⟨w, hw, a, b⟩ := h.met y hy
        by_cases hc : x.t ≤ w.t ∧ x.c ≤ w.c
        · exact ⟨x, hx, by omega, by omega⟩
        · exact ⟨w, List.mem_append_left _ ((hf w).mpr ⟨hw, hc⟩), a, b⟩
      · rw [List.mem_singleton] at hy; subst hy; exact ⟨y, hx, by omega, by omega⟩
theorem One.fold : ∀ {r l m : List Point}, One l m → One (l ++ r) (r.foldl k1 m)
  | [], l, m, h => by simpa using h
  | x :: r, l, m, h => by
    have := One.fold (r := r) (h.step x)
    simpa using this
theorem one_all (l : List Point) : One l (l.foldl k1 []) := by
  have := One.fold (r := l) (l := []) (m := []) ⟨by simp, by simp, by simp⟩
  simpa using this
abbrev Inc (l : List Point) : Prop := l.Pairwise fun x y => x.t < y.t
theorem inc_step {m : List Point} (h : Inc m) (x : Point) : Inc (k2 m x) := by
  unfold k2
  refine List.pairwise_append.mpr ⟨h.filter _, List.pairwise_cons.mpr ⟨fun y hy => ?_, h.filter _⟩, fun y hy z hz => ?_⟩
  · exact of_decide_eq_true (List.mem_filter.mp hy).2
  · have h1 : y.t < x.t := of_decide_eq_true (List.mem_filter.mp hy).2
    rcases List.mem_cons.mp hz with rfl | hz
    · exact h1
    · have h2 : x.t < z.t := of_decide_eq_true (List.mem_filter.mp hz).2
      omega
theorem inc_fold : ∀ {r m : List Point}, Inc m → Inc (r.foldl k2 m)
  | [], _, h => h
  | x :: r, m, h => inc_fold (r := r) (inc_step h x)
theorem k2_mem {m : List Point} {x : Point} (h : ∀ y ∈ m, y.t ≠ x.t) (z : Point) : z ∈ k2 m x ↔ z ∈ m ∨ z = x := by
  unfold k2
  rw [List.mem_append, List.mem_cons, List.mem_filter, List.mem_filter]
  constructor
  · rintro (h | h | h)
    · exact .inl h.1
    · exact .inr h
    · exact .inl h.1
  · rintro (h1 | h1)
    · have := h z h1
      rcases Nat.lt_or_ge z.t x.t with a | a
      · exact .inl ⟨h1, by simpa using a⟩
      · exact .inr (.inr ⟨h1, by simp; omega⟩)
    · exact .inr (.inl h1)
theorem fold2_mem : ∀ {r m : List Point}, (m ++ r).Pairwise (fun x y => x.t ≠ y.t) → ∀ z, z ∈ r.foldl k2 m ↔ z ∈ m ∨ z ∈ r
  | [], m, _, z => by simp
  | x :: r, m, h, z => by
    have h' := List.pairwise_append.mp h
    have hx : ∀ y ∈ m, y.t ≠ x.t := fun y hy => h'.2.2 y hy x (by simp)
    have hr := List.pairwise_cons.mp h'.2.1
    have hn : (k2 m x ++ r).Pairwise fun x y => x.t ≠ y.t := by
      refine List.pairwise_append.mpr ⟨?_, hr.2, fun y hy w hw => ?_⟩
      · have hm := h'.1
        unfold k2
        refine List.pairwise_append.mpr ⟨hm.filter _, List.pairwise_cons.mpr ⟨fun y hy => ?_, hm.filter _⟩, fun y hy w hw => ?_⟩
        · have := of_decide_eq_true (List.mem_filter.mp hy).2; omega
        · have h1 : y.t < x.t := of_decide_eq_true (List.mem_filter.mp hy).2
          rcases List.mem_cons.mp hw with rfl | hw
          · omega
          · have h2 : x.t < w.t := of_decide_eq_true (List.mem_filter.mp hw).2
            omega
      · rcases (k2_mem hx y).mp hy with hy | rfl
        · exact h'.2.2 y hy w (List.mem_cons_of_mem _ hw)
        · exact hr.1 w hw
    show z ∈ r.foldl k2 (k2 m x) ↔ _
    rw [fold2_mem hn z, k2_mem hx z, List.mem_cons, or_assoc]
theorem best_is (l : List Point) : IsBest l (best l) := by
  have o := one_all l
  have hd : ((l.foldl k1 []) : List Point).Pairwise fun x y => x.t ≠ y.t := o.anti.imp fun h e => by
    rcases Nat.le_total _ _ with c | c
    · exact h.1 ⟨Nat.le_of_eq e, c⟩
    · exact h.2 ⟨Nat.le_of_eq e.symm, c⟩
  have hm : ∀ z, z ∈ best l ↔ z ∈ l.foldl k1 [] := fun z => by
    rw [best_def, fold2_mem (by simpa using hd) z]; simp
  have hi : Inc (best l) := by rw [best_def]; exact inc_fold (by simp)
  refine ⟨?_, fun x hx => o.first x ((hm x).mp hx), fun y hy => ?_⟩
  · have hanti : ∀ x ∈ best l, ∀ y ∈ best l, x.t ≤ y.t → x.c ≤ y.c → x = y := fun x hx y hy a b => by
      have hx := (hm x).mp hx
      have hy := (hm y).mp hy
      have key : ∀ {k : List Point}, Anti k → x ∈ k → y ∈ k → x = y := by
        intro k
        induction k with
        | nil => intro _ h; simp at h
        | cons w r ih =>
          intro h h1 h2
          have h' := List.pairwise_cons.mp h
          rcases List.mem_cons.mp h1 with e1 | m1 <;> rcases List.mem_cons.mp h2 with e2 | m2
          · rw [e1, e2]
          · rw [e1] at a b; exact absurd ⟨a, b⟩ (h'.1 _ m2).1
          · rw [e2] at a b; exact absurd ⟨a, b⟩ (h'.1 _ m1).2
          · exact ih h'.2 m1 m2
      exact key o.anti hx hy
    refine List.Pairwise.imp_of_mem (R := fun x y : Point => x.t < y.t) (fun {x y} hx hy hlt => ⟨hlt, ?_⟩) hi
    rcases Nat.lt_or_ge y.c x.c with c | c
    · exact c
    · have := hanti x hx y hy (Nat.le_of_lt hlt) c
      rw [this] at hlt; omega
  · obtain ⟨x, hx, a⟩ := o.met y hy
    exact ⟨x, (hm x).mpr hx, a⟩

/-! ### the program's: sorted by time and cost, then what is cheaper than the last one kept -/
def lex (x y : Point) : Bool := decide (x.t < y.t ∨ (x.t = y.t ∧ x.c ≤ y.c))
def keeps (m : List Point) (x : Point) : Bool := match m.getLast? with
  | none => true
  | some y => decide (x.c < y.c)
def keep (m : List Point) (x : Point) : List Point := if keeps m x = true then m ++ [x] else m
theorem lex_trans (a b c : Point) (h : lex a b = true) (h' : lex b c = true) : lex a c = true := by
  simp only [lex, decide_eq_true_eq] at *; omega
theorem lex_total (a b : Point) : (lex a b || lex b a) = true := by
  simp only [lex, Bool.or_eq_true, decide_eq_true_eq]; omega
structure Two (l m : List Point) : Prop where
  asc : Asc m
  first : ∀ x ∈ m, l.find? (same x) = some x
  met : ∀ y ∈ l, ∃ x ∈ m, x.t ≤ y.t ∧ x.c ≤ y.c
theorem asc_last {m : List Point} {y : Point} (h : Asc m) (hl : m.getLast? = some y) : ∀ x ∈ m, y.c ≤ x.c := by
  intro x hx
  obtain ⟨r, rfl⟩ := List.getLast?_eq_some_iff.mp hl
  rcases List.mem_append.mp hx with hx | hx
  · have := (List.pairwise_append.mp h).2.2 x hx y (by simp); omega
  · rw [List.mem_singleton] at hx; rw [hx]; omega
theorem Two.step {l m : List Point} (h : Two l m) (x : Point) (hs : ∀ y ∈ l, lex y x = true) : Two (l ++ [x]) (keep m x) := by
  unfold keep
  split
  · rename_i hk
    have hlt : ∀ y ∈ m, x.c < y.c := by
      intro y hy
      unfold keeps at hk
      split at hk
      · rename_i e; rw [List.getLast?_eq_none_iff] at e; subst e; simp at hy
      · rename_i z e
        have := asc_last h.asc e y hy
        simp only [decide_eq_true_eq] at hk; omega
    refine ⟨?_, fun y hy => ?_, fun y hy => ?_⟩
    · refine List.pairwise_append.mpr ⟨h.asc, by simp, fun y hy z hz => ?_⟩
      rw [List.mem_singleton] at hz; subst hz
      have h1 := hs y (find_mem (h.first y hy))
      have h2 := hlt y hy
      simp only [lex, decide_eq_true_eq] at h1
      exact ⟨by omega, h2⟩
    · rcases List.mem_append.mp hy with hy | hy
      · exact find_app (h.first y hy)
      · rw [List.mem_singleton] at hy; subst hy
        refine find_new fun z hz hc => ?_
        obtain ⟨w, hw, a, b⟩ := h.met z hz
        have := hlt w hw; omega
    · rcases List.mem_append.mp hy with hy | hy
      · obtain ⟨w, hw, a⟩ := h.met y hy
        exact ⟨w, List.mem_append_left _ hw, a⟩
      · rw [List.mem_singleton] at hy; subst hy
        exact ⟨y, by simp, by omega, by omega⟩
  · rename_i hk
    refine ⟨h.asc, fun y hy => find_app (h.first y hy), fun y hy => ?_⟩
    rcases List.mem_append.mp hy with hy | hy
    · exact h.met y hy
    · rw [List.mem_singleton] at hy; subst hy
      unfold keeps at hk
      split at hk
      · exact absurd rfl hk
      · rename_i z e
        have hz : z ∈ m := List.mem_of_getLast? e
        have h1 := hs z (find_mem (h.first z hz))
        simp only [lex, decide_eq_true_eq] at h1 hk
        exact ⟨z, hz, by omega, by omega⟩
theorem Two.fold : ∀ {r l m : List Point}, Two l m → (l ++ r).Pairwise (fun x y => lex x y = true) → Two (l ++ r) (r.foldl keep m)
  | [], l, m, h, _ => by simpa using h
  | x :: r, l, m, h, hs => by
    have h1 := h.step x fun y hy => (List.pairwise_append.mp hs).2.2 y hy x (by simp)
    have := Two.fold (r := r) h1 (by simpa using hs)
    simpa using this
theorem filter_sort {l : List Point} {p : Point → Bool} (hp : ∀ x y, p x = true → p y = true → lex x y = true) : (l.mergeSort lex).filter p = l.filter p := by
  have h1 : (l.filter p).Sublist (l.mergeSort lex) := List.sublist_mergeSort lex_trans lex_total
    (List.pairwise_of_forall_mem_list fun x hx y hy => hp x y (List.mem_filter.mp hx).2 (List.mem_filter.mp hy).2) List.filter_sublist
  have h2 := h1.filter p
  rw [List.filter_filter] at h2
  simp only [Bool.and_self] at h2
  exact (h2.eq_of_length ((List.mergeSort_perm l lex).filter p).length_eq.symm).symm
theorem find_sort (l : List Point) (x : Point) : (l.mergeSort lex).find? (same x) = l.find? (same x) := by
  rw [← List.head?_filter, ← List.head?_filter, filter_sort fun a b ha hb => by
    have h1 := same_iff.mp ha; have h2 := same_iff.mp hb
    simp only [lex, decide_eq_true_eq]; omega]
def cbest (l : List Point) : List Point := (l.mergeSort lex).foldl keep []
theorem cbest_is (l : List Point) : IsBest l (cbest l) := by
  have h := Two.fold (r := l.mergeSort lex) (l := []) (m := []) ⟨by simp, by simp, by simp⟩ (by simpa using List.pairwise_mergeSort lex_trans lex_total l)
  rw [List.nil_append] at h
  exact ⟨h.asc, fun x hx => by rw [← find_sort]; exact h.first x hx, fun y hy => h.met y (List.mem_mergeSort.mpr hy)⟩
theorem cbest_eq (l : List Point) : cbest l = best l := (cbest_is l).unique (best_is l)

/-! ### what more rounds add -/
theorem find_asc {f : List Point} (h : Asc f) {x : Point} (hx : x ∈ f) : f.find? (same x) = some x := by
  cases e : f.find? (same x) with
  | none => exact absurd (same_self x) (by simpa using List.find?_eq_none.mp e x hx)
  | some y =>
    have h1 := List.mem_of_find?_eq_some e
    have h2 := same_iff.mp (List.find?_some e)
    rw [asc_eq h hx h1 (by omega) (by omega)]
theorem best_left {f g : List Point} (h : Asc f) (hg : ∀ y ∈ g, ∃ x ∈ f, x.t ≤ y.t ∧ x.c ≤ y.c) : best (f ++ g) = f := by
  refine (best_is _).unique ⟨h, fun x hx => find_app (find_asc h hx), fun y hy => ?_⟩
  rcases List.mem_append.mp hy with hy | hy
  · exact ⟨y, hy, by omega, by omega⟩
  · exact hg y hy
theorem best_mem {l : List Point} {x : Point} (h : x ∈ best l) : x ∈ l := (best_is l).mem h
theorem best_asc (l : List Point) : Asc (best l) := (best_is l).asc
theorem best_ne {l : List Point} (h : l ≠ []) : best l ≠ [] := by
  obtain ⟨y, r, rfl⟩ := List.exists_cons_of_ne_nil h
  obtain ⟨x, hx, _⟩ := (best_is (y :: r)).met y (by simp)
  exact List.ne_nil_of_mem hx
theorem best_len (l : List Point) : (best l).length ≤ l.length := by
  have hn : (best l).Nodup := (best_asc l).imp fun h e => by rw [e] at h; omega
  exact hn.length_le_of_subset fun x hx => best_mem hx
theorem seqs_over {f g : List Point} {y : Point} (h : y ∈ seqs f g) : ∃ x ∈ f, ∃ z ∈ g, y = ⟨x.t + z.t, x.c + z.c, .seq x.r z.r⟩ := by
  obtain ⟨x, hx, h⟩ := List.mem_flatMap.mp (best_mem h)
  obtain ⟨z, hz, rfl⟩ := List.mem_map.mp h
  exact ⟨x, hx, z, hz, rfl⟩
theorem loops_eq {f g : List Point} (h : Asc f) : ∀ n, loops f g n = f
  | 0 => rfl
  | n + 1 => best_left h fun y hy => by
    obtain ⟨x, hx, z, _, rfl⟩ := seqs_over hy
    exact ⟨x, hx, by simp, by simp⟩
theorem front_asc (b : Book) : ∀ p : P, Asc (b.front p)
  | .act a => by simp [Book.front]
  | .skip => by simp [Book.front]
  | .seq p q => best_asc _
  | .alt p q => best_asc _
  | .both p q => best_asc _
  | .loop p q => by
    show Asc (loops _ _ _)
    rw [loops_eq (front_asc b p)]; exact front_asc b p
theorem flat_ne {f g : List Point} {h : Point → Point → Point} (hf : f ≠ []) (hg : g ≠ []) : (f.flatMap fun x => g.map fun y => h x y) ≠ [] := by
  obtain ⟨x, r, rfl⟩ := List.exists_cons_of_ne_nil hf
  obtain ⟨y, s, rfl⟩ := List.exists_cons_of_ne_nil hg
  simp
theorem front_ne (b : Book) : ∀ p : P, b.front p ≠ []
  | .act a => by simp [Book.front]
  | .skip => by simp [Book.front]
  | .seq p q => best_ne (flat_ne (front_ne b p) (front_ne b q))
  | .alt p q => best_ne (by simp [front_ne b p])
  | .both p q => best_ne (flat_ne (front_ne b p) (front_ne b q))
  | .loop p q => by
    show loops _ _ _ ≠ []
    rw [loops_eq (front_asc b p)]; exact front_ne b p
end Pf

/-! The mathematics of processes: how they are read, listed, unrolled. -/
namespace Pf
open Wf (P)
open Wf06
/-! ### reading -/
theorem read_shorter : ∀ (n : Nat) (l : List Nat) (p : P) (r : List Nat), Wf.read n l = some (p, r) → r.length < l.length
  | 0, _, _, _, h => by simp [Wf.read] at h
  | n + 1, [], _, _, h => by simp [Wf.read] at h
  | n + 1, k :: l, p, r, h => by
    have two : (if k < 2 ∨ 5 < k then none else match Wf.read n l with
      | none => none
      | some x => (Wf.read n x.2).map fun y => (if k = 2 then P.seq x.1 y.1 else if k = 3 then .alt x.1 y.1 else if k = 4 then .both x.1 y.1 else .loop x.1 y.1, y.2)) = some (p, r) → r.length < (k :: l).length := by
      intro h
      split at h
      · cases h
      · split at h
        · cases h
        · rename_i x e
          obtain ⟨y, hy, h⟩ := Option.map_eq_some_iff.mp h
          have h1 := read_shorter n l x.1 x.2 e
          have h2 := read_shorter n x.2 y.1 y.2 hy
          have h3 : y.2 = r := congrArg Prod.snd h
          rw [List.length_cons, ← h3]; omega
    unfold Wf.read at h
    split at h
    · rename_i e; cases e; cases h; simp; omega
    · rename_i e; cases e; cases h; simp
    · rename_i e; cases e; exact two h
    · cases h
theorem read_two (n k : Nat) (l : List Nat) (h : 2 ≤ k) (h' : k ≤ 5) : Wf.read (n + 1) (k :: l) = match Wf.read n l with
      | none => none
      | some x => (Wf.read n x.2).map fun y => (if k = 2 then P.seq x.1 y.1 else if k = 3 then .alt x.1 y.1 else if k = 4 then .both x.1 y.1 else .loop x.1 y.1, y.2) := by
  have e : ¬ (k < 2 ∨ 5 < k) := by omega
  obtain ⟨j, rfl⟩ : ∃ j, k = j + 2 := ⟨k - 2, by omega⟩
  rw [Wf.read]
  · rw [if_neg e]
    rfl
  all_goals (intros; omega)
theorem read_bad (n k : Nat) (l : List Nat) (h : 5 < k) : Wf.read (n + 1) (k :: l) = none := by
  obtain ⟨j, rfl⟩ : ∃ j, k = j + 2 := ⟨k - 2, by omega⟩
  rw [Wf.read]
  · rw [if_pos (.inr h)]
  all_goals (intros; omega)
theorem read_fuel : ∀ (n m : Nat) (l : List Nat), l.length < n → l.length < m → Wf.read n l = Wf.read m l
  | 0, _, _, h, _ => by omega
  | _, 0, _, _, h => by omega
  | n + 1, m + 1, [], _, _ => rfl
  | n + 1, m + 1, k :: l, h, h' => by
    rw [List.length_cons] at h h'
    by_cases c : k < 2
    · match k, l, c with
      | 0, [], _ => rfl
      | 0, _ :: _, _ => rfl
      | 1, _, _ => rfl
    · by_cases c' : 5 < k
      · rw [read_bad _ _ _ c', read_bad _ _ _ c']
      · rw [read_two _ _ _ (by omega) (by omega), read_two _ _ _ (by omega) (by omega), read_fuel n m l (by omega) (by omega)]
        cases e : Wf.read m l with
        | none => rfl
        | some x =>
          have := read_shorter m l x.1 x.2 e
          dsimp only
          rw [read_fuel n m x.2 (by omega) (by omega)]
abbrev rd (l : List Nat) : Option (P × List Nat) := Wf.read (l.length + 1) l
/-- the kind, and the two processes -/
def kids : P → Option (Nat × P × P)
  | .act _ => none
  | .skip => none
  | .seq p q => some (2, p, q)
  | .alt p q => some (3, p, q)
  | .both p q => some (4, p, q)
  | .loop p q => some (5, p, q)
def mk (k : Nat) (p q : P) : P := if k = 2 then .seq p q else if k = 3 then .alt p q else if k = 4 then .both p q else .loop p q
theorem kids_mk {k : Nat} (p q : P) (h : 2 ≤ k) (h' : k ≤ 5) : kids (mk k p q) = some (k, p, q) := by
  obtain rfl | rfl | rfl | rfl : k = 2 ∨ k = 3 ∨ k = 4 ∨ k = 5 := by omega
  all_goals rfl
theorem mk_kids {t p q : P} {k : Nat} (h : kids t = some (k, p, q)) : t = mk k p q ∧ 2 ≤ k ∧ k ≤ 5 := by
  cases t <;> simp [kids] at h <;> obtain ⟨rfl, rfl, rfl⟩ := h <;> exact ⟨rfl, by decide, by decide⟩
/-- what stands for a construct by itself -/
def tok : P → List Nat
  | .act a => [0, a]
  | .skip => [1]
  | .seq _ _ => [2]
  | .alt _ _ => [3]
  | .both _ _ => [4]
  | .loop _ _ => [5]
def toks : P → List (List Nat)
  | .act a => [[0, a]]
  | .skip => [[1]]
  | .seq p q => [2] :: (toks p ++ toks q)
  | .alt p q => [3] :: (toks p ++ toks q)
  | .both p q => [4] :: (toks p ++ toks q)
  | .loop p q => [5] :: (toks p ++ toks q)
theorem toks_mk {k : Nat} (p q : P) (h : 2 ≤ k) (h' : k ≤ 5) : toks (mk k p q) = [k] :: (toks p ++ toks q) := by
  obtain rfl | rfl | rfl | rfl : k = 2 ∨ k = 3 ∨ k = 4 ∨ k = 5 := by omega
  all_goals rfl
theorem rd_nil : rd [] = none := rfl
theorem rd_zero : rd [0] = none := rfl
theorem rd_act (a : Nat) (r : List Nat) : rd (0 :: a :: r) = some (.act a, r) := rfl
theorem rd_skip (r : List Nat) : rd (1 :: r) = some (.skip, r) := rfl
theorem rd_bad {k : Nat} (r : List Nat) (h : 5 < k) : rd (k :: r) = none := read_bad _ _ _ h
theorem rd_two {k : Nat} (l : List Nat) (h : 2 ≤ k) (h' : k ≤ 5) : rd (k :: l) = match rd l with
      | none => none
      | some x => (rd x.2).map fun y => (mk k x.1 y.1, y.2) := by
  unfold rd
  rw [List.length_cons, read_two _ _ _ h h']
  cases e : Wf.read (l.length + 1) l with
  | none => rfl
  | some x =>
    have := read_shorter _ l x.1 x.2 e
    dsimp only
    rw [read_fuel (l.length + 1) (x.2.length + 1) x.2 (by omega) (by omega)]
    rfl
/-- so many processes, one behind another: their own numbers, what is left -/
def rdN : Nat → List Nat → Option (List (List Nat) × List Nat)
  | 0, l => some ([], l)
  | m + 1, l => match rd l with
    | none => none
    | some x => (rdN m x.2).map fun y => (toks x.1 ++ y.1, y.2)
theorem rdN_none {m : Nat} {l : List Nat} (h : rd l = none) : rdN (m + 1) l = none := by rw [rdN, h]
theorem rdN_leaf {m : Nat} {l r : List Nat} {t : P} {o : List Nat} (h : rd l = some (t, r)) (ht : toks t = [o]) : rdN (m + 1) l = (rdN m r).map fun y => (o :: y.1, y.2) := by
  rw [rdN, h]
  show (rdN m r).map (fun y => (toks t ++ y.1, y.2)) = _
  rw [ht]; rfl
theorem rdN_two {m k : Nat} (l : List Nat) (h : 2 ≤ k) (h' : k ≤ 5) : rdN (m + 1) (k :: l) = (rdN (m + 2) l).map fun y => ([k] :: y.1, y.2) := by
  rw [rdN, rd_two l h h', rdN]
  cases rd l with
  | none => rfl
  | some x =>
    dsimp only
    rw [rdN]
    cases rd x.2 with
    | none => rfl
    | some y =>
      dsimp only
      rw [Option.map_some]
      dsimp only
      rw [toks_mk _ _ h h']
      cases rdN m y.2 with
      | none => rfl
      | some z => simp
theorem run?_def (l : List Nat) : Wf06.run? l = match rd l with
  | some (p, []) => some p
  | _ => none := rfl
theorem rdN_one (l : List Nat) : rdN 1 l = (rd l).map fun x => (toks x.1, x.2) := by
  rw [rdN]
  cases rd l with
  | none => rfl
  | some x => simp [rdN]
theorem run?_some {l : List Nat} {w : List (List Nat)} (h : rdN 1 l = some (w, [])) : ∃ p, Wf06.run? l = some p ∧ toks p = w := by
  rw [rdN_one] at h
  obtain ⟨⟨p, r⟩, e, h⟩ := Option.map_eq_some_iff.mp h
  cases h
  exact ⟨p, by rw [run?_def, e], rfl⟩
theorem run?_rest {l : List Nat} {w : List (List Nat)} {a : Nat} {r : List Nat} (h : rdN 1 l = some (w, a :: r)) : Wf06.run? l = none := by
  rw [rdN_one] at h
  obtain ⟨⟨p, r⟩, e, h⟩ := Option.map_eq_some_iff.mp h
  cases h
  rw [run?_def, e]
theorem run?_none {l : List Nat} (h : rdN 1 l = none) : Wf06.run? l = none := by
  rw [rdN_one] at h
  rw [run?_def, Option.map_eq_none_iff.mp h]
theorem toks_len : ∀ p : P, (toks p).length = p.size
  | .act _ => rfl
  | .skip => rfl
  | .seq p q => by simp [toks, Wf.P.size, toks_len p, toks_len q]
  | .alt p q => by simp [toks, Wf.P.size, toks_len p, toks_len q]
  | .both p q => by simp [toks, Wf.P.size, toks_len p, toks_len q]
  | .loop p q => by simp [toks, Wf.P.size, toks_len p, toks_len q]
theorem size_pos : ∀ p : P, 1 ≤ p.size
  | .act _ => Nat.le_refl _
  | .skip => Nat.le_refl _
  | .seq p q => by simp [Wf.P.size]
  | .alt p q => by simp [Wf.P.size]
  | .both p q => by simp [Wf.P.size]
  | .loop p q => by simp [Wf.P.size]
/-! ### the list of constructs -/
def subs : P → List P
  | .act a => [.act a]
  | .skip => [.skip]
  | .seq p q => subs q ++ subs p ++ [.seq p q]
  | .alt p q => subs q ++ subs p ++ [.alt p q]
  | .both p q => subs q ++ subs p ++ [.both p q]
  | .loop p q => subs q ++ subs p ++ [.loop p q]
theorem subs_node {t p q : P} {k : Nat} (h : kids t = some (k, p, q)) : subs t = subs q ++ subs p ++ [t] := by
  cases t <;> simp [kids] at h <;> obtain ⟨rfl, rfl, rfl⟩ := h <;> rfl
theorem subs_leaf {t : P} (h : kids t = none) : subs t = [t] ∧ toks t = [tok t] := by
  cases t <;> simp [kids] at h <;> exact ⟨rfl, rfl⟩
theorem toks_node {t p q : P} {k : Nat} (h : kids t = some (k, p, q)) : toks t = [k] :: (toks p ++ toks q) := by
  cases t <;> simp [kids] at h <;> obtain ⟨rfl, rfl, rfl⟩ := h <;> rfl
theorem size_node {t p q : P} {k : Nat} (h : kids t = some (k, p, q)) : t.size = p.size + q.size + 1 := by
  cases t <;> simp [kids] at h <;> obtain ⟨rfl, rfl, rfl⟩ := h <;> rfl
theorem size_leaf {t : P} (h : kids t = none) : t.size = 1 := by
  cases t <;> simp [kids] at h <;> rfl
theorem ind {C : P → Prop} (leaf : ∀ t, kids t = none → C t) (node : ∀ t k p q, kids t = some (k, p, q) → C p → C q → C t) : ∀ t, C t
  | .act a => leaf _ rfl
  | .skip => leaf _ rfl
  | .seq p q => node _ 2 p q rfl (ind leaf node p) (ind leaf node q)
  | .alt p q => node _ 3 p q rfl (ind leaf node p) (ind leaf node q)
  | .both p q => node _ 4 p q rfl (ind leaf node p) (ind leaf node q)
  | .loop p q => node _ 5 p q rfl (ind leaf node p) (ind leaf node q)
theorem subs_len (t : P) : (subs t).length = t.size := by
  induction t using ind with
  | leaf t h => rw [(subs_leaf h).1, size_leaf h]; rfl
  | node t k p q h hp hq => rw [subs_node h, size_node h]; simp [hp, hq]; omega
theorem subs_last (t : P) : (subs t).getLast? = some t := by
  induction t using ind with
  | leaf t h => rw [(subs_leaf h).1]; rfl
  | node t k p q h _ _ => rw [subs_node h]; simp
/-- the numbers of t as the i-th of ts; near: its first process stands just ahead of it -/
def Cod (near : Bool) (ts : List P) (i : Nat) (t : P) (c : List Nat) : Prop := match kids t with
  | none => c = tok t
  | some (k, p, q) => ∃ x y, x < i ∧ y < i ∧ (near = true → x + 1 = i) ∧ ts[x]? = some p ∧ ts[y]? = some q ∧ c = [k, x, y]
structure Enc (near : Bool) (ts : List P) (cs : List (List Nat)) : Prop where
  len : ts.length = cs.length
  at' : ∀ i t, ts[i]? = some t → ∃ c, cs[i]? = some c ∧ Cod near ts i t c
theorem Cod.leaf {near : Bool} {ts : List P} {i : Nat} {t : P} {c : List Nat} (h : Cod near ts i t c) (hk : kids t = none) : c = tok t := by
  unfold Cod at h; rw [hk] at h; exact h
theorem Cod.node {near : Bool} {ts : List P} {i : Nat} {t p q : P} {k : Nat} {c : List Nat} (h : Cod near ts i t c) (hk : kids t = some (k, p, q)) :
    ∃ x y, x < i ∧ y < i ∧ (near = true → x + 1 = i) ∧ ts[x]? = some p ∧ ts[y]? = some q ∧ c = [k, x, y] := by
  unfold Cod at h; rw [hk] at h; exact h
theorem Cod.of_leaf {near : Bool} {ts : List P} {i : Nat} {t : P} (hk : kids t = none) : Cod near ts i t (tok t) := by unfold Cod; rw [hk]
theorem Cod.of_node {near : Bool} {ts : List P} {i : Nat} {t p q : P} {k x y : Nat} (hk : kids t = some (k, p, q)) (h1 : x < i) (h2 : y < i) (h3 : near = true → x + 1 = i) (h4 : ts[x]? = some p) (h5 : ts[y]? = some q) : Cod near ts i t [k, x, y] := by
  unfold Cod; rw [hk]; exact ⟨x, y, h1, h2, h3, h4, h5, rfl⟩
theorem get_app {α : Type} {l r : List α} {i : Nat} {a : α} (h : l[i]? = some a) : (l ++ r)[i]? = some a := by
  have : i < l.length := (List.getElem?_eq_some_iff.mp h).1
  rw [List.getElem?_append_left this]; exact h
theorem get_end {α : Type} (l : List α) (a : α) : (l ++ [a])[l.length]? = some a := by simp
theorem Cod.more {near : Bool} {ts : List P} {i : Nat} {t : P} {c : List Nat} (h : Cod near ts i t c) (r : List P) : Cod near (ts ++ r) i t c := by
  unfold Cod at *
  split at h
  · exact h
  · obtain ⟨x, y, h1, h2, h3, h4, h5, h6⟩ := h
    exact ⟨x, y, h1, h2, h3, get_app h4, get_app h5, h6⟩
theorem Enc.nil {near : Bool} : Enc near [] [] := ⟨rfl, fun i t h => by simp at h⟩
theorem Enc.snoc {near : Bool} {ts : List P} {cs : List (List Nat)} {t : P} {c : List Nat} (h : Enc near ts cs) (hc : Cod near ts ts.length t c) : Enc near (ts ++ [t]) (cs ++ [c]) := by
  refine ⟨by simp [h.len], fun i u hu => ?_⟩
  by_cases hi : i < ts.length
  · rw [List.getElem?_append_left hi] at hu
    obtain ⟨d, hd, hq⟩ := h.at' i u hu
    exact ⟨d, get_app hd, hq.more _⟩
  · have hl : i = ts.length := by
      have := (List.getElem?_eq_some_iff.mp hu).1
      rw [List.length_append, List.length_singleton] at this; omega
    subst hl
    rw [get_end] at hu
    cases hu
    refine ⟨c, ?_, hc.more _⟩
    rw [h.len, get_end]
/-- the stack walk: the constructs so far, the places that wait -/
def stepO (s : Option (List (List Nat) × List Nat)) (t : List Nat) : Option (List (List Nat) × List Nat) := match s with
  | none => none
  | some (cs, ws) => match t with
    | [k] => if k = 1 then some (cs ++ [t], ws ++ [cs.length]) else match ws.reverse with
      | x :: y :: r => some (cs ++ [[k, x, y]], r.reverse ++ [cs.length])
      | _ => none
    | _ => some (cs ++ [t], ws ++ [cs.length])
theorem fold_none : ∀ l, List.foldl stepO none l = none
  | [] => rfl
  | _ :: l => fold_none l
/-- the constructs of p, behind b others -/
def enc (b : Nat) : P → List (List Nat)
  | .act a => [[0, a]]
  | .skip => [[1]]
  | .seq p q => enc b q ++ enc (b + q.size) p ++ [[2, b + q.size + p.size - 1, b + q.size - 1]]
  | .alt p q => enc b q ++ enc (b + q.size) p ++ [[3, b + q.size + p.size - 1, b + q.size - 1]]
  | .both p q => enc b q ++ enc (b + q.size) p ++ [[4, b + q.size + p.size - 1, b + q.size - 1]]
  | .loop p q => enc b q ++ enc (b + q.size) p ++ [[5, b + q.size + p.size - 1, b + q.size - 1]]
theorem enc_node {t p q : P} {k : Nat} (b : Nat) (h : kids t = some (k, p, q)) : enc b t = enc b q ++ enc (b + q.size) p ++ [[k, b + q.size + p.size - 1, b + q.size - 1]] := by
  cases t <;> simp [kids] at h <;> obtain ⟨rfl, rfl, rfl⟩ := h <;> rfl
theorem enc_leaf {t : P} (b : Nat) (h : kids t = none) : enc b t = [tok t] := by
  cases t <;> simp [kids] at h <;> rfl
theorem enc_len (t : P) : ∀ b, (enc b t).length = t.size := by
  induction t using ind with
  | leaf t h => intro b; rw [enc_leaf b h, size_leaf h]; rfl
  | node t k p q h hp hq =>
    intro b
    rw [enc_node b h, size_node h]; simp [hp, hq]; omega
theorem stepO_leaf {t : P} (h : kids t = none) (cs : List (List Nat)) (ws : List Nat) : stepO (some (cs, ws)) (tok t) = some (cs ++ [tok t], ws ++ [cs.length]) := by
  cases t <;> simp [kids] at h <;> rfl
theorem stepO_node {k : Nat} (h : 2 ≤ k) (cs : List (List Nat)) (ws : List Nat) (x y : Nat) : stepO (some (cs, ws ++ [y, x])) [k] = some (cs ++ [[k, x, y]], ws ++ [cs.length]) := by
  have e : ¬ k = 1 := by omega
  simp [stepO, e]
theorem walk (t : P) : ∀ cs ws, (toks t).reverse.foldl stepO (some (cs, ws)) = some (cs ++ enc cs.length t, ws ++ [cs.length + t.size - 1]) := by
  induction t using ind with
  | leaf t h =>
    intro cs ws
    rw [(subs_leaf h).2, enc_leaf _ h, size_leaf h]
    show stepO (some (cs, ws)) (tok t) = _
    rw [stepO_leaf h]; rfl
  | node t k p q h hp hq =>
    intro cs ws
    obtain ⟨_, hk, _⟩ := mk_kids h
    have h1 := size_pos p
    have h2 := size_pos q
    rw [toks_node h, List.reverse_cons, List.reverse_append, List.foldl_append, List.foldl_append, hq, hp, enc_node _ h, size_node h, List.foldl_cons, List.foldl_nil, List.length_append, enc_len, List.append_assoc ws]
    show stepO (some (_, ws ++ [_, _])) [k] = _
    rw [stepO_node hk]
    simp only [List.length_append, enc_len, List.append_assoc]
    congr 5
    omega
theorem enc_is (t : P) : ∀ ts cs, Enc true ts cs → Enc true (ts ++ subs t) (cs ++ enc cs.length t) := by
  induction t using ind with
  | leaf t h =>
    intro ts cs e
    rw [(subs_leaf h).1, enc_leaf _ h]
    exact e.snoc (.of_leaf h)
  | node t k p q h hp hq =>
    intro ts cs e
    have h1 := size_pos p
    have h2 := size_pos q
    rw [subs_node h, enc_node _ h]
    have e1 := hp _ _ (hq _ _ e)
    rw [List.length_append, enc_len] at e1
    have e2 := e1.snoc (t := t) (c := [k, cs.length + q.size + p.size - 1, cs.length + q.size - 1]) (.of_node h ?_ ?_ ?_ ?_ ?_)
    · simpa using e2
    · simp only [List.length_append, subs_len, e.len]; omega
    · simp only [List.length_append, subs_len, e.len]; omega
    · intro _; simp only [List.length_append, subs_len, e.len]; omega
    · have := subs_last p
      rw [List.getLast?_eq_getElem?, subs_len] at this
      rw [List.append_assoc, List.getElem?_append_right (by rw [e.len]; omega), List.getElem?_append_right (by rw [subs_len, e.len]; omega), subs_len, e.len, ← this]
      congr 1; omega
    · have := subs_last q
      rw [List.getLast?_eq_getElem?, subs_len] at this
      refine get_app ?_
      rw [List.getElem?_append_right (by rw [e.len]; omega), e.len, ← this]
      congr 1; omega
theorem enc_subs (t : P) : Enc true (subs t) (enc 0 t) := by simpa using enc_is t [] [] .nil
/-- a walk over the numbers backwards never lacks a place -/
theorem walk_some (t : P) (i : Nat) : ∃ s, ((toks t).reverse.take i).foldl stepO (some ([], [])) = some s := by
  cases e : ((toks t).reverse.take i).foldl stepO (some ([], [])) with
  | some s => exact ⟨s, rfl⟩
  | none =>
    have h := walk t [] []
    rw [← List.take_append_drop i (toks t).reverse, List.foldl_append, e, fold_none] at h
    cases h
theorem Enc.weak {ts : List P} {cs : List (List Nat)} (h : Enc true ts cs) : Enc false ts cs := ⟨h.len, fun i t ht => by
  obtain ⟨c, hc, hq⟩ := h.at' i t ht
  refine ⟨c, hc, ?_⟩
  unfold Cod at *
  split at hq
  · exact hq
  · obtain ⟨x, y, h1, h2, _, h4, h5, h6⟩ := hq
    exact ⟨x, y, h1, h2, fun z => by simp at z, h4, h5, h6⟩⟩
/-! ### what is right -/
def badStep : P → Bool
  | .act a => decide (5 < a)
  | _ => false
def badLoop : P → Bool
  | .loop p _ => p.void
  | _ => false
theorem right_subs : ∀ t : P, t.right = (!(subs t).any badStep && !(subs t).any badLoop)
  | .act a => by
    have e1 : (Wf.P.act a).right = decide (a < 6) := rfl
    rw [e1]
    simp only [subs, badStep, badLoop, List.any_cons, List.any_nil, Bool.or_false, Bool.not_false, Bool.and_true]
    by_cases h : 5 < a
    · rw [decide_eq_true h, decide_eq_false (by omega)]; rfl
    · rw [decide_eq_false h, decide_eq_true (by omega)]; rfl
  | .skip => rfl
  | .seq p q => by
    simp only [Wf.P.right, right_subs p, right_subs q, subs, List.any_append, List.any_cons, List.any_nil, badStep, badLoop, Bool.or_false]
    cases (subs p).any badStep <;> cases (subs p).any badLoop <;> cases (subs q).any badStep <;> cases (subs q).any badLoop <;> rfl
  | .alt p q => by
    simp only [Wf.P.right, right_subs p, right_subs q, subs, List.any_append, List.any_cons, List.any_nil, badStep, badLoop, Bool.or_false]
    cases (subs p).any badStep <;> cases (subs p).any badLoop <;> cases (subs q).any badStep <;> cases (subs q).any badLoop <;> rfl
  | .both p q => by
    simp only [Wf.P.right, right_subs p, right_subs q, subs, List.any_append, List.any_cons, List.any_nil, badStep, badLoop, Bool.or_false]
    cases (subs p).any badStep <;> cases (subs p).any badLoop <;> cases (subs q).any badStep <;> cases (subs q).any badLoop <;> rfl
  | .loop p q => by
    simp only [Wf.P.right, right_subs p, right_subs q, subs, List.any_append, List.any_cons, List.any_nil, badStep, badLoop, Bool.or_false]
    cases p.void <;> cases (subs p).any badStep <;> cases (subs p).any badLoop <;> cases (subs q).any badStep <;> cases (subs q).any badLoop <;> rfl
def voidK (k : Nat) (a b : Bool) : Bool := if k = 3 then a || b else if k = 5 then a else a && b
theorem void_node {t p q : P} {k : Nat} (h : kids t = some (k, p, q)) : t.void = voidK k p.void q.void := by
  cases t <;> simp [kids] at h <;> obtain ⟨rfl, rfl, rfl⟩ := h <;> rfl
theorem badLoop_node {t p q : P} {k : Nat} (h : kids t = some (k, p, q)) : badLoop t = (decide (k = 5) && p.void) := by
  cases t <;> simp [kids] at h <;> obtain ⟨rfl, rfl, rfl⟩ := h <;> simp [badLoop]
theorem badLoop_leaf {t : P} (h : kids t = none) : badLoop t = false := by
  cases t <;> simp [kids] at h <;> rfl
theorem badStep_node {t p q : P} {k : Nat} (h : kids t = some (k, p, q)) : badStep t = false := by
  cases t <;> simp [kids] at h <;> rfl
end Pf

/-! The mathematics of loops written out, and of the walks over lists of constructs. -/
namespace Pf
open Wf (P)
open Wf06
/-! ### loops written out -/
def rest (a b : P) : Nat → P
  | 0 => a
  | k + 1 => .alt a (.seq a (.seq b (rest a b k)))
def unroll (n : Nat) : P → P
  | .act a => .act a
  | .skip => .skip
  | .seq p q => .seq (unroll n p) (unroll n q)
  | .alt p q => .alt (unroll n p) (unroll n q)
  | .both p q => .both (unroll n p) (unroll n q)
  | .loop p q => rest (unroll n p) (unroll n q) (n - 1)
theorem unroll_leaf {n : Nat} {t : P} (h : kids t = none) : unroll n t = t := by
  cases t <;> simp [kids] at h <;> rfl
theorem unroll_node {n k : Nat} {t p q : P} (h : kids t = some (k, p, q)) (hk : k ≠ 5) : unroll n t = mk k (unroll n p) (unroll n q) := by
  cases t <;> simp [kids] at h <;> obtain ⟨rfl, rfl, rfl⟩ := h
  all_goals first | rfl | exact absurd rfl hk
theorem unroll_loop {n : Nat} {t p q : P} (h : kids t = some (5, p, q)) : unroll n t = rest (unroll n p) (unroll n q) (n - 1) := by
  cases t <;> simp [kids] at h
  obtain ⟨rfl, rfl⟩ := h
  rfl
theorem front_rest (b : Book) (p q : P) : ∀ k, b.front (rest p q k) = loops (b.front p) (b.front q) k
  | 0 => rfl
  | k + 1 => by
    show best (b.front p ++ seqs (b.front p) (seqs (b.front q) (b.front (rest p q k)))) = _
    rw [front_rest b p q k]; rfl
theorem front_rest' (b : Book) (p q : P) (k : Nat) : b.front (rest p q k) = b.front p := by
  rw [front_rest, loops_eq (front_asc b p)]
theorem front_unroll (b : Book) : ∀ p : P, b.front (unroll b.rounds p) = b.front p
  | .act _ => rfl
  | .skip => rfl
  | .seq p q => by show seqs _ _ = seqs _ _; rw [front_unroll b p, front_unroll b q]
  | .alt p q => by show best _ = best _; rw [front_unroll b p, front_unroll b q]
  | .both p q => by show sides _ _ = sides _ _; rw [front_unroll b p, front_unroll b q]
  | .loop p q => by
    show b.front (rest _ _ _) = loops _ _ _
    rw [front_rest, front_unroll b p, front_unroll b q]
theorem latest_rest (b : Book) (p q : P) : ∀ k, b.latest (rest p q k) = b.latest p + k * (b.latest q + b.latest p)
  | 0 => by simp [rest]
  | k + 1 => by
    show max (b.latest p) (b.latest p + (b.latest q + b.latest (rest p q k))) = _
    rw [latest_rest b p q k, Nat.succ_mul]; omega
theorem dearest_rest (b : Book) (p q : P) : ∀ k, b.dearest (rest p q k) = b.dearest p + k * (b.dearest q + b.dearest p)
  | 0 => by simp [rest]
  | k + 1 => by
    show max (b.dearest p) (b.dearest p + (b.dearest q + b.dearest (rest p q k))) = _
    rw [dearest_rest b p q k, Nat.succ_mul]; omega
theorem latest_unroll (b : Book) : ∀ p : P, b.latest (unroll b.rounds p) = b.latest p
  | .act _ => rfl
  | .skip => rfl
  | .seq p q => by show _ + _ = _ + _; rw [latest_unroll b p, latest_unroll b q]
  | .alt p q => by show max _ _ = max _ _; rw [latest_unroll b p, latest_unroll b q]
  | .both p q => by show max _ _ = max _ _; rw [latest_unroll b p, latest_unroll b q]
  | .loop p q => by
    show b.latest (rest _ _ _) = _
    rw [latest_rest, latest_unroll b p, latest_unroll b q]; rfl
theorem dearest_unroll (b : Book) : ∀ p : P, b.dearest (unroll b.rounds p) = b.dearest p
  | .act _ => rfl
  | .skip => rfl
  | .seq p q => by show _ + _ = _ + _; rw [dearest_unroll b p, dearest_unroll b q]
  | .alt p q => by show max _ _ = max _ _; rw [dearest_unroll b p, dearest_unroll b q]
  | .both p q => by show _ + _ = _ + _; rw [dearest_unroll b p, dearest_unroll b q]
  | .loop p q => by
    show b.dearest (rest _ _ _) = _
    rw [dearest_rest, dearest_unroll b p, dearest_unroll b q]; rfl
theorem isRun_rest (n : Nat) (p q : P) : ∀ k r, isRun n (rest p q k) r = roundsOf (isRun n p) (isRun n q) k r
  | 0, _ => rfl
  | k + 1, r => by
    have ih := isRun_rest n p q k
    show (isRun n p r || isRun n (.seq p (.seq q (rest p q k))) r) = (isRun n p r || match r with
      | .seq x (.seq y z) => isRun n p x && (isRun n q y && roundsOf (isRun n p) (isRun n q) k z)
      | _ => false)
    congr 1
    cases r with
    | seq x y => cases y <;> simp [isRun, ih]
    | _ => rfl
theorem rounds_ext {f g f' g' : P → Bool} (hf : ∀ r, f r = f' r) (hg : ∀ r, g r = g' r) : ∀ k r, roundsOf f g k r = roundsOf f' g' k r := by
  have e1 : f = f' := funext hf
  have e2 : g = g' := funext hg
  intro k r; rw [e1, e2]
theorem isRun_unroll (n : Nat) : ∀ p r : P, isRun n (unroll n p) r = isRun n p r
  | .act _, _ => rfl
  | .skip, _ => rfl
  | .seq p q, r => by cases r <;> simp [unroll, isRun, isRun_unroll n p, isRun_unroll n q]
  | .alt p q, r => by simp [unroll, isRun, isRun_unroll n p, isRun_unroll n q]
  | .both p q, r => by cases r <;> simp [unroll, isRun, isRun_unroll n p, isRun_unroll n q]
  | .loop p q, r => by
    show isRun n (rest _ _ _) r = roundsOf _ _ _ r
    rw [isRun_rest]
    exact rounds_ext (isRun_unroll n p) (isRun_unroll n q) _ _
/-! ### without loops, with known steps -/
def Good : P → Prop
  | .act a => a < 6
  | .skip => True
  | .seq p q => Good p ∧ Good q
  | .alt p q => Good p ∧ Good q
  | .both p q => Good p ∧ Good q
  | .loop _ _ => False
theorem good_node {k : Nat} {t p q : P} (h : kids t = some (k, p, q)) (g : Good t) : k ≠ 5 ∧ Good p ∧ Good q := by
  cases t <;> simp [kids] at h <;> obtain ⟨rfl, rfl, rfl⟩ := h
  all_goals first | exact ⟨by decide, g⟩ | exact absurd g id
theorem good_mk {k : Nat} {p q : P} (hk : k = 2 ∨ k = 3 ∨ k = 4) (hp : Good p) (hq : Good q) : Good (mk k p q) := by
  rcases hk with rfl | rfl | rfl <;> exact ⟨hp, hq⟩
theorem good_rest {p q : P} (hp : Good p) (hq : Good q) : ∀ k, Good (rest p q k)
  | 0 => hp
  | k + 1 => ⟨hp, hp, hq, good_rest hp hq k⟩
theorem good_unroll (n : Nat) : ∀ p : P, p.right = true → Good (unroll n p)
  | .act a, h => by
    have h : decide (a < 6) = true := h
    exact (of_decide_eq_true h : a < 6)
  | .skip, _ => trivial
  | .seq p q, h => by
    have h : (p.right && q.right) = true := h
    rw [Bool.and_eq_true] at h
    exact ⟨good_unroll n p h.1, good_unroll n q h.2⟩
  | .alt p q, h => by
    have h : (p.right && q.right) = true := h
    rw [Bool.and_eq_true] at h
    exact ⟨good_unroll n p h.1, good_unroll n q h.2⟩
  | .both p q, h => by
    have h : (p.right && q.right) = true := h
    rw [Bool.and_eq_true] at h
    exact ⟨good_unroll n p h.1, good_unroll n q h.2⟩
  | .loop p q, h => by
    have h : (!p.void && (p.right && q.right)) = true := h
    rw [Bool.and_eq_true, Bool.and_eq_true] at h
    exact good_rest (good_unroll n p h.2.1) (good_unroll n q h.2.2) _
theorem right_node {k : Nat} {t p q : P} (h : kids t = some (k, p, q)) (r : t.right = true) : p.right = true ∧ q.right = true := by
  cases t <;> simp [kids] at h <;> obtain ⟨rfl, rfl, rfl⟩ := h
  all_goals (simp only [Wf.P.right, Bool.and_eq_true] at r; first | exact r | exact r.2)
theorem right_sub {u : P} : ∀ t : P, t.right = true → u ∈ subs t → u.right = true := by
  intro t
  induction t using ind with
  | leaf t h =>
    intro r m
    rw [(subs_leaf h).1, List.mem_singleton] at m
    rw [m]; exact r
  | node t k p q h hp hq =>
    intro r m
    obtain ⟨r1, r2⟩ := right_node h r
    rw [subs_node h, List.mem_append, List.mem_append, List.mem_singleton] at m
    rcases m with (m | m) | m
    · exact hq r2 m
    · exact hp r1 m
    · rw [m]; exact r
theorem size_sub {u : P} : ∀ t : P, u ∈ subs t → u.size ≤ t.size := by
  intro t
  induction t using ind with
  | leaf t h =>
    intro m
    rw [(subs_leaf h).1, List.mem_singleton] at m
    rw [m]; exact Nat.le_refl _
  | node t k p q h hp hq =>
    intro m
    rw [size_node h]
    rw [subs_node h, List.mem_append, List.mem_append, List.mem_singleton] at m
    rcases m with (m | m) | m
    · have := hq m; omega
    · have := hp m; omega
    · rw [m, size_node h]; omega
/-- a run: no choice either -/
def Plain : P → Prop
  | .act a => a < 6
  | .skip => True
  | .seq p q => Plain p ∧ Plain q
  | .alt _ _ => False
  | .both p q => Plain p ∧ Plain q
  | .loop _ _ => False
theorem plain_of (n : Nat) : ∀ u r : P, Good u → isRun n u r = true → Plain r
  | .act a, r, g, h => by
    have e : r = .act a := by simpa [isRun] using h
    rw [e]; exact g
  | .skip, r, _, h => by
    have e : r = .skip := by simpa [isRun] using h
    rw [e]; trivial
  | .seq p q, r, g, h => by
    cases r <;> simp [isRun] at h
    exact ⟨plain_of n p _ g.1 h.1, plain_of n q _ g.2 h.2⟩
  | .alt p q, r, g, h => by
    simp [isRun] at h
    rcases h with h | h
    · exact plain_of n p _ g.1 h
    · exact plain_of n q _ g.2 h
  | .both p q, r, g, h => by
    cases r <;> simp [isRun] at h
    exact ⟨plain_of n p _ g.1 h.1, plain_of n q _ g.2 h.2⟩
  | .loop _ _, _, g, _ => absurd g id
theorem plain_good : ∀ {r : P}, Plain r → Good r
  | .act _, h => h
  | .skip, _ => trivial
  | .seq _ _, h => ⟨plain_good h.1, plain_good h.2⟩
  | .alt _ _, h => absurd h id
  | .both _ _, h => ⟨plain_good h.1, plain_good h.2⟩
  | .loop _ _, h => absurd h id
theorem good_sub {u : P} : ∀ t : P, Good t → u ∈ subs t → Good u := by
  intro t
  induction t using ind with
  | leaf t h =>
    intro r m
    rw [(subs_leaf h).1, List.mem_singleton] at m
    rw [m]; exact r
  | node t k p q h hp hq =>
    intro r m
    obtain ⟨_, r1, r2⟩ := good_node h r
    rw [subs_node h, List.mem_append, List.mem_append, List.mem_singleton] at m
    rcases m with (m | m) | m
    · exact hq r2 m
    · exact hp r1 m
    · rw [m]; exact r
theorem plain_time (b : Book) : ∀ {r : P}, Plain r → b.latest r = b.time r ∧ b.dearest r = b.cost r
  | .act _, _ => ⟨rfl, rfl⟩
  | .skip, _ => ⟨rfl, rfl⟩
  | .seq p q, h => by
    obtain ⟨a1, a2⟩ := plain_time b h.1
    obtain ⟨b1, b2⟩ := plain_time b h.2
    simp [Book.latest, Book.dearest, Book.time, Book.cost, a1, a2, b1, b2]
  | .alt _ _, h => absurd h id
  | .both p q, h => by
    obtain ⟨a1, a2⟩ := plain_time b h.1
    obtain ⟨b1, b2⟩ := plain_time b h.2
    simp [Book.latest, Book.dearest, Book.time, Book.cost, a1, a2, b1, b2]
  | .loop _ _, h => absurd h id
/-! ### how long fronts and rows are -/
def cnt : P → Nat
  | .act _ => 1
  | .skip => 1
  | .seq p q => cnt p * cnt q
  | .alt p q => cnt p + cnt q
  | .both p q => cnt p * cnt q
  | .loop p _ => cnt p
def wide : P → Nat
  | .act _ => 2
  | .skip => 1
  | .seq p q => wide p + wide q + 1
  | .alt p q => max (wide p) (wide q)
  | .both p q => wide p + wide q + 1
  | .loop p _ => wide p
theorem pairs_len {α β γ : Type} (g : List β) (h : α → β → γ) : ∀ f : List α, (f.flatMap fun x => g.map fun y => h x y).length = f.length * g.length
  | [] => by simp
  | x :: f => by
    rw [List.flatMap_cons, List.length_append, pairs_len g h f, List.length_map, List.length_cons, Nat.succ_mul]; omega
theorem front_len (b : Book) : ∀ p : P, (b.front p).length ≤ cnt p
  | .act _ => Nat.le_refl _
  | .skip => Nat.le_refl _
  | .seq p q => by
    show (best _).length ≤ _
    refine Nat.le_trans (best_len _) ?_
    rw [pairs_len]; exact Nat.mul_le_mul (front_len b p) (front_len b q)
  | .alt p q => by
    show (best _).length ≤ _
    refine Nat.le_trans (best_len _) ?_
    rw [List.length_append]; exact Nat.add_le_add (front_len b p) (front_len b q)
  | .both p q => by
    show (best _).length ≤ _
    refine Nat.le_trans (best_len _) ?_
    rw [pairs_len]; exact Nat.mul_le_mul (front_len b p) (front_len b q)
  | .loop p q => by
    show (loops _ _ _).length ≤ _
    rw [loops_eq (front_asc b p)]; exact front_len b p
theorem mem_pairs {f g : List Point} {h : Point → Point → Point} {z : Point} (m : z ∈ best (f.flatMap fun x => g.map fun y => h x y)) : ∃ x ∈ f, ∃ y ∈ g, z = h x y := by
  obtain ⟨x, hx, m⟩ := List.mem_flatMap.mp (best_mem m)
  obtain ⟨y, hy, rfl⟩ := List.mem_map.mp m
  exact ⟨x, hx, y, hy, rfl⟩
theorem front_row (b : Book) : ∀ (p : P) (x : Point), x ∈ b.front p → x.r.row.length ≤ wide p
  | .act _, x, m => by
    rw [List.mem_singleton.mp m]; exact Nat.le_refl _
  | .skip, x, m => by
    rw [List.mem_singleton.mp m]; exact Nat.le_refl _
  | .seq p q, z, m => by
    obtain ⟨x, hx, y, hy, rfl⟩ := mem_pairs m
    have h1 := front_row b p x hx
    have h2 := front_row b q y hy
    simp only [Wf.P.row, List.length_cons, List.length_append, wide]; omega
  | .alt p q, z, m => by
    rcases List.mem_append.mp (best_mem m) with m | m
    · have := front_row b p z m; simp only [wide]; omega
    · have := front_row b q z m; simp only [wide]; omega
  | .both p q, z, m => by
    obtain ⟨x, hx, y, hy, rfl⟩ := mem_pairs m
    have h1 := front_row b p x hx
    have h2 := front_row b q y hy
    simp only [Wf.P.row, List.length_cons, List.length_append, wide]; omega
  | .loop p q, z, m => by
    have m : z ∈ loops _ _ _ := m
    rw [loops_eq (front_asc b p)] at m
    exact front_row b p z m
theorem wide_le : ∀ p : P, wide p ≤ 2 * p.size
  | .act _ => Nat.le_refl _
  | .skip => by decide
  | .seq p q => by have := wide_le p; have := wide_le q; simp only [wide, Wf.P.size]; omega
  | .alt p q => by have := wide_le p; have := wide_le q; simp only [wide, Wf.P.size]; omega
  | .both p q => by have := wide_le p; have := wide_le q; simp only [wide, Wf.P.size]; omega
  | .loop p q => by have := wide_le p; simp only [wide, Wf.P.size]; omega
theorem cnt_pos : ∀ p : P, 1 ≤ cnt p
  | .act _ => Nat.le_refl _
  | .skip => Nat.le_refl _
  | .seq p q => Nat.mul_pos (cnt_pos p) (cnt_pos q)
  | .alt p q => by have := cnt_pos p; simp only [cnt]; omega
  | .both p q => Nat.mul_pos (cnt_pos p) (cnt_pos q)
  | .loop p _ => cnt_pos p
theorem mulsq (a b : Nat) : (a * b) * (a * b) = (a * a) * (b * b) := Nat.mul_mul_mul_comm a b a b
theorem cnt_mul {x y A B : Nat} (hx : 2 * (x * x) ≤ A) (hy : 2 * (y * y) ≤ B) : 2 * ((x * y) * (x * y)) ≤ A * B * 2 := by
  have h := Nat.mul_le_mul hx hy
  have e : 2 * (x * x) * (2 * (y * y)) = 4 * ((x * y) * (x * y)) := by
    rw [mulsq x y, Nat.mul_mul_mul_comm 2 (x * x) 2 (y * y)]
  rw [e] at h; omega
theorem cnt_add {x y A B : Nat} (hx : 2 * (x * x) ≤ A) (hy : 2 * (y * y) ≤ B) (px : 1 ≤ x) (py : 1 ≤ y) : 2 * ((x + y) * (x + y)) ≤ A * B * 2 := by
  have h := Nat.mul_le_mul hx hy
  have e : 2 * (x * x) * (2 * (y * y)) = 4 * ((x * y) * (x * y)) := by
    rw [mulsq x y, Nat.mul_mul_mul_comm 2 (x * x) 2 (y * y)]
  rw [e] at h
  have e2 : x + y ≤ 2 * (x * y) := by
    have h1 : x ≤ x * y := Nat.le_mul_of_pos_right x py
    have h2 : y ≤ x * y := Nat.le_mul_of_pos_left y px
    omega
  have h3 := Nat.mul_le_mul e2 e2
  have e3 : 2 * (x * y) * (2 * (x * y)) = 4 * ((x * y) * (x * y)) := Nat.mul_mul_mul_comm 2 (x * y) 2 (x * y)
  rw [e3] at h3; omega
theorem pow_split (a b : Nat) : 2 ^ (a + b + 1) = 2 ^ a * 2 ^ b * 2 := by rw [Nat.pow_succ, Nat.pow_add]
theorem cnt_le : ∀ p : P, 2 * (cnt p * cnt p) ≤ 2 ^ p.size
  | .act _ => by show 2 * (1 * 1) ≤ 2 ^ 1; decide
  | .skip => by show 2 * (1 * 1) ≤ 2 ^ 1; decide
  | .seq p q => by rw [show (P.seq p q).size = p.size + q.size + 1 from rfl, pow_split]; exact cnt_mul (cnt_le p) (cnt_le q)
  | .alt p q => by rw [show (P.alt p q).size = p.size + q.size + 1 from rfl, pow_split]; exact cnt_add (cnt_le p) (cnt_le q) (cnt_pos p) (cnt_pos q)
  | .both p q => by rw [show (P.both p q).size = p.size + q.size + 1 from rfl, pow_split]; exact cnt_mul (cnt_le p) (cnt_le q)
  | .loop p q => by
    rw [show (P.loop p q).size = p.size + q.size + 1 from rfl, pow_split]
    have h := cnt_le p
    have h2 : 1 ≤ 2 ^ q.size := Nat.one_le_two_pow
    have h3 : 2 ^ p.size ≤ 2 ^ p.size * 2 ^ q.size := Nat.le_mul_of_pos_right _ h2
    show 2 * (cnt p * cnt p) ≤ _
    omega
theorem le_square {x : Nat} (h : 1 ≤ x) : x ≤ x * x := Nat.le_mul_of_pos_left x h
def Fine (b : Book) (u : P) : Prop := (b.front u).length ≤ 1024 ∧ ∀ x ∈ b.front u, x.r.row.length ≤ 1000
theorem fine_of {b : Book} {u v : P} (e : b.front u = b.front v) (hc : cnt v ≤ 1024) (hw : wide v ≤ 1000) : Fine b u := by
  unfold Fine
  rw [e]
  exact ⟨Nat.le_trans (front_len b v) hc, fun x m => Nat.le_trans (front_row b v x m) hw⟩
/-- what is written out of the process p -/
inductive Piece (n : Nat) (p : P) : P → Prop where
  | leaf {t : P} (m : t ∈ subs p) (h : kids t = none) : Piece n p t
  | node {t a b : P} {k : Nat} (m : t ∈ subs p) (h : kids t = some (k, a, b)) (hk : k ≠ 5) : Piece n p (mk k (unroll n a) (unroll n b))
  | one {t a b : P} (m : t ∈ subs p) (h : kids t = some (5, a, b)) (j : Nat) : Piece n p (.seq (unroll n b) (rest (unroll n a) (unroll n b) j))
  | two {t a b : P} (m : t ∈ subs p) (h : kids t = some (5, a, b)) (j : Nat) : Piece n p (.seq (unroll n a) (.seq (unroll n b) (rest (unroll n a) (unroll n b) j)))
  | three {t a b : P} (m : t ∈ subs p) (h : kids t = some (5, a, b)) (j : Nat) : Piece n p (rest (unroll n a) (unroll n b) (j + 1))
theorem front_mk (b : Book) {p p' q q' : P} {k : Nat} (hk : k = 2 ∨ k = 3 ∨ k = 4) (hp : b.front p = b.front p') (hq : b.front q = b.front q') : b.front (mk k p q) = b.front (mk k p' q') := by
  rcases hk with rfl | rfl | rfl
  · show seqs _ _ = seqs _ _; rw [hp, hq]
  · show best _ = best _; rw [hp, hq]
  · show sides _ _ = sides _ _; rw [hp, hq]
theorem kind234 {t p q : P} {k : Nat} (h : kids t = some (k, p, q)) (hk : k ≠ 5) : k = 2 ∨ k = 3 ∨ k = 4 := by
  obtain ⟨_, h1, h2⟩ := mk_kids h; omega
theorem small {p : P} (h : p.size ≤ 11) : cnt p ≤ 1024 ∧ wide p ≤ 22 := by
  refine ⟨?_, by have := wide_le p; omega⟩
  have h1 := cnt_le p
  have h2 := le_square (cnt_pos p)
  have h3 : 2 ^ p.size ≤ 2 ^ 11 := Nat.pow_le_pow_right (by decide) h
  have h4 : (2 : Nat) ^ 11 = 2048 := by decide
  omega
theorem fine_piece {b : Book} {p u : P} (hs : p.size ≤ 11) (h : Piece b.rounds p u) : Fine b u := by
  cases h with
  | leaf m h =>
    have h1 := small (Nat.le_trans (size_sub p m) hs)
    exact fine_of rfl h1.1 (by omega)
  | @node t x y k m h hk =>
    have h1 := small (Nat.le_trans (size_sub p m) hs)
    refine fine_of (v := t) ?_ h1.1 (by omega)
    rw [(mk_kids h).1]
    exact front_mk b (kind234 h hk) (front_unroll b x) (front_unroll b y)
  | @one t x y m h j =>
    have hz := Nat.le_trans (size_sub p m) hs
    rw [size_node h] at hz
    have hx := cnt_le x
    have hy := cnt_le y
    have h1 := cnt_mul hx hy
    rw [← pow_split] at h1
    have h3 : 2 ^ (x.size + y.size + 1) ≤ 2 ^ 11 := Nat.pow_le_pow_right (by decide) hz
    have h4 : (2 : Nat) ^ 11 = 2048 := by decide
    have h5 := le_square (Nat.mul_pos (cnt_pos x) (cnt_pos y))
    have wx := wide_le x
    have wy := wide_le y
    have px := size_pos x
    have py := size_pos y
    refine fine_of (v := .seq y x) ?_ ?_ ?_
    · show seqs _ _ = seqs _ _; rw [front_rest', front_unroll, front_unroll]
    · show cnt y * cnt x ≤ _
      rw [Nat.mul_comm]; omega
    · show wide y + wide x + 1 ≤ _; omega
  | @two t x y m h j =>
    have hz := Nat.le_trans (size_sub p m) hs
    rw [size_node h] at hz
    have hx := cnt_le x
    have hy := cnt_le y
    have h1 := cnt_mul hx hy
    rw [← pow_split] at h1
    have h3 : 2 ^ (x.size + y.size + 1) ≤ 2 ^ 11 := Nat.pow_le_pow_right (by decide) hz
    have h4 : (2 : Nat) ^ 11 = 2048 := by decide
    have wx := wide_le x
    have wy := wide_le y
    refine fine_of (v := .seq x (.seq y x)) ?_ ?_ ?_
    · show seqs _ (seqs _ _) = seqs _ (seqs _ _); rw [front_rest', front_unroll, front_unroll]
    · show cnt x * (cnt y * cnt x) ≤ _
      have e : cnt x * (cnt y * cnt x) ≤ (cnt x * cnt y) * (cnt x * cnt y) := by
        rw [Nat.mul_comm (cnt y) (cnt x)]
        exact Nat.mul_le_mul_right _ (Nat.le_mul_of_pos_right _ (cnt_pos y))
      omega
    · show wide x + (wide y + wide x + 1) + 1 ≤ _; omega
  | @three t x y m h j =>
    have hz := Nat.le_trans (size_sub p m) hs
    rw [size_node h] at hz
    have h1 := small (p := x) (by omega)
    refine fine_of (v := x) ?_ h1.1 (by omega)
    rw [front_rest', front_unroll]
theorem good_piece {n : Nat} {p u : P} (hr : p.right = true) (h : Piece n p u) : Good u := by
  cases h with
  | leaf m h =>
    rw [← unroll_leaf (n := n) h]
    exact good_unroll n _ (right_sub p hr m)
  | @node t x y k m h hk =>
    have r := right_node h (right_sub p hr m)
    exact good_mk (kind234 h hk) (good_unroll n _ r.1) (good_unroll n _ r.2)
  | @one t x y m h j =>
    have r := right_node h (right_sub p hr m)
    have g1 := good_unroll n _ r.1
    have g2 := good_unroll n _ r.2
    exact ⟨g2, good_rest g1 g2 j⟩
  | @two t x y m h j =>
    have r := right_node h (right_sub p hr m)
    have g1 := good_unroll n _ r.1
    have g2 := good_unroll n _ r.2
    exact ⟨g1, g2, good_rest g1 g2 j⟩
  | @three t x y m h j =>
    have r := right_node h (right_sub p hr m)
    exact good_rest (good_unroll n _ r.1) (good_unroll n _ r.2) _
/-! ### the list of what is written out -/
def loopUn (un : List (List Nat)) (f g : Nat) : Nat → List (List Nat)
  | 0 => un
  | j + 1 => loopUn un f g j ++ [[2, g, (loopUn un f g j).length - 1], [2, f, (loopUn un f g j).length], [3, f, (loopUn un f g j).length + 1]]
theorem loopUn_len (un : List (List Nat)) (f g : Nat) : ∀ j, (loopUn un f g j).length = un.length + 3 * j
  | 0 => rfl
  | j + 1 => by rw [loopUn, List.length_append, loopUn_len un f g j]; simp; omega
structure Outs (n : Nat) (p : P) (i : Nat) (us : List P) (un : List (List Nat)) (ps : List Nat) : Prop where
  enc : Enc false us un
  len : ps.length = i
  place : ∀ j t, j < i → (subs p)[j]? = some t → ∃ x, ps[j]? = some x ∧ us[x]? = some (unroll n t)
  last : ∀ x, ps.getLast? = some x → x + 1 = us.length
  part : ∀ u ∈ us, Piece n p u
  size : un.length ≤ 6 * i
theorem outs_zero (n : Nat) (p : P) : Outs n p 0 [] [] [] :=
  ⟨.nil, rfl, fun j t h => by omega, fun x h => by simp at h, fun u h => by simp at h, by simp⟩
theorem Outs.push {n : Nat} {p t : P} {i : Nat} {us : List P} {un : List (List Nat)} {ps : List Nat} {us' : List P} {un' : List (List Nat)} (h : Outs n p i us un ps) (ht : (subs p)[i]? = some t)
    (he : Enc false (us ++ us') un') (hl : (us ++ us').getLast? = some (unroll n t)) (hp : ∀ u ∈ us', Piece n p u) (hs : un'.length ≤ 6 * (i + 1)) : Outs n p (i + 1) (us ++ us') un' (ps ++ [un'.length - 1]) := by
  have hlen := he.len
  have hne : 0 < (us ++ us').length := by
    cases e : us ++ us' with
    | nil => rw [e] at hl; simp at hl
    | cons a r => simp
  refine ⟨he, by simp [h.len], fun j u hj hu => ?_, fun x hx => ?_, fun u hu => ?_, hs⟩
  · by_cases hji : j < i
    · obtain ⟨x, h1, h2⟩ := h.place j u hji hu
      exact ⟨x, get_app h1, get_app h2⟩
    · have : j = i := by omega
      subst this
      rw [ht] at hu
      cases hu
      refine ⟨un'.length - 1, ?_, ?_⟩
      · rw [← h.len]; exact get_end _ _
      · rw [← hlen, ← List.getLast?_eq_getElem?]; exact hl
  · rw [List.getLast?_concat] at hx
    cases hx
    omega
  · rcases List.mem_append.mp hu with hu | hu
    · exact h.part u hu
    · exact hp u hu
theorem Outs.leaf {n : Nat} {p t : P} {i : Nat} {us : List P} {un : List (List Nat)} {ps : List Nat} (h : Outs n p i us un ps) (ht : (subs p)[i]? = some t) (hk : kids t = none) :
    Outs n p (i + 1) (us ++ [t]) (un ++ [tok t]) (ps ++ [(un ++ [tok t]).length - 1]) := by
  refine h.push ht (h.enc.snoc (.of_leaf hk)) ?_ (fun u hu => ?_) ?_
  · rw [List.getLast?_concat, unroll_leaf hk]
  · rw [List.mem_singleton] at hu
    rw [hu]; exact .leaf (List.mem_of_getElem? ht) hk
  · have := h.size
    rw [List.length_append, List.length_singleton]; omega
theorem Outs.node {n : Nat} {p t a b : P} {i k x y : Nat} {us : List P} {un : List (List Nat)} {ps : List Nat} (h : Outs n p i us un ps) (ht : (subs p)[i]? = some t) (hk : kids t = some (k, a, b)) (h5 : k ≠ 5)
    (hx : x < i) (hy : y < i) (ha : (subs p)[x]? = some a) (hb : (subs p)[y]? = some b) :
    ∃ f g, ps[x]? = some f ∧ ps[y]? = some g ∧ Outs n p (i + 1) (us ++ [Pf.mk k (unroll n a) (unroll n b)]) (un ++ [[k, f, g]]) (ps ++ [(un ++ [[k, f, g]]).length - 1]) := by
  obtain ⟨f, h1, h2⟩ := h.place x a hx ha
  obtain ⟨g, h3, h4⟩ := h.place y b hy hb
  obtain ⟨_, q1, q2⟩ := mk_kids hk
  refine ⟨f, g, h1, h3, h.push ht (h.enc.snoc (.of_node (kids_mk _ _ q1 q2) (List.getElem?_eq_some_iff.mp h2).1 (List.getElem?_eq_some_iff.mp h4).1 (fun z => by simp at z) h2 h4)) ?_ (fun u hu => ?_) ?_⟩
  · rw [List.getLast?_concat, unroll_node hk h5]
  · rw [List.mem_singleton] at hu
    rw [hu]; exact .node (List.mem_of_getElem? ht) hk h5
  · have := h.size
    rw [List.length_append, List.length_singleton]; omega
theorem loop_enc {us : List P} {un : List (List Nat)} {f g : Nat} {A B : P} {C : P → Prop} (he : Enc false us un) (hf : us[f]? = some A) (hg : us[g]? = some B) (hl : us.getLast? = some A)
    (h1 : ∀ j, C (.seq B (rest A B j))) (h2 : ∀ j, C (.seq A (.seq B (rest A B j)))) (h3 : ∀ j, C (rest A B (j + 1))) :
    ∀ j, ∃ us', Enc false (us ++ us') (loopUn un f g j) ∧ (us ++ us').getLast? = some (rest A B j) ∧ ∀ u ∈ us', C u
  | 0 => ⟨[], by simpa [loopUn] using he, by simpa [rest] using hl, by simp⟩
  | j + 1 => by
    obtain ⟨us', e, l, c⟩ := loop_enc he hf hg hl h1 h2 h3 j
    have hlen := e.len
    have hp : 0 < (us ++ us').length := by
      cases q : us ++ us' with
      | nil => rw [q] at l; simp at l
      | cons a r => simp
    have ef : (us ++ us')[f]? = some A := get_app hf
    have eg : (us ++ us')[g]? = some B := get_app hg
    rw [List.getLast?_eq_getElem?] at l
    have e1 := e.snoc (t := .seq B (rest A B j)) (c := [2, g, (loopUn un f g j).length - 1]) (.of_node rfl (List.getElem?_eq_some_iff.mp eg).1 (by omega) (fun z => by simp at z) eg (by rw [← hlen]; exact l))
    have e2 := e1.snoc (t := .seq A (.seq B (rest A B j))) (c := [2, f, (loopUn un f g j).length]) (.of_node rfl (by rw [List.length_append]; have := (List.getElem?_eq_some_iff.mp ef).1; omega) (by rw [List.length_append, hlen]; simp) (fun z => by simp at z) (get_app ef) (by rw [← hlen]; exact get_end _ _))
    have e3 := e2.snoc (t := rest A B (j + 1)) (c := [3, f, (loopUn un f g j).length + 1]) (.of_node rfl (by rw [List.length_append, List.length_append]; have := (List.getElem?_eq_some_iff.mp ef).1; omega) (by rw [List.length_append, List.length_append, hlen]; simp) (fun z => by simp at z) (get_app (get_app ef)) (by
      have := get_end ((us ++ us') ++ [P.seq B (rest A B j)]) (.seq A (.seq B (rest A B j)))
      rw [List.length_append, List.length_singleton, hlen] at this
      exact this))
    refine ⟨us' ++ [.seq B (rest A B j), .seq A (.seq B (rest A B j)), rest A B (j + 1)], ?_, ?_, ?_⟩
    · rw [loopUn]
      simpa using e3
    · have : us ++ (us' ++ [P.seq B (rest A B j), .seq A (.seq B (rest A B j)), rest A B (j + 1)]) = (us ++ us' ++ [P.seq B (rest A B j), .seq A (.seq B (rest A B j))]) ++ [rest A B (j + 1)] := by simp
      rw [this, List.getLast?_concat]
    · intro u hu
      rcases List.mem_append.mp hu with hu | hu
      · exact c u hu
      · simp only [List.mem_cons, List.not_mem_nil, or_false] at hu
        rcases hu with rfl | rfl | rfl
        · exact h1 j
        · exact h2 j
        · exact h3 j
theorem Outs.loop {n : Nat} {p t a b : P} {i x y : Nat} {us : List P} {un : List (List Nat)} {ps : List Nat} (h : Outs n p i us un ps) (hn : n ≤ 3) (ht : (subs p)[i]? = some t) (hk : kids t = some (5, a, b))
    (hx : x + 1 = i) (hy : y < i) (ha : (subs p)[x]? = some a) (hb : (subs p)[y]? = some b) :
    ∃ f g, ps[x]? = some f ∧ ps[y]? = some g ∧ f + 1 = us.length ∧ ∃ us', Outs n p (i + 1) (us ++ us') (loopUn un f g (n - 1)) (ps ++ [(loopUn un f g (n - 1)).length - 1]) := by
  obtain ⟨f, h1, h2⟩ := h.place x a (by omega) ha
  obtain ⟨g, h3, h4⟩ := h.place y b hy hb
  have m := List.mem_of_getElem? ht
  have hf : f + 1 = us.length := by
    refine h.last f ?_
    rw [List.getLast?_eq_getElem?, h.len, ← h1]
    congr 1; omega
  have hl : us.getLast? = some (unroll n a) := by
    rw [List.getLast?_eq_getElem?, ← h2]
    congr 1; omega
  obtain ⟨us', e, l, c⟩ := loop_enc (C := Piece n p) h.enc h2 h4 hl (fun j => .one m hk j) (fun j => .two m hk j) (fun j => .three m hk j) (n - 1)
  refine ⟨f, g, h1, h3, hf, us', h.push ht e (by rw [l, unroll_loop hk]) c ?_⟩
  have := h.size
  rw [loopUn_len]; omega
theorem Outs.done {n : Nat} {p : P} {us : List P} {un : List (List Nat)} {ps : List Nat} (h : Outs n p p.size us un ps) : us.getLast? = some (unroll n p) := by
  have e := subs_last p
  rw [List.getLast?_eq_getElem?, subs_len] at e
  have := size_pos p
  obtain ⟨x, h1, h2⟩ := h.place (p.size - 1) p (by omega) e
  have hl := h.last x (by rw [List.getLast?_eq_getElem?, h.len]; exact h1)
  rw [List.getLast?_eq_getElem?, ← h2]
  congr 1; omega
end Pf

/-! The mathematics of the list of calls. -/
namespace Pf
open Wf (P)
open Wf06
abbrev toZ (l : List Nat) : List Int := l.map fun (n : Nat) => (n : Int)
/-- a call as the program reads it -/
def flatOf : Call → List Int
  | .process l => 0 :: (l.length : Int) :: toZ l
  | .step a t c => [1, (a : Int), (t : Int), (c : Int)]
  | .rounds n => [2, (n : Int)]
  | .front => [3]
  | .by_ t => [4, (t : Int)]
  | .soonest => [5]
  | .worst => [6]
  | .judge l => 7 :: (l.length : Int) :: toZ l
def rawOf : Call → List (List Int)
  | .process l => [[0], toZ l]
  | .step a t c => [[1, (a : Int), (t : Int), (c : Int)]]
  | .rounds n => [[2, (n : Int)]]
  | .front => [[3]]
  | .by_ t => [[4, (t : Int)]]
  | .soonest => [[5]]
  | .worst => [[6]]
  | .judge l => [[7], toZ l]
def short : Call → Prop
  | .process l => l.length ≤ 100
  | .judge l => l.length ≤ 100
  | _ => True
theorem nats_ints : ∀ {x : List Int}, x.all (PyInside.within 0 4294967295) = true → toZ (Wf06Neutral.nats x) = x
  | [], _ => rfl
  | z :: x, h => by
    rw [List.all_cons, Bool.and_eq_true] at h
    have h1 : (decide (0 ≤ z) && decide (z ≤ 4294967295)) = true := h.1
    rw [Bool.and_eq_true, decide_eq_true_eq] at h1
    show ((z.toNat : Nat) : Int) :: toZ (Wf06Neutral.nats x) = z :: x
    rw [nats_ints h.2, Int.toNat_of_nonneg h1.1]
theorem ints_nats (l : List Nat) : Wf06Neutral.nats (toZ l) = l := by
  induction l with
  | nil => rfl
  | cons a l ih =>
    show ((a : Int)).toNat :: Wf06Neutral.nats (toZ l) = a :: l
    rw [ih]; simp
theorem callOf_raw (c : Call) : Wf06Neutral.callOf (rawOf c) = some c := by
  cases c <;> simp [rawOf, Wf06Neutral.callOf, ints_nats]
theorem whole_raw (c : Call) : PyWf06.whole (rawOf c) = rawOf c := by
  cases c <;> rfl
theorem row_some {r x t : List Int} (h : PyFlat.row r = some (x, t)) : r = (x.length : Int) :: (x ++ t) := by
  cases r with
  | nil => cases h
  | cons n r =>
    have h : (if 0 ≤ n ∧ n.toNat ≤ r.length then some (r.take n.toNat, r.drop n.toNat) else none) = some (x, t) := h
    by_cases hc : 0 ≤ n ∧ n.toNat ≤ r.length
    · rw [if_pos hc] at h
      cases h
      rw [List.take_append_drop, List.length_take, Nat.min_eq_left hc.2, Int.toNat_of_nonneg hc.1]
    · rw [if_neg hc] at h
      cases h
theorem within_nat {z : Int} (h : PyInside.within 0 4294967295 z = true) : ((z.toNat : Nat) : Int) = z := by
  have h1 : (decide (0 ≤ z) && decide (z ≤ 4294967295)) = true := h
  rw [Bool.and_eq_true, decide_eq_true_eq] at h1
  exact Int.toNat_of_nonneg h1.1
/-- a call that carries one list -/
theorem call_list {p : Int} {r t : List Int} {c : List (List Int)} (hs : PyWf06.shape p = some (0, 1)) (h : PyFlat.call PyWf06.shape (p :: r) = some (c, t)) : ∃ x, r = (x.length : Int) :: (x ++ t) ∧ c = [[p], x] := by
  unfold PyFlat.call at h
  dsimp only at h
  rw [hs] at h
  dsimp only at h
  rw [if_neg (Nat.not_lt_zero _)] at h
  rw [List.drop_zero, List.take_zero] at h
  unfold PyFlat.rows at h
  cases e : PyFlat.row r with
  | none => rw [e] at h; cases h
  | some y =>
    rw [e] at h
    unfold PyFlat.rows at h
    cases h
    exact ⟨y.1, row_some e, rfl⟩
theorem call_nums {p : Int} {r t : List Int} {c : List (List Int)} {n : Nat} (hs : PyWf06.shape p = some (n, 0)) (h : PyFlat.call PyWf06.shape (p :: r) = some (c, t)) : n ≤ r.length ∧ t = r.drop n ∧ c = [p :: r.take n] := by
  unfold PyFlat.call at h
  dsimp only at h
  rw [hs] at h
  dsimp only at h
  split at h
  · cases h
  · rename_i hc
    unfold PyFlat.rows at h
    cases h
    exact ⟨by omega, rfl, rfl⟩
theorem shape_cases {p : Int} {n k : Nat} (h : PyWf06.shape p = some (n, k)) : p = 0 ∨ p = 1 ∨ p = 2 ∨ p = 3 ∨ p = 4 ∨ p = 5 ∨ p = 6 ∨ p = 7 := by
  unfold PyWf06.shape at h
  repeat' split at h
  all_goals first | omega | cases h
theorem one_call {p : Int} {r t : List Int} {c : List (List Int)} (h : PyFlat.call PyWf06.shape (p :: r) = some (c, t)) (hb : PyInside.call PyWf06.bound c = true) :
    ∃ w : Call, p :: r = flatOf w ++ t ∧ c = rawOf w ∧ short w := by
  have hs : ∃ n k, PyWf06.shape p = some (n, k) := by
    unfold PyFlat.call at h
    dsimp only at h
    cases e : PyWf06.shape p with
    | none => rw [e] at h; cases h
    | some y => exact ⟨y.1, y.2, rfl⟩
  obtain ⟨n, k, hs⟩ := hs
  rcases shape_cases hs with rfl | rfl | rfl | rfl | rfl | rfl | rfl | rfl
  · obtain ⟨x, rfl, rfl⟩ := call_list rfl h
    have hb : (decide (0 ≤ x.length) && decide (x.length ≤ 100) && x.all (PyInside.within 0 4294967295) && true) = true := hb
    simp only [Bool.and_eq_true, decide_eq_true_eq] at hb
    have e := nats_ints hb.1.2
    refine ⟨.process (Wf06Neutral.nats x), ?_, ?_, ?_⟩
    · show _ = 0 :: ((Wf06Neutral.nats x).length : Int) :: toZ (Wf06Neutral.nats x) ++ t
      rw [e]; simp [Wf06Neutral.nats]
    · show _ = [[0], toZ (Wf06Neutral.nats x)]
      rw [e]
    · show (Wf06Neutral.nats x).length ≤ 100
      simpa [Wf06Neutral.nats] using hb.1.1.2
  · obtain ⟨hl, rfl, rfl⟩ := call_nums (n := 3) rfl h
    obtain ⟨a, b, d, t, rfl⟩ : ∃ a b d t, r = a :: b :: d :: t := by
      match r, hl with
      | a :: b :: d :: t, _ => exact ⟨a, b, d, t, rfl⟩
    have hb : (PyInside.within 0 4294967295 a && (PyInside.within 0 4294967295 b && (PyInside.within 0 4294967295 d && true)) && true) = true := hb
    simp only [Bool.and_eq_true] at hb
    refine ⟨.step a.toNat b.toNat d.toNat, ?_, ?_, trivial⟩
    · show _ = [1, (a.toNat : Int), (b.toNat : Int), (d.toNat : Int)] ++ t
      rw [within_nat hb.1.1, within_nat hb.1.2.1, within_nat hb.1.2.2.1]; rfl
    · show _ = [[1, (a.toNat : Int), (b.toNat : Int), (d.toNat : Int)]]
      rw [within_nat hb.1.1, within_nat hb.1.2.1, within_nat hb.1.2.2.1]; rfl
  · obtain ⟨hl, rfl, rfl⟩ := call_nums (n := 1) rfl h
    obtain ⟨a, t, rfl⟩ : ∃ a t, r = a :: t := by
      match r, hl with
      | a :: t, _ => exact ⟨a, t, rfl⟩
    have hb : (PyInside.within 0 4294967295 a && true && true) = true := hb
    simp only [Bool.and_eq_true] at hb
    refine ⟨.rounds a.toNat, ?_, ?_, trivial⟩
    · show _ = [2, (a.toNat : Int)] ++ t
      rw [within_nat hb.1.1]; rfl
    · show _ = [[2, (a.toNat : Int)]]
      rw [within_nat hb.1.1]; rfl
  · obtain ⟨hl, rfl, rfl⟩ := call_nums (n := 0) rfl h
    exact ⟨.front, rfl, rfl, trivial⟩
  · obtain ⟨hl, rfl, rfl⟩ := call_nums (n := 1) rfl h
    obtain ⟨a, t, rfl⟩ : ∃ a t, r = a :: t := by
      match r, hl with
      | a :: t, _ => exact ⟨a, t, rfl⟩
    have hb : (PyInside.within 0 4294967295 a && true && true) = true := hb
    simp only [Bool.and_eq_true] at hb
    refine ⟨.by_ a.toNat, ?_, ?_, trivial⟩
    · show _ = [4, (a.toNat : Int)] ++ t
      rw [within_nat hb.1.1]; rfl
    · show _ = [[4, (a.toNat : Int)]]
      rw [within_nat hb.1.1]; rfl
  · obtain ⟨hl, rfl, rfl⟩ := call_nums (n := 0) rfl h
    exact ⟨.soonest, rfl, rfl, trivial⟩
  · obtain ⟨hl, rfl, rfl⟩ := call_nums (n := 0) rfl h
    exact ⟨.worst, rfl, rfl, trivial⟩
  · obtain ⟨x, rfl, rfl⟩ := call_list rfl h
    have hb : (decide (0 ≤ x.length) && decide (x.length ≤ 100) && x.all (PyInside.within 0 4294967295) && true) = true := hb
    simp only [Bool.and_eq_true, decide_eq_true_eq] at hb
    have e := nats_ints hb.1.2
    refine ⟨.judge (Wf06Neutral.nats x), ?_, ?_, ?_⟩
    · show _ = 7 :: ((Wf06Neutral.nats x).length : Int) :: toZ (Wf06Neutral.nats x) ++ t
      rw [e]; simp [Wf06Neutral.nats]
    · show _ = [[7], toZ (Wf06Neutral.nats x)]
      rw [e]
    · show (Wf06Neutral.nats x).length ≤ 100
      simpa [Wf06Neutral.nats] using hb.1.1.2
def flats (cs : List Call) : List Int := cs.flatMap flatOf
theorem all_calls : ∀ (f : Nat) (l : List Int) (raw : List (List (List Int))), PyFlat.calls PyWf06.shape f l = some raw → PyInside.calls PyWf06.bound raw = true → ∃ cs : List Call, l = flats cs ∧ raw = cs.map rawOf ∧ ∀ w ∈ cs, short w
  | f, [], raw, h, _ => by
    have e : PyFlat.calls PyWf06.shape f [] = some [] := by cases f <;> rfl
    rw [e] at h; cases h
    exact ⟨[], rfl, rfl, fun w m => by simp at m⟩
  | 0, p :: r, raw, h, _ => by cases h
  | f + 1, p :: r, raw, h, hb => by
    unfold PyFlat.calls at h
    split at h
    · cases h
    · rename_i c t e
      split at h
      · cases h
      · rename_i cs e2
        cases h
        have hb : (PyInside.call PyWf06.bound c && PyInside.calls PyWf06.bound cs) = true := hb
        rw [Bool.and_eq_true] at hb
        obtain ⟨w, h1, h2, h3⟩ := one_call e hb.1
        obtain ⟨ws, k1, k2, k3⟩ := all_calls f t cs e2 hb.2
        refine ⟨w :: ws, ?_, ?_, fun v m => ?_⟩
        · rw [h1, k1]; rfl
        · rw [h2, k2]; rfl
        · rcases List.mem_cons.mp m with rfl | m
          · exact h3
          · exact k3 v m
/-- what is told -/
def tells : House → List Call → List Int
  | _, [] => []
  | h, c :: r => ((Wf06Neutral.out (Wf06.step h c).2).length : Int) :: Wf06Neutral.out (Wf06.step h c).2 ++ tells (Wf06.step h c).1 r
theorem step_raw (h : House) (c : Call) : Wf06Neutral.step h (rawOf c) = ((Wf06.step h c).1, Wf06Neutral.out (Wf06.step h c).2) := by
  unfold Wf06Neutral.step
  rw [callOf_raw]
theorem told_is : ∀ (cs : List Call) (h : House), PyFlat.told (PyFlat.played Wf06Neutral.step h (cs.map rawOf)) = tells h cs
  | [], _ => rfl
  | c :: r, h => by
    have ih := told_is r (Wf06.step h c).1
    show ((Wf06Neutral.step h (rawOf c)).2.length : Int) :: (Wf06Neutral.step h (rawOf c)).2 ++ PyFlat.told (PyFlat.played Wf06Neutral.step (Wf06Neutral.step h (rawOf c)).1 (r.map rawOf)) = _
    rw [step_raw, ih]; rfl
theorem asked_is {l : List Int} (h : PyWf06.answers_asked l = true) : ∃ cs : List Call, l = flats cs ∧ (∀ w ∈ cs, short w) ∧ PyWf06.answers l = tells Wf06.init cs ∧ (tells Wf06.init cs).length ≤ 10000000 := by
  unfold PyWf06.answers_asked at h
  split at h
  · cases h
  · rename_i raw e
    simp only [Bool.and_eq_true] at h
    obtain ⟨⟨⟨⟨_, _⟩, hb⟩, _⟩, hs⟩ := h
    obtain ⟨cs, h1, h2, h3⟩ := all_calls _ _ _ e hb
    have ha : PyWf06.answers l = tells Wf06.init cs := by
      unfold PyWf06.answers PyWf06.calls
      rw [e]
      dsimp only
      rw [h2, List.map_map]
      have : (PyWf06.whole ∘ rawOf) = rawOf := funext whole_raw
      rw [this]
      exact told_is cs _
    refine ⟨cs, h1, h3, ha, ?_⟩
    rw [ha] at hs
    exact of_decide_eq_true hs
/-! ### the state -/
structure Sound (h : House) : Prop where
  right : h.p.right = true
  size : h.p.size ≤ 11
  times : h.book.times.length = 6
  costs : h.book.costs.length = 6
  least : 1 ≤ h.book.rounds
  most : h.book.rounds ≤ 3
theorem sound_init : Sound Wf06.init := ⟨rfl, by decide, rfl, rfl, by decide, by decide⟩
/-- what process answers of a list of numbers, told by run? -/
theorem process_is (h : House) (l : List Nat) : Wf06.step h (.process l) = match Wf06.run? l with
    | none => (h, ok (-1))
    | some p => if p.right = true ∧ p.size ≤ 11 then ({ h with p := p }, ok (p.size : Nat)) else (h, ok (-1)) := by
  unfold Wf06.step Wf.process Wf06.run?
  dsimp only
  cases Wf.read (l.length + 1) l with
  | none => rfl
  | some x =>
    obtain ⟨p, r⟩ := x
    cases r with
    | cons a r => rfl
    | nil =>
      dsimp only
      by_cases h1 : p.right = true ∧ p.size ≤ Wf.SIZE
      · rw [if_pos h1]
        dsimp only
        by_cases h2 : Wf06.SIZE < p.size
        · rw [if_pos h2, if_neg (fun z => by have := z.2; unfold Wf06.SIZE at h2; omega)]
        · rw [if_neg h2, if_pos ⟨h1.1, by unfold Wf06.SIZE at h2; omega⟩]
      · rw [if_neg h1, if_neg (fun z => h1 ⟨z.1, by unfold Wf.SIZE; omega⟩)]
theorem sound_step {h : House} (s : Sound h) (c : Call) : Sound (Wf06.step h c).1 := by
  cases c with
  | process l =>
    rw [process_is]
    split
    · exact s
    · split
      · rename_i p _ hp
        exact ⟨hp.1, hp.2, s.times, s.costs, s.least, s.most⟩
      · exact s
  | step a t c =>
    unfold Wf06.step
    dsimp only
    split
    · exact s
    · exact ⟨s.right, s.size, by simp [s.times], by simp [s.costs], s.least, s.most⟩
  | rounds n =>
    unfold Wf06.step
    dsimp only
    split
    · exact s
    · rename_i hn
      refine ⟨s.right, s.size, s.times, s.costs, ?_, ?_⟩
      · show 1 ≤ n; omega
      · show n ≤ 3; unfold Wf06.ROUNDS at hn; omega
  | front => exact s
  | by_ t => exact s
  | soonest => exact s
  | worst => exact s
  | judge l => exact s
end Pf

set_option Elab.async false
set_option linter.all false
set_option maxRecDepth 100000
set_option maxHeartbeats 2000000
/-! Two rules of one's own: a list is extended by a tuple; a list is sorted by a key that a def of the text gives. -/
namespace Pf
open PySem PySem.Spec PyProof.Rows L2
section
variable {X : Cx}
/-- xs.extend(t), t a tuple -/
def rMoreT : V → List V → Hp → VK → Prop := fun x vs H Q => ∃ l b xs zs, x = .ref l ∧ vs = [.ref b] ∧ H l = some (.lst xs) ∧ H b = some (.tup zs) ∧ xs.length + zs.length ≤ sizeLine ∧ Q .non (upd H l (.lst (xs ++ zs)))
theorem mt_moreT : MtM X "list.extend" rMoreT := by
  intro pins s σ H x vs v us Q I rx rv h
  obtain ⟨l, b, xs, zs, rfl, rfl, hl, hb, room, q⟩ := h
  cases rx
  obtain ⟨u, rfl, ru⟩ := rv.one
  cases ru
  obtain ⟨z, its, n, r, len, e⟩ := I.lstM hl
  obtain ⟨_, its2, r2, o, ho, hc, n2, hd⟩ := I.hok _ _ hb
  have len2 := r2.length
  have both : its.toArray.size + its2.toArray.size ≤ sizeLine := by rw [List.size_toArray, List.size_toArray]; omega
  refine PyProof.Rows.wpAny_call_entry_kw PySem.F.slot_list_extend ⟨_, e, rfl⟩ PySem.F.entry_list_extend ?_ (PySem.F.args_list_extend_2 _ _)
  show wpAny _ _ (Builtin.List.listExtendWith (.ref l) (.ref b) .none) _ _ s
  unfold Builtin.List.listExtendWith
  refine wpAny_bind (wpAny_typeOf (T := "tuple") ⟨o, ho, hc⟩ ?_)
  rw [if_pos (by simp)]
  refine wpAny_bind (listItems_at ho hd ?_)
  refine wpAny_bind (listItems_at e rfl ?_)
  rw [if_neg (by rw [notLongL both, Bool.and_false]; exact Bool.false_ne_true)]
  refine wpAny_bind (listUpdate_at e rfl ?_ (by rw [List.size_toArray]; omega) (by show (its.toArray ++ its2.toArray).size ≤ _; rw [Array.size_append]; omega))
  refine wpAny_pure ⟨.none, rfl, ?_⟩
  refine ⟨.non, _, I.lset (its' := its ++ its2) hl e (by simp) (r.append r2) ?_, rfl, q⟩
  rw [List.length_append]
  omega
end
/-! ### sorted(entries, key=f), f's body being: return entry[0] -/
/-- the def at f hands back the first item of its one argument -/
structure FirstOf (K : PySem.W.Frag) (f : Addr) : Prop where
  is : ∃ (qual : Str) (st : Stmt) (fd : FuncData) (a b c d : Pos) (j : Nat), Fun K "pair_of" qual st f fd ∧ L2.Binds K fd ["entry"] [] ∧ FnScope ["entry"] ["entry"] (defScope st) ∧
    (defScope st).names.lookup ("entry" : Str) = some NameKind.local ∧ defBody st = [.Return (some (.Subscript (.Name "entry" a) (.Constant (.int 0) j b) c)) d]
theorem first_call {P : Program} {w : World} {K : PySem.W.Frag} {mg : Str → Option Value} {base : Heap} {A : Around} {outer : List Env} {s : Shared} {H : Hp} {f t : Addr} {its : Array Value} {u : Value} {k : PyData}
    (F : FirstOf K f) (room : Room 1 A) (e0 : Env0 P w K mg base A outer s H) (ht : IsTup s.heap t its) (hz : its.size ≤ 1000) (hu : its[0]? = some u) (hk : Reads s.heap u k []) :
    wpAny (model P w) A (call (.ref f) [.ref t]) (PySem.W.KeyPure k s) (fun _ _ => False) s := by
  obtain ⟨qual, st, fd, p1, p2, p3, p4, j, F, hb, S, loc, body⟩ := F.is
  obtain ⟨oc, od, kV, doc, pm, an, cdv, ct, osl, rfl, lk, hcd⟩ := F.ex
  have KX : K.In s.heap := e0.mod.kin.keeps fun b o e => (e0.bs b o e).1
  have lim : s.heap.NoLimit := e0.mod.nolimit.keeps fun b o e => (e0.bs b o e).1
  refine wpAny_call (codeAny_call_function room.depth (KX _ _ lk) rfl S.co S.gen rfl (PySem.W.codeRec_of KX hcd) ((hb s [.ref t] KX rfl) _ _ _ _ ?_))
  refine wpAny_newFunctionEnv_cells S.kind (fun y hy => ?_) fun env he s1 x => ?_
  · have hy : y = (("entry" : Str), Value.ref t) := by simpa using hy
    subst hy
    exact .inl loc
  subst he
  obtain ⟨h1, tk, es, keep⟩ := x.done
  refine ⟨lim.keeps x.toInCall.keep, codeAny_func ?_⟩
  show wpAny _ _ (execs (defBody st) _) _ _ s1
  rw [body]
  refine wpAny_execs_cons (wpAny_Return_some (Subscript_ (wpAny_Name (wpAny_loadName_local S.kind loc x.toInCall.ns (v := Value.ref t) ?_ ?_) (by decide))))
  · have e := bindL_get (kindOf := (envOfC qual (defScope st) s.heap.objs.size f cdv).kindOf) (P := ["entry"]) (vs := [Value.ref t]) (i := 0) (x := "entry") (m := fun _ => none) (by simp) rfl rfl loc
    exact e
  refine wpAny_Constant_int ?_
  have ht1 : IsTup s1.heap t its := by
    obtain ⟨o, ho, q⟩ := ht
    exact ⟨o, x.toInCall.keep _ _ ho, q⟩
  have lt : 0 < its.size := (Array.getElem?_eq_some_iff.mp hu).1
  refine subscriptTail_builtinR (x := u) (T := "tuple") (id := "tuple.__getitem__") ?_ slot_tuple_getitem.lookup (PyProof.Rows.getItem_tuple (j := 0) (x := u) (Q := fun r s' => r = u ∧ _) ht1 (by decide) (by decide) ?_ hu ⟨rfl, ?_⟩)
  · obtain ⟨o, ho, hc, _⟩ := ht1
    exact ⟨o, ho, hc⟩
  · have e : (decide ((0 : Int) ≤ 0) && decide ((0 : Int) < (its.size : Int))) = true := by
      rw [Bool.and_eq_true, decide_eq_true_eq, decide_eq_true_eq]; omega
    show (if (decide ((0 : Int) ≤ 0) && decide ((0 : Int) < (its.size : Int))) = true then some 0 else none) = some 0
    rw [if_pos e]
  · subst es
    exact ⟨_, _, rfl, keep, PyProof.Rows.Reads.keeps keep hk⟩
/-- the order of pairs -/
def lexI (p q : Int × Int) : Bool := decide (p.1 < q.1 ∨ p.1 = q.1 ∧ p.2 ≤ q.2)
theorem each_vals : ∀ {xs : List V} {us : List Value}, Vals xs us → PySem.W.EachIs (fun u x => RelV x u) us xs
  | _, _, .nil => .nil
  | _, _, .cons h r => .cons h (each_vals r)
theorem vals_each : ∀ {xs : List V} {us : List Value}, PySem.W.EachIs (fun u x => RelV x u) us xs → Vals xs us
  | _, _, .nil => .nil
  | _, _, .cons h r => .cons h (vals_each r)
section
variable {X : Cx}
def rKeySort (K : PySem.W.Frag) (f : Addr) : List V → List V → Hp → VK → Prop := fun vs zs H Q => ∃ (a : Addr) (xs : List V) (key : V → Int × Int), vs = [.ref a] ∧ zs = [.ref f] ∧ SqL K H a xs ∧
  (∀ y ∈ xs, ∃ e pr z, y = .ref e ∧ H e = some (.tup [.ref pr, z]) ∧ H pr = some (.tup [.int (key y).1, .int (key y).2])) ∧
  ∀ p, H p = none → Q (.ref p) (upd H p (.lst (xs.mergeSort fun x y => lexI (key x) (key y))))
theorem cr_keySort {f : Addr} (F : FirstOf X.K f) (room : Room 3 X.A) : CallRK X (.builtin "sorted") [Str.ofString "key"] (rKeySort X.K f) := by
  intro pins s σ H vs zs us ws Q I r rz h
  obtain ⟨a, xs, key, rfl, rfl, hs, hx, q⟩ := h
  obtain rfl := Vals.ref1 r
  obtain ⟨w1, rfl, e1⟩ := L2.vals1 rz
  obtain rfl : w1 = Value.ref f := e1
  obtain ⟨its, rv, hl, hz⟩ := I.list hs
  refine PySem.W.sorted_key_data (b := false) (R := fun u x => RelV x u) (bs := xs) (fun x => .tuple [.int (key x).1, .int (key x).2]) hl.isList (each_vals rv) (PySem.W.AllAlike.of fun _ _ => by simp [PySem.W.alike, PySem.W.alikeAll]) (PySem.W.Sortable.tuples fun _ => ⟨_, _, rfl⟩) hz (fun x _ => ?_)
    (ksk_s1 _ _) (fun _ => ksk_l1 _ _) (fun _ => ksk_t1 _ _) (fun v x rx hm g tk keep => ?_) fun out c g tk keep _ hD len eo => ?_
  · have hd : (PyData.tuple [.int (key x).1, .int (key x).2]).depth = 1 := by simp [PyData.depth, PyData.depthAll]
    have := room.units
    omega
  · obtain ⟨e, pr, z, rfl, he, hp⟩ := hx x hm
    obtain rfl : v = Value.ref e := rx
    have I1 : Inv X pins σ H { s with heap := g, toks := tk } := I.kept keep
    obtain ⟨_, i2, r2, t2⟩ := I1.hok _ _ he
    obtain ⟨_, i3, r3, o3, ho3, hc3, n3, hd3⟩ := I1.hok _ _ hp
    obtain ⟨u1, u2, rfl, ru1, ru2⟩ := vals2 r2
    obtain ⟨w1, w2, rfl, ⟨t1, rfl⟩, ⟨t2', rfl⟩⟩ := vals2 r3
    obtain rfl : u1 = Value.ref pr := ru1
    refine first_call (outer := X.stack) (H := H) F (room.in1.in1) I1.env0.in1.in1 t2 (by simp) (u := .ref pr) (by simp) ?_
    exact Reads.tuple ho3 hc3 hd3 (ReadsAll.cons (as := []) (.int _ _) (ReadsAll.cons (as := []) (.int _ _) .nil))
  · rw [PySem.W.dataLe_ii (β := V) (fun x => (key x).1) (fun x => (key x).2)] at eo
    have rv2 := vals_each eo
    refine ⟨.ref (s.heap.objs.size + 1), upd H (s.heap.objs.size + 1) (.lst (xs.mergeSort fun x y => lexI (key x) (key y))), I.laid keep (Nat.le_succ _) ⟨?_, out, c, rv2, hD⟩, rfl, q _ (I.hok.fresh (Nat.le_succ _))⟩
    rw [List.length_mergeSort]
    exact hz
end
end Pf

set_option Elab.async false
set_option linter.all false
set_option maxRecDepth 100000
set_option maxHeartbeats 2000000
/-! What all defs' proofs share: the text by places, constants, callees, how data lie in the heap. -/
namespace Pf
open PySem PySem.Spec PyProof.Rows L2
def top (i : Nat) : Stmt := PySem.Challenge.pw_processfronts_s01_answers.main.body.getD i (.Pass ⟨0, 0, 0, 0⟩)
/-- the module's names that hold numbers, and the built-in names that the module leaves alone -/
structure Con (mg : Str → Option Value) : Prop where
  STEP : ∃ t, mg "STEP" = some (.int 0 t)
  EMPTY : ∃ t, mg "EMPTY" = some (.int 1 t)
  SEQUENCE : ∃ t, mg "SEQUENCE" = some (.int 2 t)
  CHOICE : ∃ t, mg "CHOICE" = some (.int 3 t)
  LOOP : ∃ t, mg "LOOP" = some (.int 5 t)
  LAST_STEP : ∃ t, mg "LAST_STEP" = some (.int 5 t)
  GREATEST_SIZE : ∃ t, mg "GREATEST_SIZE" = some (.int 11 t)
  GREATEST_AMOUNT : ∃ t, mg "GREATEST_AMOUNT" = some (.int 100 t)
  MOST_ROUNDS : ∃ t, mg "MOST_ROUNDS" = some (.int 3 t)
  CALL_PROCESS : ∃ t, mg "CALL_PROCESS" = some (.int 0 t)
  CALL_STEP : ∃ t, mg "CALL_STEP" = some (.int 1 t)
  CALL_ROUNDS : ∃ t, mg "CALL_ROUNDS" = some (.int 2 t)
  CALL_FRONT : ∃ t, mg "CALL_FRONT" = some (.int 3 t)
  CALL_BY : ∃ t, mg "CALL_BY" = some (.int 4 t)
  CALL_SOONEST : ∃ t, mg "CALL_SOONEST" = some (.int 5 t)
  CALL_WORST : ∃ t, mg "CALL_WORST" = some (.int 6 t)
  CALL_JUDGE : ∃ t, mg "CALL_JUDGE" = some (.int 7 t)
  len : mg "len" = none
  tuple : mg "tuple" = none
  list : mg "list" = none
  max : mg "max" = none
  sorted : mg "sorted" = none
  reversed : mg "reversed" = none
  range : mg "range" = none
theorem pe_con {X : Cx} {x : Str} {n : Int} {pos : Pos} (hg : Gl X x) (h : ∃ t, X.mg x = some (.int n t)) (hd : (x == ("__debug__" : Str)) = false := by decide) : PE X (.Name x pos) (tC (.int n)) := by
  obtain ⟨t, e⟩ := h
  exact pe_glob hg e ⟨t, rfl⟩ hd
/-- a def of the module that keeps its promise -/
structure Ready (P : Program) (w : World) (K : PySem.W.Frag) (mg : Str → Option Value) (base : Heap) (k : Nat) (x : Str) (ps : List Str) (sp : Sp) : Prop where
  is : ∃ f fd, FnOk P w K mg base CX0 k f fd ps sp ∧ mg x = some (.ref f) ∧ PySem.W.keepIn K (.ref f) = true ∧ L2.Binds K fd ps []
theorem pe_do {X : Cx} {k : Nat} {x : Str} {ps : List Str} {sp : Sp} {e : Expr} {es : List Expr} {t : TA} {p pos : Pos} (R : Ready X.prog X.w X.K X.mg X.base k x ps sp) (hr : Room k X.A) (hg : Gl X x) (ha : PA X (e :: es) t)
    (hdb : (x == ("__debug__" : Str)) = false := by decide) (he : starEach (e :: es) X.env = (false, eval e X.env) :: starEach es X.env := by rfl) (hpl : (backTo pos (starEach es X.env)).any (·.1) = false := by rfl) :
    PE X (.Call (.Name x p) (e :: es) [] pos) (tCall sp [] E0 t) := by
  obtain ⟨f, fd, G, hm, hk, hb⟩ := R.is
  exact pe_call G hr hg hm hk hb .nil pass0 ha hdb he hpl
/-! ### lists that run side by side -/
section
variable {α β : Type} {R : α → β → Prop}
theorem Two.len : ∀ {xs : List α} {bs : List β}, Paired R xs bs → xs.length = bs.length
  | _, _, .nil => rfl
  | _, _, .cons _ r => congrArg (· + 1) (Two.len r)
theorem Two.snoc {x : α} {b : β} (q : R x b) : ∀ {xs : List α} {bs : List β}, Paired R xs bs → Paired R (xs ++ [x]) (bs ++ [b])
  | _, _, .nil => .cons q .nil
  | _, _, .cons h r => .cons h (Two.snoc q r)
theorem Two.app : ∀ {xs ys : List α} {bs cs : List β}, Paired R xs bs → Paired R ys cs → Paired R (xs ++ ys) (bs ++ cs)
  | _, _, _, _, .nil, s => s
  | _, _, _, _, .cons h r, s => .cons h (Two.app r s)
theorem Two.left : ∀ {xs : List α} {bs : List β} {i : Nat} {x : α}, Paired R xs bs → xs[i]? = some x → ∃ b, bs[i]? = some b ∧ R x b
  | _, _, _, _, .nil, h => by simp at h
  | _, _, 0, _, .cons q _, h => by cases h; exact ⟨_, rfl, q⟩
  | _, _, i + 1, _, .cons _ r, h => Two.left (i := i) r h
theorem Two.right : ∀ {xs : List α} {bs : List β} {i : Nat} {b : β}, Paired R xs bs → bs[i]? = some b → ∃ x, xs[i]? = some x ∧ R x b
  | _, _, _, _, .nil, h => by simp at h
  | _, _, 0, _, .cons q _, h => by cases h; exact ⟨_, rfl, q⟩
  | _, _, i + 1, _, .cons _ r, h => Two.right (i := i) r h
theorem Two.mono {S : α → β → Prop} : ∀ {xs : List α} {bs : List β}, Paired R xs bs → (∀ x b, R x b → S x b) → Paired S xs bs
  | _, _, .nil, _ => .nil
  | _, _, .cons q r, f => .cons (f _ _ q) (Two.mono r f)
theorem Two.map {γ : Type} {f : γ → α} {g : γ → β} : ∀ {l : List γ}, (∀ z ∈ l, R (f z) (g z)) → Paired R (l.map f) (l.map g)
  | [], _ => .nil
  | z :: l, h => .cons (h z (by simp)) (Two.map fun y m => h y (by simp [m]))
end
/-! ### the heap -/
abbrev iv (n : Nat) : V := .int (n : Int)
theorem same_new {H : Hp} {p : Addr} {o : HO} (n : H p = none) : Same H (upd H p o) := fun b u e => by
  rw [upd_ne (ne_of_none e n)]; exact e
theorem same_at {H H1 : Hp} {p : Addr} {o : HO} (s : Same H H1) (n : H p = none) : Same H (upd H1 p o) := fun b u e => by
  rw [upd_ne (ne_of_none e n)]; exact s b u e
/-- what is left of a heap where some addresses are looked away from -/
noncomputable def cut (N : Addr → Prop) (H : Hp) : Hp := fun b => open Classical in if N b then none else H b
theorem cut_in {N : Addr → Prop} {H : Hp} {b : Addr} (h : N b) : cut N H b = none := by unfold cut; rw [if_pos h]
theorem cut_out {N : Addr → Prop} {H : Hp} {b : Addr} (h : ¬ N b) : cut N H b = H b := by unfold cut; rw [if_neg h]
theorem cut_some {N : Addr → Prop} {H : Hp} {b : Addr} {o : HO} (h : cut N H b = some o) : ¬ N b ∧ H b = some o := by
  by_cases c : N b
  · rw [cut_in c] at h; cases h
  · rw [cut_out c] at h; exact ⟨c, h⟩
theorem cut_same (N : Addr → Prop) (H : Hp) : Same (cut N H) H := fun _ _ h => (cut_some h).2
theorem same_cut {N : Addr → Prop} {H H' : Hp} (s : Same H H') : Same (cut N H) (cut N H') := fun b o h => by
  obtain ⟨n, e⟩ := cut_some h
  rw [cut_out n]; exact s b o e
theorem cut_upd {N : Addr → Prop} {H : Hp} {p : Addr} {o : HO} (h : N p) : cut N (upd H p o) = cut N H := by
  funext b
  by_cases c : N b
  · rw [cut_in c, cut_in c]
  · rw [cut_out c, cut_out c, upd_ne (fun e : b = p => c (by rw [e]; exact h))]
/-- all but what N speaks of is as it was -/
def Kept (N : Addr → Prop) (H H' : Hp) : Prop := ∀ b o, ¬ N b → H b = some o → H' b = some o
theorem Kept.cut {N : Addr → Prop} {H H' : Hp} (k : Kept N H H') : Same (cut N H) (Pf.cut N H') := fun b o h => by
  obtain ⟨n, e⟩ := cut_some h
  rw [cut_out n]; exact k b o n e
theorem Kept.of_same {N : Addr → Prop} {H H' : Hp} (s : Same H H') : Kept N H H' := fun b o _ e => s b o e
theorem Kept.trans {N : Addr → Prop} {H H1 H2 : Hp} (a : Kept N H H1) (b : Kept N H1 H2) : Kept N H H2 := fun c o n e => b c o n (a c o n e)
/-- a tuple of numbers -/
def TupAt (H : Hp) (y : V) (c : List Nat) : Prop := ∃ a, y = .ref a ∧ H a = some (.tup (c.map iv))
theorem TupAt.same {H H' : Hp} {y : V} {c : List Nat} (s : Same H H') (h : TupAt H y c) : TupAt H' y c := by
  obtain ⟨a, rfl, e⟩ := h
  exact ⟨a, rfl, s _ _ e⟩
theorem TupAt.upd {H : Hp} {y : V} {c : List Nat} {p : Addr} {xs : List V} {o : HO} (h : TupAt H y c) (hp : H p = some (.lst xs)) : TupAt (upd H p o) y c := by
  obtain ⟨a, rfl, e⟩ := h
  refine ⟨a, rfl, ?_⟩
  rw [upd_ne (ne_of e hp (by intro z; cases z))]; exact e
/-- a list of tuples of numbers -/
def TupsAt (H : Hp) (a : Addr) (cs : List (List Nat)) : Prop := ∃ xs, H a = some (.lst xs) ∧ Paired (TupAt H) xs cs
theorem TupsAt.same {H H' : Hp} {a : Addr} {cs : List (List Nat)} (s : Same H H') (h : TupsAt H a cs) : TupsAt H' a cs := by
  obtain ⟨xs, e, q⟩ := h
  exact ⟨xs, s _ _ e, Two.mono q fun _ _ => TupAt.same s⟩
end Pf

set_option Elab.async false
set_option linter.all false
set_option maxRecDepth 100000
set_option maxHeartbeats 2000000
/-! The small defs. -/
namespace Pf
open PySem PySem.Spec PyProof.Rows L2
theorem t_eq {k : Nat} {i : Int} : decide (iv k = V.int i) = true ↔ (k : Int) = i := by simp [iv]
theorem t_ne {k : Nat} {i : Int} : (!decide (iv k = V.int i)) = true ↔ ¬ (k : Int) = i := by simp [iv]
def parts (k : Nat) : Bool := decide (2 ≤ k)
theorem parts_t {k : Nat} (h : 2 ≤ k) : parts k = true := decide_eq_true h
theorem parts_f {k : Nat} (h : ¬ 2 ≤ k) : parts k = false := decide_eq_false h
section
variable {P : Program} {w : World} {K : PySem.W.Frag} {mg : Str → Option Value} {base : Heap}
/-! ### has_parts -/
abbrev sHas : Stmt := top 6
theorem scHas : FnScope ["kind"] ["kind"] (defScope sHas) := ⟨rfl, rfl, rfl, by decide +kernel, rfl, by decide +kernel, by decide +kernel⟩
def spHas : Sp := fun vs H Q _ => ∃ k : Nat, vs = [iv k] ∧ Q (.bl (parts k)) H
theorem ok_has {f : Addr} {fd : FuncData} (F : Fun K "has_parts" "has_parts" sHas f fd) (c : Con mg) : FnOk P w K mg base CX0 1 f fd ["kind"] spHas := by
  have S := scHas
  refine F.ok S (fun vs H Q E h => ?_) (fun cdv A outer s H vs Q E hr h => ?_)
  · obtain ⟨k, rfl, _⟩ := h
    rfl
  refine ⟨_, (pss_one (ps_ret (pe_and (pe_cmpR op_ne (pv 0) (pe_con rfl c.STEP) (nomark _)) (pe_one (pe_cmpR op_ne (pv 0) (pe_con rfl c.EMPTY) (nomark _)))))), ?_⟩
  obtain ⟨k, rfl, q⟩ := h
  refine ⟨_, rfl, rfl, _, rfl, ite2 (fun h1 => ?_) (fun h1 => ?_)⟩
  · have h1 := t_ne.mp h1
    refine ⟨_, rfl, rfl, ?_⟩
    have e : (!decide (iv k = V.int 1)) = parts k := by
      rw [Bool.eq_iff_iff, t_ne, parts, decide_eq_true_eq]; omega
    show Q (.bl (!decide (iv k = V.int 1))) H
    rw [e]; exact q
  · have h1 : ¬ ¬ (k : Int) = 0 := fun z => h1 (t_ne.mpr z)
    rw [parts_f (by omega)] at q
    exact q
/-! ### is_empty_capable -/
abbrev sCap : Stmt := top 10
theorem scCap : FnScope ["kind", "first", "second"] ["kind", "first", "second"] (defScope sCap) := ⟨rfl, rfl, rfl, by decide +kernel, rfl, by decide +kernel, by decide +kernel⟩
def spCap : Sp := fun vs H Q _ => ∃ (k : Nat) (a b : Bool), vs = [iv k, .bl a, .bl b] ∧ Q (.bl (voidK k a b)) H
theorem ok_cap {f : Addr} {fd : FuncData} (F : Fun K "is_empty_capable" "is_empty_capable" sCap f fd) (c : Con mg) : FnOk P w K mg base CX0 1 f fd ["kind", "first", "second"] spCap := by
  have S := scCap
  refine F.ok S (fun vs H Q E h => ?_) (fun cdv A outer s H vs Q E hr h => ?_)
  · obtain ⟨k, a, b, rfl, _⟩ := h
    rfl
  refine ⟨_, (pss_cons (ps_if (pt_cmpR op_eq (pv 0) (pe_con rfl c.CHOICE) (nomark _)) (pss_one (ps_ret (pe_or (pv 1) (pe_one (pv 2))))) pss_nil)
    (pss_cons (ps_if (pt_cmpR op_eq (pv 0) (pe_con rfl c.LOOP) (nomark _)) (pss_one (ps_ret (pv 1))) pss_nil)
    (pss_one (ps_ret (pe_and (pv 1) (pe_one (pv 2))))))), ?_⟩
  obtain ⟨k, a, b, rfl, q⟩ := h
  unfold voidK at q
  refine ⟨_, rfl, rfl, _, rfl, ite2 (fun h1 => ?_) (fun h1 => ?_)⟩
  · have h1 := t_eq.mp h1
    rw [if_pos (by omega)] at q
    refine ⟨_, rfl, a, rfl, ?_⟩
    cases a with
    | true => exact iteT q
    | false => exact iteF ⟨_, rfl, q⟩
  · have h1 : ¬ (k : Int) = 3 := fun z => h1 (t_eq.mpr z)
    rw [if_neg (by omega)] at q
    refine ⟨_, rfl, rfl, _, rfl, ite2 (fun h2 => ?_) (fun h2 => ?_)⟩
    · have h2 := t_eq.mp h2
      rw [if_pos (by omega)] at q
      exact ⟨_, rfl, q⟩
    · have h2 : ¬ (k : Int) = 5 := fun z => h2 (t_eq.mpr z)
      rw [if_neg (by omega)] at q
      refine ⟨_, rfl, a, rfl, ?_⟩
      cases a with
      | true => exact iteT ⟨_, rfl, q⟩
      | false => exact iteF q
/-! ### joint_pair -/
abbrev sJoint : Stmt := top 18
theorem scJoint : FnScope ["kind", "first", "second", "time"] ["kind", "first", "second"] (defScope sJoint) := ⟨rfl, rfl, rfl, by decide +kernel, rfl, by decide +kernel, by decide +kernel⟩
def jt (k x y : Nat) : Nat := if k = 2 then x + y else max x y
abbrev pr (t c : Nat) : HO := .tup [iv t, iv c]
def spJoint : Sp := fun vs H Q _ => ∃ (k : Nat) (a b : Addr) (t1 c1 t2 c2 : Nat), vs = [iv k, .ref a, .ref b] ∧ H a = some (pr t1 c1) ∧ H b = some (pr t2 c2) ∧
  ∀ p, H p = none → Q (.ref p) (upd H p (pr (jt k t1 t2) (c1 + c2)))
theorem max_iv (x y : Nat) : V.int (if (y : Int) > (x : Int) then (y : Int) else (x : Int)) = iv (max x y) := by
  by_cases h : (y : Int) > (x : Int)
  · rw [if_pos h]
    show V.int _ = V.int _
    congr 1; omega
  · rw [if_neg h]
    show V.int _ = V.int _
    congr 1; omega
theorem add_iv (x y : Nat) : V.int ((x : Int) + (y : Int)) = iv (x + y) := by
  show V.int _ = V.int _
  congr 1
theorem ok_joint {f : Addr} {fd : FuncData} (F : Fun K "joint_pair" "joint_pair" sJoint f fd) (c : Con mg) : FnOk P w K mg base CX0 1 f fd ["kind", "first", "second"] spJoint := by
  have S := scJoint
  refine F.ok S (fun vs H Q E h => ?_) (fun cdv A outer s H vs Q E hr h => ?_)
  · obtain ⟨k, a, b, t1, c1, t2, c2, rfl, _⟩ := h
    rfl
  refine ⟨_, (pss_cons (ps_if (pt_cmpR op_eq (pv 0) (pe_con rfl c.SEQUENCE) (nomark _)) (pss_one (ps_set (i := 3) S.nd rfl (Or.inl rfl) (pe_op op_add (pe_ix ix_tup (pv 1) pe_int (fun _ _ => rfl)) (pe_ix ix_tup (pv 2) pe_int (fun _ _ => rfl))))) (pss_one (ps_set (i := 3) S.nd rfl (Or.inl rfl) (pe_callB (call_max2 rfl) (by rfl) c.max (by decide +kernel) (pa_cons (pe_ix ix_tup (pv 1) pe_int (fun _ _ => rfl)) (pa_cons (pe_ix ix_tup (pv 2) pe_int (fun _ _ => rfl)) pa_nil))))))
    (pss_one (ps_ret (pe_tup (pa_cons (pv 3) (pa_cons (pe_op op_add (pe_ix ix_tup (pv 1) pe_int (fun _ _ => rfl)) (pe_ix ix_tup (pv 2) pe_int (fun _ _ => rfl))) pa_nil)))))), ?_⟩
  obtain ⟨k, a, b, t1, c1, t2, c2, rfl, ha, hb, q⟩ := h
  refine ⟨_, rfl, rfl, _, rfl, ite2 (fun h1 => ?_) (fun h1 => ?_)⟩
  · have h1 := t_eq.mp h1
    refine ⟨_, rfl, a, _, 0, iv t1, rfl, rfl, SqT.of ha, rfl, _, rfl, b, _, 0, iv t2, rfl, rfl, SqT.of hb, rfl, _, _, rfl, rfl, ?_⟩
    refine ⟨_, rfl, _, rfl, a, _, 1, iv c1, rfl, rfl, SqT.of ha, rfl, _, rfl, b, _, 1, iv c2, rfl, rfl, SqT.of hb, rfl, _, _, rfl, rfl, (by show 2 ≤ sizeLine; decide), fun p hp => ?_⟩
    have q := q p hp
    unfold jt at q
    rw [if_pos (by omega)] at q
    exact q
  · have h1 : ¬ (k : Int) = 2 := fun z => h1 (t_eq.mpr z)
    refine ⟨_, rfl, a, _, 0, iv t1, rfl, rfl, SqT.of ha, rfl, _, rfl, b, _, 0, iv t2, rfl, rfl, SqT.of hb, rfl, _, _, rfl, ?_⟩
    refine ⟨_, rfl, _, rfl, a, _, 1, iv c1, rfl, rfl, SqT.of ha, rfl, _, rfl, b, _, 1, iv c2, rfl, rfl, SqT.of hb, rfl, _, _, rfl, rfl, (by show 2 ≤ sizeLine; decide), fun p hp => ?_⟩
    have q := q p hp
    unfold jt at q
    rw [if_neg (by omega)] at q
    rw [max_iv]
    exact q
/-! ### worst_of_parts -/
abbrev sWop : Stmt := top 23
theorem scWop : FnScope ["kind", "first", "second"] ["kind", "first", "second"] (defScope sWop) := ⟨rfl, rfl, rfl, by decide +kernel, rfl, by decide +kernel, by decide +kernel⟩
def wt (k x y : Nat) : Nat := if k = 3 then max x y else jt k x y
def wc (k x y : Nat) : Nat := if k = 3 then max x y else x + y
def spWop : Sp := fun vs H Q _ => ∃ (k : Nat) (a b : Addr) (t1 c1 t2 c2 : Nat), vs = [iv k, .ref a, .ref b] ∧ H a = some (pr t1 c1) ∧ H b = some (pr t2 c2) ∧
  ∀ p, H p = none → Q (.ref p) (upd H p (pr (wt k t1 t2) (wc k c1 c2)))
structure R1 (P : Program) (w : World) (K : PySem.W.Frag) (mg : Str → Option Value) (base : Heap) : Prop where
  has_parts : Ready P w K mg base 1 "has_parts" ["kind"] spHas
  is_empty_capable : Ready P w K mg base 1 "is_empty_capable" ["kind", "first", "second"] spCap
  joint_pair : Ready P w K mg base 1 "joint_pair" ["kind", "first", "second"] spJoint
theorem ok_wop {f : Addr} {fd : FuncData} (F : Fun K "worst_of_parts" "worst_of_parts" sWop f fd) (c : Con mg) (R : R1 P w K mg base) : FnOk P w K mg base CX0 2 f fd ["kind", "first", "second"] spWop := by
  have S := scWop
  refine F.ok S (fun vs H Q E h => ?_) (fun cdv A outer s H vs Q E hr h => ?_)
  · obtain ⟨k, a, b, t1, c1, t2, c2, rfl, _⟩ := h
    rfl
  refine ⟨_, (pss_cons (ps_if (pt_cmpR op_eq (pv 0) (pe_con rfl c.CHOICE) (nomark _)) (pss_one (ps_ret (pe_tup (pa_cons (pe_callB (call_max2 rfl) (by rfl) c.max (by decide +kernel) (pa_cons (pe_ix ix_tup (pv 1) pe_int (fun _ _ => rfl)) (pa_cons (pe_ix ix_tup (pv 2) pe_int (fun _ _ => rfl)) pa_nil))) (pa_cons (pe_callB (call_max2 rfl) (by rfl) c.max (by decide +kernel) (pa_cons (pe_ix ix_tup (pv 1) pe_int (fun _ _ => rfl)) (pa_cons (pe_ix ix_tup (pv 2) pe_int (fun _ _ => rfl)) pa_nil))) pa_nil))))) pss_nil)
    (pss_one (ps_ret (pe_do R.joint_pair (hr.mono (by decide)) rfl (pa_cons (pv 0) (pa_cons (pv 1) (pa_cons (pv 2) pa_nil))))))), ?_⟩
  obtain ⟨k, a, b, t1, c1, t2, c2, rfl, ha, hb, q⟩ := h
  refine ⟨_, rfl, rfl, _, rfl, ite2 (fun h1 => ?_) (fun h1 => ?_)⟩
  · have h1 := t_eq.mp h1
    refine ⟨_, rfl, a, _, 0, iv t1, rfl, rfl, SqT.of ha, rfl, _, rfl, b, _, 0, iv t2, rfl, rfl, SqT.of hb, rfl, _, _, rfl, ?_⟩
    refine ⟨_, rfl, a, _, 1, iv c1, rfl, rfl, SqT.of ha, rfl, _, rfl, b, _, 1, iv c2, rfl, rfl, SqT.of hb, rfl, _, _, rfl, (by show 2 ≤ sizeLine; decide), fun p hp => ?_⟩
    have q := q p hp
    unfold wt wc at q
    rw [if_pos (by omega), if_pos (by omega)] at q
    rw [max_iv, max_iv]
    exact q
  · have h1 : ¬ (k : Int) = 3 := fun z => h1 (t_eq.mpr z)
    refine ⟨_, rfl, _, rfl, _, rfl, k, a, b, t1, c1, t2, c2, rfl, ha, hb, fun p hp => ?_⟩
    have q := q p hp
    unfold wt wc at q
    rw [if_neg (by omega), if_neg (by omega)] at q
    exact q
end
end Pf

set_option Elab.async false
set_option linter.all false
set_option maxRecDepth 100000
set_option maxHeartbeats 2000000
/-! How numbers are read: written_at. -/
namespace Pf
open PySem PySem.Spec PyProof.Rows L2
theorem cut_nat (xs : List V) (i j : Nat) : cutV xs (some (i : Int)) (some (j : Int)) = (xs.drop i).take (j - i) := by
  unfold cutV
  rw [HT.sIx_nat, HT.sIx_nat]
  by_cases h : i ≤ xs.length
  · rw [Nat.min_eq_left h]
    by_cases h2 : j ≤ xs.length
    · rw [Nat.min_eq_left h2]
    · rw [Nat.min_eq_right (by omega), List.take_of_length_le (by rw [List.length_drop]; omega), List.take_of_length_le (by rw [List.length_drop]; omega)]
  · rw [List.drop_of_length_le (i := min i xs.length) (by omega), List.drop_of_length_le (i := i) (by omega)]
    simp
theorem cut_end (xs : List V) (i : Nat) : cutV xs (some (i : Int)) none = xs.drop i := by
  unfold cutV
  rw [HT.sIx_nat, HT.sIx_none]
  by_cases h : i ≤ xs.length
  · rw [Nat.min_eq_left h, List.take_of_length_le (by rw [List.length_drop]; omega)]
  · rw [List.drop_of_length_le (i := min i xs.length) (by omega), List.drop_of_length_le (i := i) (by omega)]
    simp
/-- numbers as data -/
abbrev dat (c : List Nat) : List PyData := c.map fun (n : Nat) => PyData.int (n : Int)
theorem dp_all {K : PySem.W.Frag} {H : Hp} : ∀ c : List Nat, DpAll K H (c.map iv) (dat c)
  | [] => .nil
  | _ :: c => .cons (.int _) (dp_all c)
theorem eqv_dat : ∀ c d : List Nat, PyData.eqvAll (dat c) (dat d) = decide (c = d)
  | [], [] => by simp [dat, PyData.eqvAll]
  | [], _ :: _ => by simp [dat, PyData.eqvAll]
  | _ :: _, [] => by simp [dat, PyData.eqvAll]
  | x :: c, y :: d => by
    have ih := eqv_dat c d
    have e : PyData.eqvAll (dat (x :: c)) (dat (y :: d)) = (((x : Int) == (y : Int)) && PyData.eqvAll (dat c) (dat d)) := by
      simp [dat, PyData.eqvAll, PyData.eqv]
    rw [e, ih, Bool.eq_iff_iff]
    simp
    intro _; omega
theorem eqv_list (c d : List Nat) : PyData.eqv (.list (dat c)) (.list (dat d)) = decide (c = d) := by
  rw [PyData.eqv]; exact eqv_dat c d
theorem eqv_tuple (c d : List Nat) : PyData.eqv (.tuple (dat c)) (.tuple (dat d)) = decide (c = d) := by
  rw [PyData.eqv]; exact eqv_dat c d
def atW : List Nat → Option (List Nat)
  | [] => none
  | [0] => none
  | 0 :: a :: _ => some [0, a]
  | k :: _ => if 5 < k then none else some [k]
section
variable {P : Program} {w : World} {K : PySem.W.Frag} {mg : Str → Option Value} {base : Heap}
abbrev sAt : Stmt := top 7
theorem scAt : FnScope ["numbers", "place", "width", "own_numbers"] ["numbers", "place"] (defScope sAt) := ⟨rfl, rfl, rfl, by decide +kernel, rfl, by decide +kernel, by decide +kernel⟩
def spAt : Sp := fun vs H Q _ => ∃ (a : Addr) (ns : List Nat) (pl : Nat), vs = [.ref a, iv pl] ∧ H a = some (.lst (ns.map iv)) ∧
  (atW (ns.drop pl) = none → ∀ H', Same H H' → Q .non H') ∧ (∀ c, atW (ns.drop pl) = some c → ∀ H' p, Same H H' → H p = none → H' p = some (.tup (c.map iv)) → Q (.ref p) H')
theorem ok_at {f : Addr} {fd : FuncData} (F : Fun K "written_at" "written_at" sAt f fd) (c : Con mg) : FnOk P w K mg base CX0 1 f fd ["numbers", "place"] spAt := by
  have S := scAt
  refine F.ok S (fun vs H Q E h => ?_) (fun cdv A outer s H vs Q E hr h => ?_)
  · obtain ⟨a, ns, pl, rfl, _⟩ := h
    rfl
  refine ⟨_, (pss_cons (ps_set (i := 2) S.nd rfl (Or.inl rfl) pe_int)
    (C8.pss_cut (ps_if (pt_cmpR (op_eqD hr.units) (pe_slice sl_list (pv 0) (po_some (pv 1)) (po_some (pe_op op_add (pv 1) pe_int))) (pe_lst (pa_cons (pe_con rfl c.STEP) pa_nil)) (nomark _)) (pss_one (ps_set (i := 2) S.nd rfl (Or.inl rfl) pe_int)) pss_nil)
    (pss_cons (ps_set (i := 3) S.nd rfl (Or.inl rfl) (pe_callTy call_tuple_of (by rfl) c.tuple (by decide +kernel) (pa_cons (pe_slice sl_list (pv 0) (po_some (pv 1)) (po_some (pe_op op_add (pv 1) (pv 2)))) pa_nil)))
    (pss_cons (ps_if (PW.pt (pw_or (pt_cmpR op_lt (pe_callB call_len_seq (by rfl) c.len PySem.boot_len (pa_cons (pv 3) pa_nil)) (pv 2) (nomark _)) (pw_or1 (pt_cmpR op_gt (pe_ix ix_tup (pv 3) pe_int (fun _ _ => rfl)) (pe_con rfl c.LOOP) (nomark _))))) (pss_one (ps_ret pe_non)) pss_nil)
    (pss_one (ps_ret (pv 3))))))), ?_⟩
  obtain ⟨a, ns, pl, rfl, ha, qn, qs⟩ := h
  generalize hl : ns.drop pl = l at qn qs
  refine ⟨fun σ H1 => σ = [some (.ref a), some (iv pl), some (iv (if l.take 1 = [0] then 2 else 1)), none] ∧ Same H H1, ?_, ?_⟩
  · refine ⟨_, rfl, _, rfl, pl, rfl, _, rfl, _, _, rfl, rfl, ((pl + 1 : Nat) : Int), rfl, a, _, rfl, SqL.of ha, fun p hp => ?_⟩
    rw [cut_nat, ← List.map_drop, hl, ← List.map_take, Nat.add_sub_cancel_left]
    refine ⟨by show 1 ≤ sizeLine; decide, fun p2 hp2 => ?_⟩
    refine ⟨.list (dat (l.take 1)), .list (dat [0]), .lst (SqL.of ?_) (dp_all _), .lst (SqL.of upd_same) (dp_all [0]), ?_, rfl, _, rfl, ?_⟩
    · rw [upd_ne (ne_of_none upd_same hp2)]; exact upd_same
    · match l with
      | [] => rfl
      | k :: r => simp [dat, SeqAt.shaped, PyData.canLay0, PyData.canLayAll0, PyData.depth, PyData.depthAll]
    · have s2 : Same H (upd (upd H p (.lst ((l.take 1).map iv))) p2 (.lst [.int 0])) := (same_new hp).trans (same_new hp2)
      rw [eqv_list]
      refine ite2 (fun h1 => ?_) (fun h1 => ?_)
      · rw [if_pos (of_decide_eq_true h1)]
        exact ⟨rfl, s2⟩
      · rw [if_neg (fun z => h1 (decide_eq_true z))]
        exact ⟨rfl, s2⟩
  · rintro σ H1 ⟨rfl, s1⟩
    generalize hw : (if l.take 1 = [0] then 2 else 1) = wd
    refine ⟨_, rfl, _, rfl, pl, rfl, _, rfl, _, rfl, _, _, rfl, rfl, ((pl + wd : Nat) : Int), rfl, a, _, rfl, SqL.of (s1 _ _ ha), fun p hp => ?_⟩
    rw [cut_nat, ← List.map_drop, hl, ← List.map_take, Nat.add_sub_cancel_left]
    refine ⟨p, _, rfl, .inl ⟨SqL.of upd_same, fun p2 hp2 => ?_⟩⟩
    have s2 : Same H (upd (upd H1 p (.lst ((l.take wd).map iv))) p2 (.tup ((l.take wd).map iv))) := s1.trans ((same_new hp).trans (same_new hp2))
    have n2 : H p2 = none := (s1.trans (same_new hp)).free hp2
    refine ⟨_, rfl, p2, _, rfl, .inr (SqT.of upd_same), _, rfl, _, _, rfl, rfl, _, rfl, ?_⟩
    have len : ((l.take wd).map iv).length = min wd l.length := by rw [List.length_map, List.length_take]
    refine ite2 (fun h1 => ?_) (fun h1 => ?_)
    · have h1 := of_decide_eq_true h1
      rw [len] at h1
      refine qn ?_ _ s2
      subst hw
      match l with
      | [] => rfl
      | [0] => rfl
      | (k + 1) :: r => first | (simp at h1; done) | (simp at h1; omega)
      | 0 :: b :: r => first | (simp at h1; done) | (simp at h1; omega)
    · have h1 : ¬ ((min wd l.length : Nat) : Int) < (wd : Int) := fun z => h1 (decide_eq_true (by rw [len]; exact z))
      have hwd : 1 ≤ wd := by subst hw; split <;> omega
      obtain ⟨k, r, el⟩ : ∃ k r, l = k :: r := by
        match l with
        | [] => first | (simp at h1; done) | (simp at h1; omega)
        | k :: r => exact ⟨k, r, rfl⟩
      have e0 : ((l.take wd).map iv)[0]? = some (iv k) := by
        rw [el, List.getElem?_map, List.getElem?_take_of_lt (by omega)]; rfl
      refine ⟨_, rfl, p2, _, 0, iv k, rfl, rfl, SqT.of upd_same, atI_nat (j := 0) e0, _, _, rfl, rfl, _, rfl, ite2 (fun h2 => ?_) (fun h2 => ?_)⟩
      · have h2 : (5 : Int) < (k : Int) := of_decide_eq_true h2
        refine qn ?_ _ s2
        subst el
        match k, h2 with
        | k + 1, h2 =>
          show (if 5 < k + 1 then none else some [k + 1]) = none
          rw [if_pos (by omega)]
      · have h2 : ¬ (5 : Int) < (k : Int) := fun z => h2 (decide_eq_true z)
        refine ⟨_, rfl, qs (l.take wd) ?_ _ _ s2 n2 upd_same⟩
        subst hw
        subst el
        match k, r with
        | 0, [] => first | (simp at h1; done) | (simp at h1; omega)
        | 0, b :: r => simp [atW]
        | k + 1, r =>
          show (if 5 < k + 1 then none else some [k + 1]) = _
          rw [if_neg (by omega)]
          simp
end
end Pf

set_option Elab.async false
set_option linter.all false
set_option maxRecDepth 100000
set_option maxHeartbeats 2000000
/-! How numbers are read: written_constructs. -/
namespace Pf
open PySem PySem.Spec PyProof.Rows L2
theorem at_none {l : List Nat} {m : Nat} (h : atW l = none) : rdN (m + 1) l = none := by
  match l, h with
  | [], _ => exact rdN_none rd_nil
  | [0], _ => exact rdN_none rd_zero
  | 0 :: a :: r, h => cases h
  | (k + 1) :: r, h =>
    have h : (if 5 < k + 1 then none else some [k + 1]) = none := h
    by_cases c : 5 < k + 1
    · exact rdN_none (rd_bad r c)
    · rw [if_neg c] at h; cases h
theorem at_some {l c : List Nat} {m : Nat} (h : atW l = some c) : ∃ k r, c = k :: r ∧ c.length ≤ l.length ∧
    (parts k = false → rdN (m + 1) l = (rdN m (l.drop c.length)).map fun y => (c :: y.1, y.2)) ∧ (parts k = true → rdN (m + 1) l = (rdN (m + 2) (l.drop c.length)).map fun y => (c :: y.1, y.2)) := by
  match l, h with
  | [], h => cases h
  | [0], h => cases h
  | 0 :: a :: r, h =>
    cases h
    exact ⟨0, [a], rfl, by simp, fun _ => rdN_leaf (rd_act a r) rfl, fun z => by cases z⟩
  | (k + 1) :: r, h =>
    have h : (if 5 < k + 1 then none else some [k + 1]) = some c := h
    by_cases q : 5 < k + 1
    · rw [if_pos q] at h; cases h
    · rw [if_neg q] at h
      cases h
      refine ⟨k + 1, [], rfl, by simp, fun z => ?_, fun z => ?_⟩
      · have z : ¬ 2 ≤ k + 1 := of_decide_eq_false z
        have : k = 0 := by omega
        subst this
        exact rdN_leaf (rd_skip r) rfl
      · have z : 2 ≤ k + 1 := of_decide_eq_true z
        exact rdN_two r z (by omega)
section
variable {P : Program} {w : World} {K : PySem.W.Frag} {mg : Str → Option Value} {base : Heap}
abbrev sWr : Stmt := top 8
theorem scWr : FnScope ["numbers", "written", "place", "missing", "own_numbers"] ["numbers"] (defScope sWr) := ⟨rfl, rfl, rfl, by decide +kernel, rfl, by decide +kernel, by decide +kernel⟩
def spWr : Sp := fun vs H Q _ => ∃ (a : Addr) (ns : List Nat), vs = [.ref a] ∧ H a = some (.lst (ns.map iv)) ∧ ns.length ≤ 100 ∧
  ((∀ l, rdN 1 ns ≠ some (l, [])) → ∀ H', Same H H' → Q .non H') ∧ (∀ l, rdN 1 ns = some (l, []) → l.length ≤ 100 → ∀ H' p, Same H H' → H p = none → TupsAt H' p l → Q (.ref p) H')
structure R2a (P : Program) (w : World) (K : PySem.W.Frag) (mg : Str → Option Value) (base : Heap) : Prop extends R1 P w K mg base where
  written_at : Ready P w K mg base 1 "written_at" ["numbers", "place"] spAt
structure InvW (H : Hp) (a p : Addr) (ns : List Nat) (j : Nat) (σ : L2.St) (H1 : Hp) : Prop where
  is : ∃ (pl m : Nat) (v : Option V) (xs : List V) (l : List (List Nat)), j = ns.length - pl ∧ σ = [some (.ref a), some (.ref p), some (iv pl), some (iv m), v] ∧ Same H H1 ∧ H1 p = some (.lst xs) ∧ Paired (TupAt H1) xs l ∧
    rdN 1 ns = (rdN m (ns.drop pl)).map (fun y => (l ++ y.1, y.2)) ∧ l.length ≤ pl ∧ pl ≤ ns.length
theorem ok_wr {f : Addr} {fd : FuncData} (F : Fun K "written_constructs" "written_constructs" sWr f fd) (c : Con mg) (R : R2a P w K mg base) : FnOk P w K mg base CX0 2 f fd ["numbers"] spWr := by
  have S := scWr
  refine F.ok S (fun vs H Q E h => ?_) (fun cdv A outer s H vs Q E hr h => ?_)
  · obtain ⟨a, ns, rfl, _⟩ := h
    rfl
  refine ⟨_, (pss_cons (ps_set (i := 1) S.nd rfl (Or.inl rfl) (pe_lst pa_nil))
    (pss_cons (ps_set (i := 2) S.nd rfl (Or.inl rfl) pe_int)
    (pss_cons (ps_set (i := 3) S.nd rfl (Or.inl rfl) pe_int)
    (pss_cons (ps_while PassesOwn.never (pt_cmpR op_gt (pv 3) pe_int (nomark _))
      (pss_cons (ps_set (i := 4) S.nd rfl (Or.inl rfl) (pe_do R.written_at (hr.mono (by decide)) rfl (pa_cons (pv 0) (pa_cons (pv 2) pa_nil))))
      (pss_cons (ps_if (pt_cmpR op_isN (pv 4) pe_non (nomark _)) (pss_one (ps_ret pe_non)) pss_nil)
      (pss_cons (ps_expr (pe_bm PySem.F.plainAttrs_list PySem.F.slot_list_append PySem.F.type_list_append mt_append (pv 1) (pa_cons (pv 4) pa_nil)))
      (pss_cons (ps_aug (i := 2) S.nd rfl (Or.inl rfl) (pe_callB call_len_seq (by rfl) c.len PySem.boot_len (pa_cons (pv 4) pa_nil)) ip_add)
      (pss_one (ps_if (pt_val (pe_do R.has_parts (hr.mono (by decide)) rfl (pa_cons (pe_ix ix_tup (pv 4) pe_int (fun _ _ => rfl)) pa_nil))) (pss_one (ps_aug (i := 3) S.nd rfl (Or.inl rfl) pe_int ip_add)) (pss_one (ps_aug (i := 3) S.nd rfl (Or.inl rfl) pe_int ip_sub)))))))))
    (pss_cons (ps_if (pt_cmpR op_lt (pv 2) (pe_callB call_len_seq (by rfl) c.len PySem.boot_len (pa_cons (pv 0) pa_nil)) (nomark _)) (pss_one (ps_ret pe_non)) pss_nil)
    (pss_one (ps_ret (pv 1)))))))), ?_⟩
  obtain ⟨a, ns, rfl, ha, hn, qn, qs⟩ := h
  refine ⟨Nat.zero_le _, fun p hp => ?_⟩
  refine ⟨InvW H a p ns, ⟨_, ⟨0, 1, none, [], [], rfl, rfl, same_new hp, upd_same, .nil, ?_, Nat.le_refl _, Nat.zero_le _⟩⟩, ?_⟩
  · simp
  rintro j σ H1 ⟨pl, m, v, xs, l, rfl, rfl, s1, hxs, px, eq, lp, pn⟩
  refine ⟨_, rfl, _, _, rfl, rfl, _, rfl, ite2 (fun h1 => ?_) (fun h1 => ?_)⟩
  · have h1 : (0 : Int) < (m : Int) := of_decide_eq_true h1
    obtain ⟨m, rfl⟩ : ∃ m', m = m' + 1 := ⟨m - 1, by omega⟩
    refine ⟨fun σ' H' => ∃ m', m' < ns.length - pl ∧ InvW H a p ns m' σ' H', fun _ _ z => z, ?_⟩
    refine ⟨_, rfl, _, rfl, a, ns, pl, rfl, s1 _ _ ha, fun hw H2 s2 => ?_, fun o ho H2 q s2 nq eo => ?_⟩
    · refine ⟨_, rfl, rfl, _, rfl, ite2 (fun _ => ?_) (fun z => absurd (decide_eq_true rfl) z)⟩
      refine qn (fun l' e => ?_) H2 (s1.trans s2)
      rw [at_none hw] at eq
      rw [eq] at e; cases e
    · refine ⟨_, rfl, rfl, _, rfl, ite2 (fun z => absurd (of_decide_eq_true z) (by intro z; cases z)) (fun _ => ?_)⟩
      obtain ⟨k, r, rfl, ol, ef, et⟩ := at_some (m := m) ho
      have len : (k :: r).length + pl ≤ ns.length := by
        rw [List.length_drop] at ol; omega
      have hxs2 := s2 _ _ hxs
      have px2 := Two.mono px fun _ _ => TupAt.same s2
      have hl : xs.length < sizeLine := by
        rw [Two.len px]; exact small1000 (by omega)
      refine ⟨_, rfl, .inl ⟨rfl, _, SqL.of hxs2⟩, _, rfl, p, xs, _, rfl, rfl, hxs2, hl, ?_⟩
      have eo3 : (upd H2 p (.lst (xs ++ [.ref q]))) q = some (.tup ((k :: r).map iv)) := by
        rw [upd_ne (ne_of eo hxs2 (by intro z; cases z))]; exact eo
      have px3 : Paired (TupAt (upd H2 p (.lst (xs ++ [.ref q])))) (xs ++ [.ref q]) (l ++ [k :: r]) := Two.snoc ⟨q, rfl, eo3⟩ (Two.mono px2 fun _ _ z => z.upd hxs2)
      have s3 : Same H (upd H2 p (.lst (xs ++ [.ref q]))) := same_at (s1.trans s2) hp
      refine ⟨_, rfl, _, rfl, q, _, rfl, .inr (SqT.of eo3), _, _, rfl, rfl, ?_⟩
      refine ⟨_, rfl, q, _, 0, iv k, rfl, rfl, SqT.of eo3, atI_nat (j := 0) rfl, k, rfl, _, rfl, ?_⟩
      refine ite2 (fun z => ?_) (fun z => ?_)
      · refine ⟨_, rfl, _, _, rfl, rfl, ?_⟩
        refine ⟨ns.length - (pl + (k :: r).length), by simp; simp at len; omega, pl + (k :: r).length, m + 2, some (.ref q), _, _, rfl, ?_, s3, upd_same, px3, ?_, ?_, by omega⟩
        · rw [List.length_map]; rfl
        · rw [eq, et z, ← List.drop_drop]
          cases rdN (m + 2) ((ns.drop pl).drop (k :: r).length) <;> simp
        · simp; omega
      · refine ⟨_, rfl, _, _, rfl, rfl, ?_⟩
        refine ⟨ns.length - (pl + (k :: r).length), by simp; simp at len; omega, pl + (k :: r).length, m, some (.ref q), _, _, rfl, ?_, s3, upd_same, px3, ?_, ?_, by omega⟩
        · have e : (((m + 1 : Nat) : Int) - 1) = (m : Int) := by omega
          rw [List.length_map]
          dsimp only
          rw [e]; rfl
        · rw [eq, ef (Bool.eq_false_iff.mpr z), ← List.drop_drop]
          cases rdN m ((ns.drop pl).drop (k :: r).length) <;> simp
        · simp; omega
  · have h1 : ¬ (0 : Int) < (m : Int) := fun z => h1 (decide_eq_true z)
    have hm : m = 0 := by omega
    subst hm
    rw [show rdN 0 (ns.drop pl) = some ([], ns.drop pl) from rfl] at eq
    have eq : rdN 1 ns = some (l, ns.drop pl) := by rw [eq]; simp
    refine ⟨_, rfl, _, rfl, a, _, rfl, .inl (SqL.of (s1 _ _ ha)), _, _, rfl, rfl, _, rfl, ite2 (fun h2 => ?_) (fun h2 => ?_)⟩
    · have h2 : (pl : Int) < ((ns.map iv).length : Int) := of_decide_eq_true h2
      rw [List.length_map] at h2
      refine qn (fun l' e => ?_) H1 s1
      rw [eq] at e
      have := congrArg List.length (congrArg Prod.snd (Option.some.inj e))
      dsimp only at this
      rw [List.length_drop] at this
      simp at this; omega
    · have h2 : ¬ (pl : Int) < ((ns.map iv).length : Int) := fun z => h2 (decide_eq_true z)
      rw [List.length_map] at h2
      rw [List.drop_of_length_le (by omega)] at eq
      exact ⟨_, rfl, qs l eq (by omega) H1 p s1 hp ⟨xs, hxs, px⟩⟩
end
end Pf

set_option Elab.async false
set_option linter.all false
set_option maxRecDepth 100000
set_option maxHeartbeats 2000000
/-! How numbers are read: constructs_of. -/
namespace Pf
open PySem PySem.Spec PyProof.Rows L2
theorem for_rev {K : PySem.W.Frag} {a : Addr} {xs : List V} {g : TG} {tb : TS} {D : Ends} {σ : L2.St} {H : Hp} (Pv : Nat → L2.St → Hp → Prop) (h0 : Pv 0 σ H) (hl : ∀ i σ H, i ≤ xs.length → Pv i σ H → SqL K H a xs)
    (turn : ∀ i x σ H, xs.reverse[i]? = some x → Pv i σ H → g x σ H fun σ2 H2 => tb { D with nx := Pv (i + 1), ct := Pv (i + 1), bk := D.nx } σ2 H2) (last : ∀ σ H, Pv xs.length σ H → D.nx σ H) :
    ∃ W : Nat → Nat → L2.St → Hp → Prop, (∃ m, W 0 m σ H) ∧ ∀ i m σ H, W i m σ H →
      ((Itv K a xs.length).stop i H ∧ D.nx σ H) ∨ ((Itv K a xs.length).go i H ∧ ∃ N : L2.St → Hp → Prop, (∀ σ' H', N σ' H' → ∃ m', m' < m ∧ W (i + 1) m' σ' H') ∧ ∀ x H', (Itv K a xs.length).yld i H x H' → g x σ H' fun σ2 H2 => tb { D with nx := N, ct := N, bk := D.nx } σ2 H2) := by
  refine ⟨fun i m σ H => m = xs.length - i ∧ i ≤ xs.length ∧ Pv i σ H, ⟨xs.length, rfl, Nat.zero_le _, h0⟩, ?_⟩
  rintro i m σ H ⟨rfl, hi, p⟩
  have there := hl i σ H hi p
  rcases Nat.lt_or_ge i xs.length with lt | ge
  · have e : xs[xs.length - 1 - i]? = some (xs[xs.length - 1 - i]'(by omega)) := List.getElem?_eq_getElem (by omega)
    refine .inr ⟨⟨lt, xs, _, there, e⟩, Pv (i + 1), fun σ' H' q => ⟨xs.length - (i + 1), by omega, rfl, lt, q⟩, fun x H' y => ?_⟩
    obtain ⟨rfl, y⟩ := y
    refine turn i x σ H' ?_ p
    rw [List.getElem?_reverse lt]
    exact y xs there
  · have : i = xs.length := by omega
    subst this
    exact .inl ⟨Nat.le_refl _, last σ H p⟩
theorem Two.rev {α β : Type} {R : α → β → Prop} : ∀ {xs : List α} {bs : List β}, Paired R xs bs → Paired R xs.reverse bs.reverse
  | _, _, .nil => .nil
  | _, _, .cons h r => by
    rw [List.reverse_cons, List.reverse_cons]
    exact Two.snoc h (Two.rev r)
theorem toks_mem {tk : List Nat} (t : Wf.P) : tk ∈ toks t → (∃ a, tk = [0, a]) ∨ ∃ k, tk = [k] ∧ 1 ≤ k ∧ k ≤ 5 := by
  induction t using ind with
  | leaf t h =>
    intro m
    rw [(subs_leaf h).2, List.mem_singleton] at m
    subst m
    cases t <;> simp [kids] at h
    · exact .inl ⟨_, rfl⟩
    · exact .inr ⟨1, rfl, by decide, by decide⟩
  | node t k p q h hp hq =>
    intro m
    obtain ⟨_, h1, h2⟩ := mk_kids h
    rw [toks_node h, List.mem_cons, List.mem_append] at m
    rcases m with rfl | m | m
    · exact .inr ⟨k, rfl, by omega, h2⟩
    · exact hp m
    · exact hq m
section
variable {P : Program} {w : World} {K : PySem.W.Frag} {mg : Str → Option Value} {base : Heap}
abbrev sOf : Stmt := top 9
theorem scOf : FnScope ["numbers", "written", "constructs", "waiting", "own_numbers", "kind", "first", "second"] ["numbers"] (defScope sOf) := ⟨rfl, rfl, rfl, by decide +kernel, rfl, by decide +kernel, by decide +kernel⟩
def spOf : Sp := fun vs H Q _ => ∃ (a : Addr) (ns : List Nat), vs = [.ref a] ∧ H a = some (.lst (ns.map iv)) ∧ ns.length ≤ 100 ∧
  (Wf06.run? ns = none → ∀ H', Same H H' → Q .non H') ∧ (∀ t, Wf06.run? ns = some t → t.size ≤ 100 → ∀ H' p, Same H H' → H p = none → TupsAt H' p (enc 0 t) → Q (.ref p) H')
structure R2b (P : Program) (w : World) (K : PySem.W.Frag) (mg : Str → Option Value) (base : Heap) : Prop extends R2a P w K mg base where
  written_constructs : Ready P w K mg base 2 "written_constructs" ["numbers"] spWr
structure InvO (H0 : Hp) (a q p1 p2 : Addr) (t : Wf.P) (i : Nat) (σ : L2.St) (H1 : Hp) : Prop where
  is : ∃ (cs : List (List Nat)) (ws : List Nat) (xs : List V) (v4 v5 v6 v7 : Option V), σ = [some (.ref a), some (.ref q), some (.ref p1), some (.ref p2), v4, v5, v6, v7] ∧ Same H0 H1 ∧ H1 p1 = some (.lst xs) ∧ Paired (TupAt H1) xs cs ∧
    H1 p2 = some (.lst (ws.map iv)) ∧ ((toks t).reverse.take i).foldl stepO (some ([], [])) = some (cs, ws) ∧ cs.length = i ∧ ws.length ≤ i
theorem ok_of {f : Addr} {fd : FuncData} (F : Fun K "constructs_of" "constructs_of" sOf f fd) (c : Con mg) (R : R2b P w K mg base) : FnOk P w K mg base CX0 3 f fd ["numbers"] spOf := by
  have S := scOf
  refine F.ok S (fun vs H Q E h => ?_) (fun cdv A outer s H vs Q E hr h => ?_)
  · obtain ⟨a, ns, rfl, _⟩ := h
    rfl
  refine ⟨_, (pss_cons (ps_set (i := 1) S.nd rfl (Or.inl rfl) (pe_do R.written_constructs (hr.mono (by decide)) rfl (pa_cons (pv 0) pa_nil)))
    (pss_cons (ps_if (pt_cmpR op_isN (pv 1) pe_non (nomark _)) (pss_one (ps_ret pe_non)) pss_nil)
    (pss_cons (ps_set (i := 2) S.nd rfl (Or.inl rfl) (pe_lst pa_nil))
    (pss_cons (ps_set (i := 3) S.nd rfl (Or.inl rfl) (pe_lst pa_nil))
    (pss_cons (ps_for PassesOwn.never rfl (pi_reversed (by rfl) c.reversed (pa_cons (pv 1) pa_nil)) (pg_name (i := 4) S.nd rfl (Or.inl rfl))
      (pss_cons (ps_set (i := 5) S.nd rfl (Or.inl rfl) (pe_ix ix_tup (pv 4) pe_int (fun _ _ => rfl)))
      (C8.pss_cut (ps_if (pt_val (pe_do R.has_parts (hr.mono (by decide)) rfl (pa_cons (pv 5) pa_nil))) (pss_cons (ps_set (i := 6) S.nd rfl (Or.inl rfl) (pe_bm0 PySem.F.plainAttrs_list PySem.F.slot_list_pop PySem.F.type_list_pop mt_pop (pv 3)))
        (pss_cons (ps_set (i := 7) S.nd rfl (Or.inl rfl) (pe_bm0 PySem.F.plainAttrs_list PySem.F.slot_list_pop PySem.F.type_list_pop mt_pop (pv 3)))
        (pss_one (ps_expr (pe_bm PySem.F.plainAttrs_list PySem.F.slot_list_append PySem.F.type_list_append mt_append (pv 2) (pa_cons (pe_tup (pa_cons (pv 5) (pa_cons (pv 6) (pa_cons (pv 7) pa_nil)))) pa_nil)))))) (pss_one (ps_expr (pe_bm PySem.F.plainAttrs_list PySem.F.slot_list_append PySem.F.type_list_append mt_append (pv 2) (pa_cons (pv 4) pa_nil)))))
      (pss_one (ps_expr (pe_bm PySem.F.plainAttrs_list PySem.F.slot_list_append PySem.F.type_list_append mt_append (pv 3) (pa_cons (pe_op op_sub (pe_callB call_len_seq (by rfl) c.len PySem.boot_len (pa_cons (pv 2) pa_nil)) pe_int) pa_nil)))))))
    (pss_one (ps_ret (pv 2)))))))), ?_⟩
  obtain ⟨a, ns, rfl, ha, hn, qn, qs⟩ := h
  refine ⟨_, rfl, a, ns, rfl, ha, hn, fun hw H1 s1 => ?_, fun l hw hl H1 q s1 nq eq => ?_⟩
  · refine ⟨_, rfl, rfl, _, rfl, ite2 (fun _ => ?_) (fun z => absurd (decide_eq_true rfl) z)⟩
    refine qn ?_ H1 s1
    cases e : rdN 1 ns with
    | none => exact run?_none e
    | some y =>
      obtain ⟨l, r⟩ := y
      cases r with
      | nil => exact absurd e (hw l)
      | cons b r => exact run?_rest e
  · refine ⟨_, rfl, rfl, _, rfl, ite2 (fun z => absurd (of_decide_eq_true z) (by intro z; cases z)) (fun _ => ?_)⟩
    obtain ⟨t, ht, rfl⟩ := run?_some hw
    obtain ⟨xs, hxs, px⟩ := eq
    refine ⟨Nat.zero_le _, fun p1 n1 => ⟨Nat.zero_le _, fun p2 n2 => ?_⟩⟩
    have s12 : Same H1 (upd (upd H1 p1 (.lst [])) p2 (.lst [])) := (same_new n1).trans (same_new n2)
    have ne : p1 ≠ p2 := ne_of_none upd_same n2
    have lx := Two.len px
    have prx := Two.rev px
    refine ⟨_, rfl, q, xs, rfl, SqL.of (s12 _ _ hxs), for_rev (InvO H1 a q p1 p2 t) ⟨[], [], [], none, none, none, none, rfl, s12, ?_, .nil, upd_same, rfl, rfl, Nat.le_refl _⟩ (fun i σ H' hi z => ?_) ?_ ?_⟩
    · rw [upd_ne ne]; exact upd_same
    · obtain ⟨_, _, _, _, _, _, _, _, s2, _⟩ := z
      exact SqL.of (s2 _ _ hxs)
    · rintro i x σ H2 hx ⟨cs, ws, ys, v4, v5, v6, v7, rfl, s2, hp1, py, hp2, fold, lc, lw⟩
      obtain ⟨tk, htk, ⟨b, rfl, hb0⟩⟩ := Two.left prx hx
      have hb := s2 _ _ hb0
      have ti : i < (toks t).reverse.length := (List.getElem?_eq_some_iff.mp htk).1
      have tl : (toks t).reverse.length = (toks t).length := List.length_reverse
      have hi : i < 100 := by omega
      have take : (toks t).reverse.take (i + 1) = (toks t).reverse.take i ++ [tk] := by
        rw [List.take_add_one, htk]; rfl
      obtain ⟨⟨cs', ws'⟩, fold'⟩ := walk_some t (i + 1)
      rw [take, List.foldl_append, fold] at fold'
      have step : stepO (some (cs, ws)) tk = some (cs', ws') := fold'
      have fold2 : ((toks t).reverse.take (i + 1)).foldl stepO (some ([], [])) = some (cs', ws') := by
        rw [take, List.foldl_append, fold]; exact step
      have hmem : tk ∈ toks t := List.mem_reverse.mp (List.mem_of_getElem? htk)
      have ly := Two.len py
      obtain ⟨k, r, rfl⟩ : ∃ k r, tk = k :: r := by
        rcases toks_mem t hmem with ⟨a, rfl⟩ | ⟨k, rfl, _⟩ <;> exact ⟨_, _, rfl⟩
      refine ⟨_, rfl, b, _, 0, iv k, rfl, rfl, SqT.of hb, atI_nat (j := 0) rfl, ?_⟩
      refine ⟨fun σ H4 => ∃ zs wx v4 v5 v6 v7, σ = [some (.ref a), some (.ref q), some (.ref p1), some (.ref p2), v4, v5, v6, v7] ∧ Same H1 H4 ∧ H4 p1 = some (.lst zs) ∧ Paired (TupAt H4) zs cs' ∧ H4 p2 = some (.lst (wx.map iv)) ∧ ws' = wx ++ [cs'.length - 1] ∧ cs'.length = i + 1 ∧ wx.length ≤ i, ?_, ?_⟩
      rotate_left
      · rintro σ H4 ⟨zs, wx, v4, v5, v6, v7, rfl, s4, g1, pz, g2, rfl, lc', lx'⟩
        have lz := Two.len pz
        refine ⟨_, rfl, .inl ⟨rfl, _, SqL.of g2⟩, _, rfl, p1, zs, rfl, .inl (SqL.of g1), _, _, rfl, rfl, p2, _, _, rfl, rfl, g2, small1000 (by rw [List.length_map]; omega), ?_⟩
        have e1 : ((zs.length : Int) - 1) = ((cs'.length - 1 : Nat) : Int) := by omega
        dsimp only
        rw [e1]
        refine ⟨cs', wx ++ [cs'.length - 1], zs, v4, v5, v6, v7, rfl, same_at s4 ((same_new n1).free n2), ?_, Two.mono pz fun _ _ q => q.upd g2, ?_, fold2, lc', by simp; omega⟩
        · rw [upd_ne ne]; exact g1
        · rw [upd_same, List.map_append]; rfl
      refine ⟨_, rfl, k, rfl, _, rfl, ite2 (fun z => ?_) (fun z => ?_)⟩
      · have z : 2 ≤ k := of_decide_eq_true z
        obtain rfl : r = [] := by
          rcases toks_mem t hmem with ⟨a, e⟩ | ⟨k, e, _⟩
          · cases e; omega
          · cases e; rfl
        have hk1 : ¬ k = 1 := by omega
        obtain ⟨x, y, w0, ew⟩ : ∃ x y w0, ws.reverse = x :: y :: w0 := by
          match e : ws.reverse with
          | [] => simp [stepO, hk1, e] at step
          | [x] => simp [stepO, hk1, e] at step
          | x :: y :: w0 => exact ⟨x, y, w0, rfl⟩
        have ew2 : ws = w0.reverse ++ [y, x] := by
          have := congrArg List.reverse ew
          rw [List.reverse_reverse] at this
          rw [this]; simp
        have step2 : cs ++ [[k, x, y]] = cs' ∧ w0.reverse ++ [cs.length] = ws' := by
          simp [stepO, hk1, ew] at step; exact step
        subst ew2
        have g1 : ((w0.reverse ++ [y, x]).map iv)[((w0.reverse ++ [y, x]).map iv).length - 1]? = some (iv x) := by
          rw [← List.getLast?_eq_getElem?, List.map_append]
          show ((w0.reverse.map iv) ++ [iv y, iv x]).getLast? = _
          simp
        have g2 : ((w0.reverse ++ [y, x]).map iv).dropLast = (w0.reverse ++ [y]).map iv := by
          have : w0.reverse ++ [y, x] = (w0.reverse ++ [y]) ++ [x] := by simp
          rw [this, List.map_append]
          show (_ ++ [iv x]).dropLast = _
          rw [List.dropLast_concat]
        have g3 : ((w0.reverse ++ [y]).map iv)[((w0.reverse ++ [y]).map iv).length - 1]? = some (iv y) := by
          rw [← List.getLast?_eq_getElem?, List.map_append]
          show ((w0.reverse.map iv) ++ [iv y]).getLast? = _
          simp
        have g4 : ((w0.reverse ++ [y]).map iv).dropLast = w0.reverse.map iv := by
          rw [List.map_append]
          show (_ ++ [iv y]).dropLast = _
          rw [List.dropLast_concat]
        refine ⟨_, rfl, .inl ⟨rfl, _, SqL.of hp2⟩, p2, _, iv x, rfl, rfl, hp2, g1, ?_⟩
        rw [g2]
        refine ⟨_, rfl, .inl ⟨rfl, _, SqL.of upd_same⟩, p2, _, iv y, rfl, rfl, upd_same, g3, ?_⟩
        rw [g4, upd_upd]
        have hp1' : (upd H2 p2 (.lst (w0.reverse.map iv))) p1 = some (.lst ys) := by rw [upd_ne ne]; exact hp1
        have py' : Paired (TupAt (upd H2 p2 (.lst (w0.reverse.map iv)))) ys cs := Two.mono py fun _ _ q => q.upd hp2
        have s3 : Same H1 (upd H2 p2 (.lst (w0.reverse.map iv))) := same_at s2 ((same_new n1).free n2)
        refine ⟨_, rfl, .inl ⟨rfl, _, SqL.of hp1'⟩, _, rfl, _, rfl, _, rfl, by show 3 ≤ sizeLine; decide, fun tp ntp => ?_⟩
        have s4 := same_new (o := .tup [iv k, iv x, iv y]) ntp
        refine ⟨p1, ys, _, rfl, rfl, s4 _ _ hp1', small1000 (by omega), ?_⟩
        have n3 : tp ≠ p1 := (ne_of_none hp1' ntp).symm
        refine ⟨_, w0.reverse, _, _, _, _, rfl, same_at (s3.trans s4) n1, upd_same, ?_, ?_, ?_, ?_, ?_⟩
        · rw [← step2.1]
          refine Two.snoc ⟨tp, rfl, ?_⟩ (Two.mono py' fun _ _ q => (q.same s4).upd (s4 _ _ hp1'))
          rw [upd_ne n3]; exact upd_same
        · rw [upd_ne (Ne.symm ne)]
          exact s4 _ _ upd_same
        · rw [← step2.1, ← step2.2]; simp
        · rw [← step2.1]; simp [lc]
        · simp at lw; simp; omega
      · have z : ¬ 2 ≤ k := fun y => z (decide_eq_true y)
        have step2 : cs ++ [k :: r] = cs' ∧ ws ++ [cs.length] = ws' := by
          rcases toks_mem t hmem with ⟨a, e⟩ | ⟨k, e, h1, _⟩
          · cases e; simp [stepO] at step; exact step
          · cases e
            have : k = 1 := by omega
            subst this
            simp [stepO] at step; exact step
        refine ⟨_, rfl, .inl ⟨rfl, _, SqL.of hp1⟩, _, rfl, p1, ys, _, rfl, rfl, hp1, small1000 (by omega), ?_⟩
        refine ⟨_, ws, _, _, _, _, rfl, same_at s2 n1, upd_same, ?_, ?_, ?_, ?_, ?_⟩
        · rw [← step2.1]
          exact Two.snoc ⟨b, rfl, by rw [upd_ne (ne_of hb hp1 (by intro z; cases z))]; exact hb⟩ (Two.mono py fun _ _ q => q.upd hp1)
        · rw [upd_ne (Ne.symm ne)]; exact hp2
        · rw [← step2.1, ← step2.2]; simp
        · rw [← step2.1]; simp [lc]
        · exact lw
    · rintro σ H2 ⟨cs, ws, ys, v4, v5, v6, v7, rfl, s2, hp1, py, hp2, fold, lc, lw⟩
      rw [lx, List.take_of_length_le (by simp), walk t [] []] at fold
      have e : enc 0 t = cs := by
        have := congrArg (fun z => z.map Prod.fst) fold
        simpa using this
      refine ⟨_, rfl, qs t ht ?_ H2 p1 (s1.trans s2) (s1.free n1) ⟨ys, hp1, by rw [e]; exact py⟩⟩
      rw [← toks_len]; exact hl
end
end Pf

set_option Elab.async false
set_option linter.all false
set_option maxRecDepth 100000
set_option maxHeartbeats 2000000
/-! Which processes are right: has_loop_of_empty, has_unknown_step, is_process. -/
namespace Pf
open PySem PySem.Spec PyProof.Rows L2
theorem Enc.back {near : Bool} {ts : List Wf.P} {cs : List (List Nat)} {i : Nat} {c : List Nat} (h : Enc near ts cs) (hc : cs[i]? = some c) : ∃ u, ts[i]? = some u ∧ Cod near ts i u c := by
  have hi : i < ts.length := by rw [h.len]; exact (List.getElem?_eq_some_iff.mp hc).1
  obtain ⟨d, hd, q⟩ := h.at' i _ (List.getElem?_eq_getElem hi)
  rw [hc] at hd
  cases hd
  exact ⟨_, List.getElem?_eq_getElem hi, q⟩
theorem tok_leaf {u : Wf.P} (h : kids u = none) : ∃ k r, tok u = k :: r ∧ k ≤ 1 ∧ u.void = decide (k = 1) := by
  cases u <;> simp [kids] at h
  · exact ⟨0, _, rfl, by decide, rfl⟩
  · exact ⟨1, _, rfl, by decide, rfl⟩
theorem take_next {α : Type} {l : List α} {i : Nat} {x : α} (h : l[i]? = some x) : l.take (i + 1) = l.take i ++ [x] := by
  rw [List.take_add_one, h]; rfl
theorem take_get {α : Type} {l : List α} {i x : Nat} {u : α} (h : l[x]? = some u) (hx : x < i) : (l.take i)[x]? = some u := by
  rw [List.getElem?_take_of_lt hx]; exact h
theorem any_take {α : Type} {l : List α} {i : Nat} {x : α} (f : α → Bool) (h : l[i]? = some x) (hx : f x = true) : l.any f = true := List.any_eq_true.mpr ⟨x, List.mem_of_getElem? h, hx⟩
section
variable {P : Program} {w : World} {K : PySem.W.Frag} {mg : Str → Option Value} {base : Heap}
abbrev sLp : Stmt := top 11
theorem scLp : FnScope ["constructs", "capable", "construct", "kind", "first", "second"] ["constructs"] (defScope sLp) := ⟨rfl, rfl, rfl, by decide +kernel, rfl, by decide +kernel, by decide +kernel⟩
def spLp : Sp := fun vs H Q _ => ∃ (a : Addr) (t : Wf.P), vs = [.ref a] ∧ TupsAt H a (enc 0 t) ∧ t.size ≤ 100 ∧ ∀ H', Same H H' → Q (.bl ((subs t).any badLoop)) H'
structure InvL (H : Hp) (a p : Addr) (t : Wf.P) (i : Nat) (σ : L2.St) (H1 : Hp) : Prop where
  is : ∃ (v2 v3 v4 v5 : Option V), σ = [some (.ref a), some (.ref p), v2, v3, v4, v5] ∧ Same H H1 ∧ H1 p = some (.lst (((subs t).take i).map fun u => V.bl u.void)) ∧ ((subs t).take i).any badLoop = false
theorem ok_lp {f : Addr} {fd : FuncData} (F : Fun K "has_loop_of_empty" "has_loop_of_empty" sLp f fd) (c : Con mg) (R : R1 P w K mg base) : FnOk P w K mg base CX0 2 f fd ["constructs"] spLp := by
  have S := scLp
  refine F.ok S (fun vs H Q E h => ?_) (fun cdv A outer s H vs Q E hr h => ?_)
  · obtain ⟨a, t, rfl, _⟩ := h
    rfl
  refine ⟨_, (pss_cons (ps_set (i := 1) S.nd rfl (Or.inl rfl) (pe_lst pa_nil))
    (pss_cons (ps_for PassesOwn.never rfl (pi_list (pv 0)) (pg_name (i := 2) S.nd rfl (Or.inl rfl))
      (pss_cons (ps_set (i := 3) S.nd rfl (Or.inl rfl) (pe_ix ix_tup (pv 2) pe_int (fun _ _ => rfl)))
      (pss_one (ps_if (pt_val (pe_do R.has_parts (hr.mono (by decide)) rfl (pa_cons (pv 3) pa_nil))) (pss_cons (ps_set (i := 4) S.nd rfl (Or.inl rfl) (pe_ix ix_list (pv 1) (pe_ix ix_tup (pv 2) pe_int (fun _ _ => rfl)) (fun _ _ => rfl)))
        (pss_cons (ps_set (i := 5) S.nd rfl (Or.inl rfl) (pe_ix ix_list (pv 1) (pe_ix ix_tup (pv 2) pe_int (fun _ _ => rfl)) (fun _ _ => rfl)))
        (pss_cons (ps_if (PW.pt (pw_and (pt_cmpR op_eq (pv 3) (pe_con rfl c.LOOP) (nomark _)) (pw_and1 (pt_val (pv 4))))) (pss_one (ps_ret pe_bl)) pss_nil)
        (pss_one (ps_expr (pe_bm PySem.F.plainAttrs_list PySem.F.slot_list_append PySem.F.type_list_append mt_append (pv 1) (pa_cons (pe_do R.is_empty_capable (hr.mono (by decide)) rfl (pa_cons (pv 3) (pa_cons (pv 4) (pa_cons (pv 5) pa_nil)))) pa_nil))))))) (pss_one (ps_expr (pe_bm PySem.F.plainAttrs_list PySem.F.slot_list_append PySem.F.type_list_append mt_append (pv 1) (pa_cons (pe_cmpR op_eq (pv 3) (pe_con rfl c.EMPTY) (nomark _)) pa_nil))))))))
    (pss_one (ps_ret pe_bl)))), ?_⟩
  obtain ⟨a, t, rfl, ⟨xs, hxs, px⟩, hz, q⟩ := h
  have E0 := enc_subs t
  have lx : xs.length = (subs t).length := (Two.len px).trans E0.len.symm
  have lz : (subs t).length ≤ 100 := by rw [subs_len]; exact hz
  refine ⟨Nat.zero_le _, fun p np => ?_⟩
  refine ⟨_, rfl, a, rfl, ⟨xs, SqL.of (same_new np _ _ hxs)⟩, for_list (xs := xs) (InvL H a p t) ⟨none, none, none, none, rfl, same_new np, upd_same, rfl⟩ (fun i σ H' hi z => ?_) ?_ ?_⟩
  · obtain ⟨_, _, _, _, _, s2, _⟩ := z
    exact SqL.of (s2 _ _ hxs)
  · rintro i x σ H1 hx ⟨v2, v3, v4, v5, rfl, s1, hp, no⟩
    obtain ⟨d, hd, ⟨b, rfl, hb0⟩⟩ := Two.left px hx
    obtain ⟨u, hu, cod⟩ := E0.back hd
    have hb := s1 _ _ hb0
    have li : (((subs t).take i).map fun u => V.bl u.void).length < sizeLine := small1000 (by rw [List.length_map, List.length_take]; omega)
    have nxt : ∀ bv, u.void = bv → badLoop u = false → InvL H a p t (i + 1) [some (.ref a), some (.ref p), some (.ref b), v3, v4, v5] (upd H1 p (.lst ((((subs t).take i).map fun u => V.bl u.void) ++ [.bl bv]))) := fun bv e1 e2 => by
      refine ⟨_, _, _, _, rfl, same_at s1 np, ?_, ?_⟩
      · rw [upd_same, take_next hu, List.map_append, ← e1]; rfl
      · rw [take_next hu, List.any_append, no]; simp [e2]
    cases hk : kids u with
    | none =>
      obtain ⟨k, r, e, k1, ev⟩ := tok_leaf hk
      have ed := cod.leaf hk
      rw [e] at ed
      subst ed
      refine ⟨_, rfl, b, _, 0, iv k, rfl, rfl, SqT.of hb, atI_nat (j := 0) rfl, ?_⟩
      refine ⟨_, rfl, k, rfl, _, rfl, ite2 (fun z => absurd (of_decide_eq_true z : 2 ≤ k) (by omega)) (fun _ => ?_)⟩
      refine ⟨_, rfl, .inl ⟨rfl, _, SqL.of hp⟩, _, rfl, rfl, p, _, _, rfl, rfl, hp, li, ?_⟩
      have e1 : decide (iv k = V.int 1) = u.void := by
        rw [ev, Bool.eq_iff_iff, t_eq, decide_eq_true_eq]; omega
      rw [e1]
      obtain ⟨w2, w3, w4, w5, r1, r2⟩ := nxt _ rfl (badLoop_leaf hk)
      exact ⟨_, _, _, _, rfl, r2⟩
    | some kk =>
      obtain ⟨k, pp, qq⟩ := kk
      obtain ⟨x, y, hx, hy, _, ex, ey, rfl⟩ := cod.node hk
      obtain ⟨_, k2, k5⟩ := mk_kids hk
      refine ⟨_, rfl, b, _, 0, iv k, rfl, rfl, SqT.of hb, atI_nat (j := 0) rfl, ?_⟩
      refine ⟨_, rfl, k, rfl, _, rfl, ite2 (fun _ => ?_) (fun z => absurd (decide_eq_true k2) z)⟩
      have gx : (((subs t).take i).map fun u => V.bl u.void)[x]? = some (.bl pp.void) := by
        rw [List.getElem?_map, take_get ex hx]; rfl
      have gy : (((subs t).take i).map fun u => V.bl u.void)[y]? = some (.bl qq.void) := by
        rw [List.getElem?_map, take_get ey hy]; rfl
      refine ⟨_, rfl, _, rfl, b, _, 1, iv x, rfl, rfl, SqT.of hb, atI_nat (j := 1) rfl, p, _, _, _, rfl, rfl, SqL.of hp, atI_nat gx, ?_⟩
      refine ⟨_, rfl, _, rfl, b, _, 2, iv y, rfl, rfl, SqT.of hb, atI_nat (j := 2) rfl, p, _, _, _, rfl, rfl, SqL.of hp, atI_nat gy, ?_⟩
      have fin : ¬ (k = 5 ∧ pp.void = true) → InvL H a p t (i + 1) [some (.ref a), some (.ref p), some (.ref b), some (iv k), some (.bl pp.void), some (.bl qq.void)] (upd H1 p (.lst ((((subs t).take i).map fun u => V.bl u.void) ++ [.bl (voidK k pp.void qq.void)]))) := fun z => by
        obtain ⟨w2, w3, w4, w5, r1, r2⟩ := nxt _ (void_node hk) (by
          rw [badLoop_node hk]
          cases e : pp.void <;> simp [e] at z ⊢
          exact z)
        exact ⟨_, _, _, _, rfl, r2⟩
      refine ⟨_, rfl, rfl, _, rfl, ite2 (fun h1 => ?_) (fun h1 => ?_)⟩
      · have h1 := t_eq.mp h1
        refine ⟨_, rfl, pp.void, rfl, ite2 (fun h2 => ?_) (fun h2 => ?_)⟩
        · have e : (subs t).any badLoop = true := any_take _ hu (by rw [badLoop_node hk, h2, Bool.and_true]; exact decide_eq_true (by omega))
          have q := q H1 s1
          rw [e] at q
          exact q
        · refine ⟨_, rfl, .inl ⟨rfl, _, SqL.of hp⟩, _, rfl, _, rfl, _, rfl, k, pp.void, qq.void, rfl, p, _, _, rfl, rfl, hp, li, fin (fun z => h2 z.2)⟩
      · refine ⟨_, rfl, .inl ⟨rfl, _, SqL.of hp⟩, _, rfl, _, rfl, _, rfl, k, pp.void, qq.void, rfl, p, _, _, rfl, rfl, hp, li, fin (fun z => h1 (t_eq.mpr (by omega)))⟩
  · rintro σ H1 ⟨v2, v3, v4, v5, rfl, s1, hp, no⟩
    rw [lx, List.take_of_length_le (Nat.le_refl _)] at no
    have q := q H1 s1
    rw [no] at q
    exact q
end
end Pf

set_option Elab.async false
set_option linter.all false
set_option maxRecDepth 100000
set_option maxHeartbeats 2000000
/-! has_unknown_step, is_process; add_loop. -/
namespace Pf
open PySem PySem.Spec PyProof.Rows L2
section
variable {P : Program} {w : World} {K : PySem.W.Frag} {mg : Str → Option Value} {base : Heap}
/-! ### has_unknown_step -/
abbrev sUn : Stmt := top 33
theorem scUn : FnScope ["constructs", "construct"] ["constructs"] (defScope sUn) := ⟨rfl, rfl, rfl, by decide +kernel, rfl, by decide +kernel, by decide +kernel⟩
def spUn : Sp := fun vs H Q _ => ∃ (a : Addr) (t : Wf.P), vs = [.ref a] ∧ TupsAt H a (enc 0 t) ∧ Q (.bl ((subs t).any badStep)) H
theorem ok_un {f : Addr} {fd : FuncData} (F : Fun K "has_unknown_step" "has_unknown_step" sUn f fd) (c : Con mg) : FnOk P w K mg base CX0 1 f fd ["constructs"] spUn := by
  have S := scUn
  refine F.ok S (fun vs H Q E h => ?_) (fun cdv A outer s H vs Q E hr h => ?_)
  · obtain ⟨a, t, rfl, _⟩ := h
    rfl
  refine ⟨_, (pss_cons (ps_for PassesOwn.never rfl (pi_list (pv 0)) (pg_name (i := 1) S.nd rfl (Or.inl rfl))
      (pss_one (ps_if (PW.pt (pw_and (pt_cmpR op_eq (pe_ix ix_tup (pv 1) pe_int (fun _ _ => rfl)) (pe_con rfl c.STEP) (nomark _)) (pw_and1 (pt_cmpR op_gt (pe_ix ix_tup (pv 1) pe_int (fun _ _ => rfl)) (pe_con rfl c.LAST_STEP) (nomark _))))) (pss_one (ps_ret pe_bl)) pss_nil)))
    (pss_one (ps_ret pe_bl))), ?_⟩
  obtain ⟨a, t, rfl, ⟨xs, hxs, px⟩, q⟩ := h
  have E0 := enc_subs t
  have lx : xs.length = (subs t).length := (Two.len px).trans E0.len.symm
  refine ⟨_, rfl, a, rfl, ⟨xs, SqL.of hxs⟩, for_list (xs := xs) (fun i σ H' => ∃ v, σ = [some (.ref a), v] ∧ H' = H ∧ ((subs t).take i).any badStep = false) ⟨none, rfl, rfl, rfl⟩ (fun i σ H' hi z => ?_) ?_ ?_⟩
  · obtain ⟨_, _, rfl, _⟩ := z
    exact SqL.of hxs
  · rintro i x σ H1 hx ⟨v, rfl, rfl, no⟩
    obtain ⟨d, hd, ⟨b, rfl, hb⟩⟩ := Two.left px hx
    obtain ⟨u, hu, cod⟩ := E0.back hd
    have nxt : badStep u = false → ∃ v, [some (V.ref a), some (V.ref b)] = [some (V.ref a), v] ∧ H1 = H1 ∧ ((subs t).take (i + 1)).any badStep = false := fun e =>
      ⟨_, rfl, rfl, by rw [take_next hu, List.any_append, no]; simp [e]⟩
    cases hk : kids u with
    | none =>
      have ed := cod.leaf hk
      cases u <;> simp [kids] at hk
      · rename_i n
        obtain rfl : d = [0, n] := ed
        refine ⟨_, rfl, b, _, 0, iv 0, rfl, rfl, SqT.of hb, atI_nat (j := 0) rfl, rfl, _, rfl, ite2 (fun _ => ?_) (fun z => absurd (t_eq.mpr rfl) z)⟩
        refine ⟨_, rfl, b, _, 1, iv n, rfl, rfl, SqT.of hb, atI_nat (j := 1) rfl, _, _, rfl, rfl, _, rfl, ite2 (fun h2 => ?_) (fun h2 => ?_)⟩
        · have h2 : (5 : Int) < (n : Int) := of_decide_eq_true h2
          have e : (subs t).any badStep = true := any_take _ hu (by show decide (5 < n) = true; exact decide_eq_true (by omega))
          rw [e] at q
          exact q
        · have h2 : ¬ (5 : Int) < (n : Int) := fun z => h2 (decide_eq_true z)
          exact nxt (by show decide (5 < n) = false; exact decide_eq_false (by omega))
      · obtain rfl : d = [1] := ed
        refine ⟨_, rfl, b, _, 0, iv 1, rfl, rfl, SqT.of hb, atI_nat (j := 0) rfl, rfl, _, rfl, ite2 (fun z => absurd (t_eq.mp z) (by decide)) (fun _ => ?_)⟩
        exact nxt rfl
    | some kk =>
      obtain ⟨k, pp, qq⟩ := kk
      obtain ⟨x, y, _, _, _, _, _, rfl⟩ := cod.node hk
      obtain ⟨_, k2, k5⟩ := mk_kids hk
      refine ⟨_, rfl, b, _, 0, iv k, rfl, rfl, SqT.of hb, atI_nat (j := 0) rfl, rfl, _, rfl, ite2 (fun z => absurd (t_eq.mp z) (by omega)) (fun _ => ?_)⟩
      exact nxt (badStep_node hk)
  · rintro σ H1 ⟨v, rfl, rfl, no⟩
    rw [lx, List.take_of_length_le (Nat.le_refl _)] at no
    rw [no] at q
    exact q
/-! ### is_process -/
abbrev sPr : Stmt := top 34
theorem scPr : FnScope ["constructs"] ["constructs"] (defScope sPr) := ⟨rfl, rfl, rfl, by decide +kernel, rfl, by decide +kernel, by decide +kernel⟩
def spPr : Sp := fun vs H Q _ => ∃ (a : Addr) (t : Wf.P), vs = [.ref a] ∧ TupsAt H a (enc 0 t) ∧ t.size ≤ 100 ∧ ∀ H', Same H H' → Q (.bl (t.right && decide (t.size ≤ 11))) H'
structure R3a (P : Program) (w : World) (K : PySem.W.Frag) (mg : Str → Option Value) (base : Heap) : Prop where
  has_unknown_step : Ready P w K mg base 1 "has_unknown_step" ["constructs"] spUn
  has_loop_of_empty : Ready P w K mg base 2 "has_loop_of_empty" ["constructs"] spLp
theorem ok_pr {f : Addr} {fd : FuncData} (F : Fun K "is_process" "is_process" sPr f fd) (c : Con mg) (R : R3a P w K mg base) : FnOk P w K mg base CX0 3 f fd ["constructs"] spPr := by
  have S := scPr
  refine F.ok S (fun vs H Q E h => ?_) (fun cdv A outer s H vs Q E hr h => ?_)
  · obtain ⟨a, t, rfl, _⟩ := h
    rfl
  refine ⟨_, (pss_cons (ps_if (PW.pt (pw_or (pt_cmpR op_gt (pe_callB call_len_seq (by rfl) c.len PySem.boot_len (pa_cons (pv 0) pa_nil)) (pe_con rfl c.GREATEST_SIZE) (nomark _)) (pw_or1 (pt_val (pe_do R.has_unknown_step (hr.mono (by decide)) rfl (pa_cons (pv 0) pa_nil)))))) (pss_one (ps_ret pe_bl)) pss_nil)
    (pss_one (ps_ret (pe_not (pe_do R.has_loop_of_empty (hr.mono (by decide)) rfl (pa_cons (pv 0) pa_nil)))))), ?_⟩
  obtain ⟨a, t, rfl, ht, hz, q⟩ := h
  obtain ⟨xs, hxs, px⟩ := id ht
  have lx : xs.length = t.size := (Two.len px).trans (enc_len t 0)
  rw [right_subs] at q
  refine ⟨_, rfl, a, xs, rfl, .inl (SqL.of hxs), _, _, rfl, rfl, _, rfl, ite2 (fun h1 => ?_) (fun h1 => ?_)⟩
  · have h1 : (11 : Int) < (xs.length : Int) := of_decide_eq_true h1
    have q := q H (Same.refl H)
    rw [decide_eq_false (by omega : ¬ t.size ≤ 11), Bool.and_false] at q
    exact q
  · have h1 : ¬ (11 : Int) < (xs.length : Int) := fun z => h1 (decide_eq_true z)
    rw [decide_eq_true (by omega : t.size ≤ 11), Bool.and_true] at q
    refine ⟨_, rfl, a, t, rfl, ht, _, rfl, ite2 (fun h2 => ?_) (fun h2 => ?_)⟩
    · have q := q H (Same.refl H)
      rw [h2] at q
      exact q
    · rw [Bool.eq_false_iff.mpr h2] at q
      exact ⟨_, rfl, a, t, rfl, ht, hz, fun H' s' => ⟨_, rfl, q H' s'⟩⟩
/-! ### add_loop -/
abbrev sAdd : Stmt := top 13
theorem scAdd : FnScope ["unrolled", "first", "second", "rounds", "left", "rest"] ["unrolled", "first", "second", "rounds"] (defScope sAdd) := ⟨rfl, rfl, rfl, by decide +kernel, rfl, by decide +kernel, by decide +kernel⟩
/-- the list at a grows; all else that stood stands -/
def spAdd : Sp := fun vs H Q _ => ∃ (a : Addr) (un : List (List Nat)) (f g n : Nat), vs = [.ref a, iv f, iv g, iv n] ∧ TupsAt H a un ∧ 1 ≤ un.length ∧ un.length ≤ 900 ∧ n ≤ 3 ∧
  ∀ H', (∀ b o, b ≠ a → H b = some o → H' b = some o) → TupsAt H' a (loopUn un f g (n - 1)) → Q .non H'
structure InvA (H : Hp) (a : Addr) (un : List (List Nat)) (f g n : Nat) (i : Nat) (σ : L2.St) (H1 : Hp) : Prop where
  is : ∃ (v4 v5 : Option V), σ = [some (.ref a), some (iv f), some (iv g), some (iv n), v4, v5] ∧ (∀ b o, b ≠ a → H b = some o → H1 b = some o) ∧ TupsAt H1 a (loopUn un f g i)
/-- one tuple of three is appended -/
theorem grow3 {H H1 : Hp} {a tp : Addr} {xs : List V} {l : List (List Nat)} {x y z : Nat} (k : ∀ b o, b ≠ a → H b = some o → H1 b = some o) (hxs : H1 a = some (.lst xs)) (px : Paired (TupAt H1) xs l) (n : H1 tp = none) :
    (upd H1 tp (.tup [iv x, iv y, iv z])) a = some (.lst xs) ∧ ∀ H2, H2 = upd (upd H1 tp (.tup [iv x, iv y, iv z])) a (.lst (xs ++ [.ref tp])) →
      (∀ b o, b ≠ a → H b = some o → H2 b = some o) ∧ H2 a = some (.lst (xs ++ [.ref tp])) ∧ Paired (TupAt H2) (xs ++ [.ref tp]) (l ++ [[x, y, z]]) := by
  have s := same_new (o := .tup [iv x, iv y, iv z]) n
  have ne : tp ≠ a := (ne_of_none hxs n).symm
  refine ⟨s _ _ hxs, fun H2 e => ?_⟩
  subst e
  refine ⟨fun b o hb e => ?_, upd_same, Two.snoc ⟨tp, rfl, ?_⟩ (Two.mono px fun _ _ q => (q.same s).upd (s _ _ hxs))⟩
  · rw [upd_ne hb]; exact s _ _ (k b o hb e)
  · rw [upd_ne ne]; exact upd_same
theorem ok_add {f : Addr} {fd : FuncData} (F : Fun K "add_loop" "add_loop" sAdd f fd) (c : Con mg) : FnOk P w K mg base CX0 1 f fd ["unrolled", "first", "second", "rounds"] spAdd := by
  have S := scAdd
  refine F.ok S (fun vs H Q E h => ?_) (fun cdv A outer s H vs Q E hr h => ?_)
  · obtain ⟨a, un, f, g, n, rfl, _⟩ := h
    rfl
  refine ⟨_, (pss_one (ps_for PassesOwn.never rfl (pi_range2 (by rfl) c.range (pa_cons pe_int (pa_cons (pv 3) pa_nil))) (pg_name (i := 4) S.nd rfl (Or.inl rfl))
      (pss_cons (ps_set (i := 5) S.nd rfl (Or.inl rfl) (pe_op op_sub (pe_callB call_len_seq (by rfl) c.len PySem.boot_len (pa_cons (pv 0) pa_nil)) pe_int))
      (pss_cons (ps_expr (pe_bm PySem.F.plainAttrs_list PySem.F.slot_list_append PySem.F.type_list_append mt_append (pv 0) (pa_cons (pe_tup (pa_cons (pe_con rfl c.SEQUENCE) (pa_cons (pv 2) (pa_cons (pv 5) pa_nil)))) pa_nil)))
      (pss_cons (ps_expr (pe_bm PySem.F.plainAttrs_list PySem.F.slot_list_append PySem.F.type_list_append mt_append (pv 0) (pa_cons (pe_tup (pa_cons (pe_con rfl c.SEQUENCE) (pa_cons (pv 1) (pa_cons (pe_op op_add (pv 5) pe_int) pa_nil)))) pa_nil)))
      (pss_one (ps_expr (pe_bm PySem.F.plainAttrs_list PySem.F.slot_list_append PySem.F.type_list_append mt_append (pv 0) (pa_cons (pe_tup (pa_cons (pe_con rfl c.CHOICE) (pa_cons (pv 1) (pa_cons (pe_op op_add (pv 5) pe_int) pa_nil)))) pa_nil))))))))), ?_⟩
  obtain ⟨a, un, f, g, n, rfl, ht, h1, h9, hn, q⟩ := h
  have en : ((n : Int) - 1).toNat = n - 1 := by omega
  refine ⟨_, rfl, 1, n, rfl, ⟨by decide, by decide, by omega, by omega⟩, ?_⟩
  rw [en]
  refine for_range (lo := 1) (n := n - 1) (InvA H a un f g n) ⟨none, none, rfl, fun _ _ _ e => e, ht⟩ ?_ ?_
  · rintro i σ H1 hi ⟨v4, v5, rfl, kp, xs, hxs, px⟩
    have ll := loopUn_len un f g i
    have lx := Two.len px
    have hlt : xs.length + 3 < sizeLine := small1000 (by omega)
    refine ⟨_, rfl, a, xs, rfl, .inl (SqL.of hxs), _, _, rfl, rfl, ?_⟩
    refine ⟨_, rfl, .inl ⟨rfl, _, SqL.of hxs⟩, _, rfl, _, rfl, by show 3 ≤ sizeLine; decide, fun t1 n1 => ?_⟩
    have e1 : ((xs.length : Int) - 1) = (((loopUn un f g i).length - 1 : Nat) : Int) := by omega
    dsimp only at n1 ⊢
    rw [e1]
    obtain ⟨a1, b1⟩ := grow3 (x := 2) (y := g) (z := (loopUn un f g i).length - 1) kp hxs px n1
    obtain ⟨k2, x2, p2⟩ := b1 _ rfl
    refine ⟨a, xs, _, rfl, rfl, a1, by omega, ?_⟩
    generalize upd (upd H1 t1 (.tup [iv 2, iv g, iv ((loopUn un f g i).length - 1)])) a (.lst (xs ++ [.ref t1])) = H2 at k2 x2 p2
    have e2 : ((((loopUn un f g i).length - 1 : Nat) : Int) + 1) = (((loopUn un f g i).length : Nat) : Int) := by omega
    have e3 : ((((loopUn un f g i).length - 1 : Nat) : Int) + 2) = (((loopUn un f g i).length + 1 : Nat) : Int) := by omega
    refine ⟨_, rfl, .inl ⟨rfl, _, SqL.of x2⟩, _, rfl, _, rfl, _, _, rfl, rfl, by show 3 ≤ sizeLine; decide, fun t2 n2 => ?_⟩
    dsimp only at n2 ⊢
    rw [e2]
    obtain ⟨a2, b2⟩ := grow3 (x := 2) (y := f) (z := (loopUn un f g i).length) k2 x2 p2 n2
    obtain ⟨k3, x3, p3⟩ := b2 _ rfl
    refine ⟨a, _, _, rfl, rfl, a2, by rw [List.length_append, List.length_singleton]; omega, ?_⟩
    generalize upd (upd H2 t2 (.tup [iv 2, iv f, iv (loopUn un f g i).length])) a (.lst ((xs ++ [.ref t1]) ++ [.ref t2])) = H3 at k3 x3 p3
    refine ⟨_, rfl, .inl ⟨rfl, _, SqL.of x3⟩, _, rfl, _, rfl, _, _, rfl, rfl, by show 3 ≤ sizeLine; decide, fun t3 n3 => ?_⟩
    dsimp only at n3 ⊢
    rw [e3]
    obtain ⟨a3, b3⟩ := grow3 (x := 3) (y := f) (z := (loopUn un f g i).length + 1) k3 x3 p3 n3
    obtain ⟨k4, x4, p4⟩ := b3 _ rfl
    refine ⟨a, _, _, rfl, rfl, a3, by rw [List.length_append, List.length_append, List.length_singleton, List.length_singleton]; omega, ?_⟩
    refine ⟨_, _, rfl, k4, _, x4, ?_⟩
    have e4 : loopUn un f g (i + 1) = loopUn un f g i ++ [[2, g, (loopUn un f g i).length - 1]] ++ [[2, f, (loopUn un f g i).length]] ++ [[3, f, (loopUn un f g i).length + 1]] := by
      rw [loopUn]; simp
    rw [e4]
    exact p4
  · rintro σ H1 ⟨v4, v5, rfl, kp, t⟩
    exact q H1 kp t
end
end Pf

set_option Elab.async false
set_option linter.all false
set_option maxRecDepth 100000
set_option maxHeartbeats 2000000
/-! Loops written out: without_loops. -/
namespace Pf
open PySem PySem.Spec PyProof.Rows L2
section
variable {P : Program} {w : World} {K : PySem.W.Frag} {mg : Str → Option Value} {base : Heap}
abbrev sWl : Stmt := top 14
theorem scWl : FnScope ["constructs", "rounds", "unrolled", "places", "construct", "kind", "first", "second"] ["constructs", "rounds"] (defScope sWl) := ⟨rfl, rfl, rfl, by decide +kernel, rfl, by decide +kernel, by decide +kernel⟩
structure Flats (n : Nat) (t : Wf.P) (us : List Wf.P) (un : List (List Nat)) : Prop where
  enc : Enc false us un
  last : us.getLast? = some (unroll n t)
  part : ∀ u ∈ us, Piece n t u
  size : un.length ≤ 66
def spWl : Sp := fun vs H Q _ => ∃ (a : Addr) (t : Wf.P) (n : Nat), vs = [.ref a, iv n] ∧ TupsAt H a (Pf.enc 0 t) ∧ t.size ≤ 11 ∧ n ≤ 3 ∧
  ∀ H' p us un, Same H H' → H p = none → TupsAt H' p un → Flats n t us un → Q (.ref p) H'
structure R2c (P : Program) (w : World) (K : PySem.W.Frag) (mg : Str → Option Value) (base : Heap) : Prop extends R1 P w K mg base where
  add_loop : Ready P w K mg base 1 "add_loop" ["unrolled", "first", "second", "rounds"] spAdd
structure InvU (H : Hp) (a p1 p2 : Addr) (t : Wf.P) (n : Nat) (i : Nat) (σ : L2.St) (H1 : Hp) : Prop where
  is : ∃ us un ps v4 v5 v6 v7, σ = [some (.ref a), some (iv n), some (.ref p1), some (.ref p2), v4, v5, v6, v7] ∧ Same H H1 ∧ TupsAt H1 p1 un ∧ H1 p2 = some (.lst (ps.map iv)) ∧ Outs n t i us un ps
theorem ok_wl {f : Addr} {fd : FuncData} (F : Fun K "without_loops" "without_loops" sWl f fd) (c : Con mg) (R : R2c P w K mg base) : FnOk P w K mg base CX0 2 f fd ["constructs", "rounds"] spWl := by
  have S := scWl
  refine F.ok S (fun vs H Q E h => ?_) (fun cdv A outer s H vs Q E hr h => ?_)
  · obtain ⟨a, t, n, rfl, _⟩ := h
    rfl
  refine ⟨_, (pss_cons (ps_set (i := 2) S.nd rfl (Or.inl rfl) (pe_lst pa_nil))
    (pss_cons (ps_set (i := 3) S.nd rfl (Or.inl rfl) (pe_lst pa_nil))
    (pss_cons (ps_for PassesOwn.never rfl (pi_list (pv 0)) (pg_name (i := 4) S.nd rfl (Or.inl rfl))
      (pss_cons (ps_set (i := 5) S.nd rfl (Or.inl rfl) (pe_ix ix_tup (pv 4) pe_int (fun _ _ => rfl)))
      (C8.pss_cut (ps_if (pt_val (pe_do R.has_parts (hr.mono (by decide)) rfl (pa_cons (pv 5) pa_nil))) (pss_cons (ps_set (i := 6) S.nd rfl (Or.inl rfl) (pe_ix ix_list (pv 3) (pe_ix ix_tup (pv 4) pe_int (fun _ _ => rfl)) (fun _ _ => rfl)))
        (pss_cons (ps_set (i := 7) S.nd rfl (Or.inl rfl) (pe_ix ix_list (pv 3) (pe_ix ix_tup (pv 4) pe_int (fun _ _ => rfl)) (fun _ _ => rfl)))
        (pss_one (ps_if (pt_cmpR op_eq (pv 5) (pe_con rfl c.LOOP) (nomark _)) (pss_one (ps_expr (pe_do R.add_loop (hr.mono (by decide)) rfl (pa_cons (pv 2) (pa_cons (pv 6) (pa_cons (pv 7) (pa_cons (pv 1) pa_nil))))))) (pss_one (ps_expr (pe_bm PySem.F.plainAttrs_list PySem.F.slot_list_append PySem.F.type_list_append mt_append (pv 2) (pa_cons (pe_tup (pa_cons (pv 5) (pa_cons (pv 6) (pa_cons (pv 7) pa_nil)))) pa_nil)))))))) (pss_one (ps_expr (pe_bm PySem.F.plainAttrs_list PySem.F.slot_list_append PySem.F.type_list_append mt_append (pv 2) (pa_cons (pv 4) pa_nil)))))
      (pss_one (ps_expr (pe_bm PySem.F.plainAttrs_list PySem.F.slot_list_append PySem.F.type_list_append mt_append (pv 3) (pa_cons (pe_op op_sub (pe_callB call_len_seq (by rfl) c.len PySem.boot_len (pa_cons (pv 2) pa_nil)) pe_int) pa_nil)))))))
    (pss_one (ps_ret (pv 2)))))), ?_⟩
  obtain ⟨a, t, n, rfl, ⟨xs, hxs, px⟩, hz, hn, q⟩ := h
  have E0 := enc_subs t
  have lx : xs.length = t.size := (Two.len px).trans (enc_len t 0)
  refine ⟨Nat.zero_le _, fun p1 n1 => ⟨Nat.zero_le _, fun p2 n2 => ?_⟩⟩
  have s12 : Same H (upd (upd H p1 (.lst [])) p2 (.lst [])) := (same_new n1).trans (same_new n2)
  have ne : p1 ≠ p2 := ne_of_none upd_same n2
  have n2' : H p2 = none := (same_new n1).free n2
  refine ⟨_, rfl, a, rfl, ⟨xs, SqL.of (s12 _ _ hxs)⟩, for_list (xs := xs) (InvU H a p1 p2 t n) ⟨[], [], [], none, none, none, none, rfl, s12, ⟨[], ?_, .nil⟩, upd_same, outs_zero n t⟩ (fun i σ H' hi z => ?_) ?_ ?_⟩
  · rw [upd_ne ne]; exact upd_same
  · obtain ⟨_, _, _, _, _, _, _, _, s2, _⟩ := z
    exact SqL.of (s2 _ _ hxs)
  · rintro i x σ H1 hx ⟨us, un, ps, v4, v5, v6, v7, rfl, s1, ⟨ys, hy, py⟩, hp, O⟩
    obtain ⟨d, hd, ⟨b, rfl, hb0⟩⟩ := Two.left px hx
    obtain ⟨u, hu, cod⟩ := E0.back hd
    have hb := s1 _ _ hb0
    have hi : i < xs.length := (List.getElem?_eq_some_iff.mp hx).1
    have lu := O.size
    have ly := Two.len py
    have hk0 : ∃ k r, d = k :: r ∧ (kids u = none → k ≤ 1) ∧ (∀ y, kids u = some y → 2 ≤ k) := by
      cases hk : kids u with
      | none =>
        obtain ⟨k, r, e, k1, _⟩ := tok_leaf hk
        exact ⟨k, r, (cod.leaf hk).trans e, fun _ => k1, fun y z => by cases z⟩
      | some kk =>
        obtain ⟨k, pp, qq⟩ := kk
        obtain ⟨x, y, _, _, _, _, _, rfl⟩ := cod.node hk
        exact ⟨k, [x, y], rfl, fun z => (by cases z), fun _ _ => (mk_kids hk).2.1⟩
    obtain ⟨k, r, rfl, kl, kn⟩ := hk0
    refine ⟨_, rfl, b, _, 0, iv k, rfl, rfl, SqT.of hb, atI_nat (j := 0) rfl, ?_⟩
    refine ⟨fun σ H4 => ∃ us' un' v4 v5 v6 v7, σ = [some (.ref a), some (iv n), some (.ref p1), some (.ref p2), v4, v5, v6, v7] ∧ Same H H4 ∧ TupsAt H4 p1 un' ∧ H4 p2 = some (.lst (ps.map iv)) ∧ Outs n t (i + 1) us' un' (ps ++ [un'.length - 1]), ?_, ?_⟩
    rotate_left
    · rintro σ H4 ⟨us', un', v4, v5, v6, v7, rfl, s4, ⟨zs, hzs, pz⟩, g2, O'⟩
      have lz := Two.len pz
      have un1 : 1 ≤ un'.length := by
        have := O'.last _ (List.getLast?_concat ..)
        have := O'.enc.len
        omega
      refine ⟨_, rfl, .inl ⟨rfl, _, SqL.of g2⟩, _, rfl, p1, zs, rfl, .inl (SqL.of hzs), _, _, rfl, rfl, p2, _, _, rfl, rfl, g2, small1000 (by rw [List.length_map, O.len]; omega), ?_⟩
      have e1 : ((zs.length : Int) - 1) = ((un'.length - 1 : Nat) : Int) := by omega
      dsimp only
      rw [e1]
      refine ⟨us', un', ps ++ [un'.length - 1], v4, v5, v6, v7, rfl, same_at s4 n2', ⟨zs, ?_, Two.mono pz fun _ _ q => q.upd g2⟩, ?_, O'⟩
      · rw [upd_ne ne]; exact hzs
      · rw [upd_same, List.map_append]; rfl
    refine ⟨_, rfl, k, rfl, _, rfl, ite2 (fun z => ?_) (fun z => ?_)⟩
    · have z : 2 ≤ k := of_decide_eq_true z
      cases hk : kids u with
      | none => exact absurd (kl hk) (by omega)
      | some kk =>
        obtain ⟨k', pp, qq⟩ := kk
        obtain ⟨x, y, hx', hy', near, ex, ey, e⟩ := cod.node hk
        cases e
        by_cases h5 : k = 5
        · subst h5
          obtain ⟨f, g, e1, e2, e3, us', O'⟩ := O.loop hn hu hk (near rfl) hy' ex ey
          have gx : (ps.map iv)[x]? = some (iv f) := by rw [List.getElem?_map, e1]; rfl
          have gy : (ps.map iv)[y]? = some (iv g) := by rw [List.getElem?_map, e2]; rfl
          refine ⟨_, rfl, _, rfl, b, _, 1, iv x, rfl, rfl, SqT.of hb, atI_nat (j := 1) rfl, p2, _, _, _, rfl, rfl, SqL.of hp, atI_nat gx, ?_⟩
          refine ⟨_, rfl, _, rfl, b, _, 2, iv y, rfl, rfl, SqT.of hb, atI_nat (j := 2) rfl, p2, _, _, _, rfl, rfl, SqL.of hp, atI_nat gy, ?_⟩
          refine ⟨_, rfl, rfl, _, rfl, ite2 (fun _ => ?_) (fun z => absurd (t_eq.mpr rfl) z)⟩
          have hun : 1 ≤ un.length := by have := O.enc.len; omega
          refine ⟨_, rfl, _, rfl, _, rfl, _, rfl, p1, un, f, g, n, rfl, ⟨ys, hy, py⟩, hun, by omega, hn, fun H4 kp T4 => ?_⟩
          refine ⟨_, _, _, _, _, _, rfl, fun b o hbo => ?_, T4, kp _ _ (Ne.symm ne) hp, O'⟩
          exact kp _ _ (ne_of_none hbo n1) (s1 _ _ hbo)
        · obtain ⟨f, g, e1, e2, O'⟩ := O.node hu hk h5 hx' hy' ex ey
          have gx : (ps.map iv)[x]? = some (iv f) := by rw [List.getElem?_map, e1]; rfl
          have gy : (ps.map iv)[y]? = some (iv g) := by rw [List.getElem?_map, e2]; rfl
          refine ⟨_, rfl, _, rfl, b, _, 1, iv x, rfl, rfl, SqT.of hb, atI_nat (j := 1) rfl, p2, _, _, _, rfl, rfl, SqL.of hp, atI_nat gx, ?_⟩
          refine ⟨_, rfl, _, rfl, b, _, 2, iv y, rfl, rfl, SqT.of hb, atI_nat (j := 2) rfl, p2, _, _, _, rfl, rfl, SqL.of hp, atI_nat gy, ?_⟩
          refine ⟨_, rfl, rfl, _, rfl, ite2 (fun z => absurd (t_eq.mp z) (by omega)) (fun _ => ?_)⟩
          refine ⟨_, rfl, .inl ⟨rfl, _, SqL.of hy⟩, _, rfl, _, rfl, _, rfl, by show 3 ≤ sizeLine; decide, fun tp ntp => ?_⟩
          obtain ⟨a1, b1⟩ := grow3 (x := k) (y := f) (z := g) (fun b o (_ : b ≠ p1) e => e) hy py ntp
          obtain ⟨k2, x2, p2'⟩ := b1 _ rfl
          refine ⟨p1, ys, _, rfl, rfl, a1, small1000 (by omega), ?_⟩
          refine ⟨_, _, _, _, _, _, rfl, fun b o hbo => ?_, ⟨_, x2, p2'⟩, k2 _ _ (Ne.symm ne) hp, O'⟩
          exact k2 _ _ (ne_of_none hbo n1) (s1 _ _ hbo)
    · have z : ¬ 2 ≤ k := fun y => z (decide_eq_true y)
      cases hk : kids u with
      | some kk => exact absurd (kn _ hk) z
      | none =>
        have O' := O.leaf hu hk
        rw [← cod.leaf hk] at O'
        refine ⟨_, rfl, .inl ⟨rfl, _, SqL.of hy⟩, _, rfl, p1, ys, _, rfl, rfl, hy, small1000 (by omega), ?_⟩
        refine ⟨_, _, _, _, _, _, rfl, same_at s1 n1, ⟨_, upd_same, Two.snoc ⟨b, rfl, ?_⟩ (Two.mono py fun _ _ q => q.upd hy)⟩, ?_, O'⟩
        · rw [upd_ne (Ne.symm ne)]; exact hp
        · rw [upd_ne (ne_of hb hy (by intro z; cases z))]; exact hb
  · rintro σ H1 ⟨us, un, ps, v4, v5, v6, v7, rfl, s1, T1, hp, O⟩
    rw [lx] at O
    exact ⟨_, rfl, q H1 p1 us un s1 n1 T1 ⟨O.enc, O.done, O.part, by have := O.size; omega⟩⟩
end
end Pf

set_option Elab.async false
set_option linter.all false
set_option maxRecDepth 100000
set_option maxHeartbeats 2000000
/-! Fronts: best_entries. -/
namespace Pf
open PySem PySem.Spec PyProof.Rows L2
open Wf06 (Point)
/-- an entry of a front: a pair, and the numbers of a run -/
def Ent (H : Hp) (y : V) (x : Point) : Prop := ∃ e p r, y = .ref e ∧ H e = some (.tup [.ref p, .ref r]) ∧ H p = some (pr x.t x.c) ∧ H r = some (.lst (x.r.row.map iv))
theorem Ent.same {H H' : Hp} {y : V} {x : Point} (s : Same H H') (h : Ent H y x) : Ent H' y x := by
  obtain ⟨e, p, r, rfl, h1, h2, h3⟩ := h
  exact ⟨e, p, r, rfl, s _ _ h1, s _ _ h2, s _ _ h3⟩
def FrontAt (H : Hp) (a : Addr) (l : List Point) : Prop := ∃ xs, H a = some (.lst xs) ∧ Paired (Ent H) xs l
theorem FrontAt.same {H H' : Hp} {a : Addr} {l : List Point} (s : Same H H') (h : FrontAt H a l) : FrontAt H' a l := by
  obtain ⟨xs, e, q⟩ := h
  exact ⟨xs, s _ _ e, Two.mono q fun _ _ => Ent.same s⟩
/-- the pair of an entry, read off the heap -/
def keyOf (H : Hp) : V → Int × Int
  | .ref e => match H e with
    | some (.tup (.ref p :: _)) => match H p with
      | some (.tup [.int t, .int c]) => (t, c)
      | _ => (0, 0)
    | _ => (0, 0)
  | _ => (0, 0)
theorem keyOf_ent {H : Hp} {y : V} {x : Point} (h : Ent H y x) : keyOf H y = ((x.t : Int), (x.c : Int)) := by
  obtain ⟨e, p, r, rfl, h1, h2, h3⟩ := h
  unfold keyOf
  simp only [h1, h2]
theorem two_zip {α β : Type} {R : α → β → Prop} : ∀ {xs : List α} {bs : List β}, Paired R xs bs → ∃ zs : List (α × β), xs = zs.map Prod.fst ∧ bs = zs.map Prod.snd ∧ ∀ z ∈ zs, R z.1 z.2
  | _, _, .nil => ⟨[], rfl, rfl, fun z h => by simp at h⟩
  | _, _, .cons (a := a) (b := b) h r => by
    obtain ⟨zs, rfl, rfl, f⟩ := two_zip r
    exact ⟨(a, b) :: zs, rfl, rfl, fun z m => by
      rcases List.mem_cons.mp m with rfl | m
      · exact h
      · exact f z m⟩
theorem lex_lexI (x y : Point) : lexI ((x.t : Int), (x.c : Int)) ((y.t : Int), (y.c : Int)) = lex x y := by
  unfold lexI lex
  rw [Bool.eq_iff_iff, decide_eq_true_eq, decide_eq_true_eq]
  dsimp only
  omega
theorem two_sort {H : Hp} {xs : List V} {l : List Point} (h : Paired (Ent H) xs l) : Paired (Ent H) (xs.mergeSort fun x y => lexI (keyOf H x) (keyOf H y)) (l.mergeSort lex) := by
  obtain ⟨zs, rfl, rfl, f⟩ := two_zip h
  have e1 : (zs.mergeSort fun z w => lex z.2 w.2).map Prod.fst = (zs.map Prod.fst).mergeSort fun x y => lexI (keyOf H x) (keyOf H y) :=
    List.map_mergeSort fun a ha b hb => by rw [keyOf_ent (f a ha), keyOf_ent (f b hb), lex_lexI]
  have e2 : (zs.mergeSort fun z w => lex z.2 w.2).map Prod.snd = (zs.map Prod.snd).mergeSort lex := List.map_mergeSort fun a _ b _ => rfl
  rw [← e1, ← e2]
  exact Two.map fun z m => f z (List.mem_mergeSort.mp m)
section
variable {P : Program} {w : World} {K : PySem.W.Frag} {mg : Str → Option Value} {base : Heap}
abbrev sBe : Stmt := top 17
theorem scBe : FnScope ["entries", "best", "entry"] ["entries"] (defScope sBe) := ⟨rfl, rfl, rfl, by decide +kernel, rfl, by decide +kernel, by decide +kernel⟩
/-- what N speaks of stands already -/
def Old (N : Addr → Prop) (H : Hp) : Prop := ∀ b, N b → ∃ o, H b = some o
theorem Old.new {N : Addr → Prop} {H : Hp} {p : Addr} (h : Old N H) (n : H p = none) : ¬ N p := fun z => by
  obtain ⟨o, e⟩ := h p z
  rw [n] at e; cases e
theorem Old.same {N : Addr → Prop} {H H' : Hp} (h : Old N H) (s : Same H H') : Old N H' := fun b z => by
  obtain ⟨o, e⟩ := h b z
  exact ⟨o, s _ _ e⟩
def spBe : Sp := fun vs H Q _ => ∃ (N : Addr → Prop) (a : Addr) (l : List Point), vs = [.ref a] ∧ Old N H ∧ FrontAt (cut N H) a l ∧ l.length ≤ 1048576 ∧
  ∀ H' p, Same H H' → H p = none → FrontAt (cut N H') p (Wf06.best l) → Q (.ref p) H'
structure Keyed (K : PySem.W.Frag) (mg : Str → Option Value) : Prop where
  is : ∃ f, FirstOf K f ∧ mg "pair_of" = some (.ref f)
structure InvB (N : Addr → Prop) (H : Hp) (a p q : Addr) (xs : List V) (l : List Point) (i : Nat) (σ : L2.St) (H1 : Hp) : Prop where
  is : ∃ v2 ys, σ = [some (.ref a), some (.ref p), v2] ∧ Same H H1 ∧ H1 q = some (.lst xs) ∧ H1 p = some (.lst ys) ∧ Paired (Ent (cut N H)) ys ((l.take i).foldl keep [])
theorem keep_len (m : List Point) (x : Point) : (keep m x).length ≤ m.length + 1 := by
  unfold keep; split <;> simp
theorem fold_len : ∀ (l m : List Point), (l.foldl keep m).length ≤ m.length + l.length
  | [], m => by simp
  | x :: l, m => by
    have := fold_len l (keep m x)
    have := keep_len m x
    simp only [List.foldl_cons, List.length_cons]; omega
theorem ok_be {f : Addr} {fd : FuncData} (F : Fun K "best_entries" "best_entries" sBe f fd) (c : Con mg) (Y : Keyed K mg) : FnOk P w K mg base CX0 4 f fd ["entries"] spBe := by
  have S := scBe
  obtain ⟨kf, KF, kg⟩ := Y.is
  refine F.ok S (fun vs H Q E h => ?_) (fun cdv A outer s H vs Q E hr h => ?_)
  · obtain ⟨N, a, l, rfl, _⟩ := h
    rfl
  refine ⟨_, (pss_cons (ps_set (i := 1) S.nd rfl (Or.inl rfl) (pe_lst pa_nil))
    (pss_cons (ps_for PassesOwn.never rfl (pi_list (pe_callBK (cr_keySort KF hr) (by rfl) c.sorted (by decide +kernel) (pa_cons (pv 0) pa_nil) (pk_cons (pe_glob (v := .ref kf) rfl kg rfl) pk_nil))) (pg_name (i := 2) S.nd rfl (Or.inl rfl))
      (pss_one (ps_if (PW.pt (pw_or (pt_cmpR op_eq (pe_callB call_len_seq (by rfl) c.len PySem.boot_len (pa_cons (pv 1) pa_nil)) pe_int (nomark _)) (pw_or1 (pt_cmpR op_lt (pe_ix ix_tup (pe_ix ix_tup (pv 2) pe_int (fun _ _ => rfl)) pe_int (fun _ _ => rfl)) (pe_ix ix_tup (pe_ix ix_tup (pe_ix ix_list (pv 1) (pe_un un_neg pe_int) (fun _ _ => rfl)) pe_int (fun _ _ => rfl)) pe_int (fun _ _ => rfl)) (nomark _))))) (pss_one (ps_expr (pe_bm PySem.F.plainAttrs_list PySem.F.slot_list_append PySem.F.type_list_append mt_append (pv 1) (pa_cons (pv 2) pa_nil)))) pss_nil)))
    (pss_one (ps_ret (pv 1))))), ?_⟩
  obtain ⟨N, a, l, rfl, old, ⟨xs, hxs, px⟩, hl, q⟩ := h
  have hxs0 := (cut_some hxs).2
  refine ⟨Nat.zero_le _, fun p np => ?_⟩
  have s1 := same_new (o := .lst []) np
  have px1 : Paired (Ent (upd H p (.lst []))) xs l := Two.mono px fun _ _ z => z.same ((cut_same N H).trans s1)
  refine ⟨_, rfl, a, xs, keyOf (upd H p (.lst [])), rfl, rfl, SqL.of (s1 _ _ hxs0), fun y hy => ?_, fun r nr => ?_⟩
  · obtain ⟨i, hi⟩ := List.mem_iff_getElem?.mp hy
    obtain ⟨x, _, en⟩ := Two.left px1 hi
    rw [keyOf_ent en]
    obtain ⟨e, p1, r1, rfl, h1, h2, h3⟩ := en
    exact ⟨e, p1, _, rfl, h1, h2⟩
  · have ps := two_sort px1
    have pc : Paired (Ent (cut N H)) (xs.mergeSort fun x y => lexI (keyOf (upd H p (.lst [])) x) (keyOf (upd H p (.lst [])) y)) (l.mergeSort lex) := by
      have e : ∀ x ∈ xs, keyOf (upd H p (.lst [])) x = keyOf (cut N H) x := fun x hx => by
        obtain ⟨i, hi⟩ := List.mem_iff_getElem?.mp hx
        obtain ⟨z, hz, en⟩ := Two.left px1 hi
        obtain ⟨z', hz', en'⟩ := Two.left px hi
        rw [hz] at hz'
        cases hz'
        rw [keyOf_ent en, keyOf_ent en']
      have e2 : (xs.mergeSort fun x y => lexI (keyOf (upd H p (.lst [])) x) (keyOf (upd H p (.lst [])) y)) = xs.mergeSort fun x y => lexI (keyOf (cut N H) x) (keyOf (cut N H) y) := by
        have := List.map_mergeSort (r := fun x y => lexI (keyOf (upd H p (.lst [])) x) (keyOf (upd H p (.lst [])) y)) (s := fun x y => lexI (keyOf (cut N H) x) (keyOf (cut N H) y)) (f := id) (l := xs) fun a ha b hb => by rw [e a ha, e b hb]; rfl
        simpa using this
      rw [e2]
      exact two_sort px
    generalize (xs.mergeSort fun x y => lexI (keyOf (upd H p (.lst [])) x) (keyOf (upd H p (.lst [])) y)) = xs' at pc
    have len := Two.len pc
    have ll : (l.mergeSort lex).length = l.length := List.length_mergeSort l
    have ne : p ≠ r := ne_of_none upd_same nr
    have hp0 : (upd (upd H p (.lst [])) r (.lst xs')) p = some (.lst []) := by rw [upd_ne ne]; exact upd_same
    have hr0 : H r = none := s1.free nr
    have big : (1048576 : Nat) + 1 < sizeLine := by decide
    refine ⟨r, rfl, ⟨xs', SqL.of upd_same⟩, for_list (xs := xs') (InvB N H a p r xs' (l.mergeSort lex)) ⟨none, [], rfl, s1.trans (same_new nr), upd_same, hp0, .nil⟩ (fun i σ H' hi z => ?_) ?_ ?_⟩
    · obtain ⟨_, _, _, _, z, _⟩ := z
      exact SqL.of z
    · rintro i x σ H1 hx ⟨v2, ys, rfl, s2, hr1, hp1, py⟩
      obtain ⟨pt, hpt, en⟩ := Two.left pc hx
      have en1 : Ent H1 x pt := en.same ((cut_same N H).trans s2)
      obtain ⟨e, p1, r1, rfl, h1, h2, h3⟩ := id en1
      have ly := Two.len py
      have fl := fold_len ((l.mergeSort lex).take i) []
      rw [List.length_take] at fl
      have fold : ((l.mergeSort lex).take (i + 1)).foldl keep [] = keep (((l.mergeSort lex).take i).foldl keep []) pt := by
        rw [take_next hpt, List.foldl_append]; rfl
      generalize ((l.mergeSort lex).take i).foldl keep [] = m at fold py ly fl
      have lm : ys.length < sizeLine := by simp at fl; omega
      have yes : keeps m pt = true → InvB N H a p r xs' (l.mergeSort lex) (i + 1) [some (.ref a), some (.ref p), some (.ref e)] (upd H1 p (.lst (ys ++ [.ref e]))) := fun z => by
        refine ⟨_, _, rfl, same_at s2 np, by rw [upd_ne (Ne.symm ne)]; exact hr1, upd_same, ?_⟩
        rw [fold, keep, if_pos z]
        exact Two.snoc en py
      have no : keeps m pt = false → InvB N H a p r xs' (l.mergeSort lex) (i + 1) [some (.ref a), some (.ref p), some (.ref e)] H1 := fun z => by
        refine ⟨_, _, rfl, s2, hr1, hp1, ?_⟩
        rw [fold, keep, if_neg (by rw [z]; exact Bool.false_ne_true)]
        exact py
      refine ⟨_, rfl, p, ys, rfl, .inl (SqL.of hp1), rfl, _, rfl, ite2 (fun h => ?_) (fun h => ?_)⟩
      · have h : (ys.length : Int) = 0 := t_eq.mp h
        have hm : m = [] := List.eq_nil_of_length_eq_zero (by omega)
        refine ⟨_, rfl, .inl ⟨rfl, _, SqL.of hp1⟩, _, rfl, p, ys, _, rfl, rfl, hp1, lm, yes (by rw [hm]; rfl)⟩
      · have h : ¬ (ys.length : Int) = 0 := fun z => h (t_eq.mpr z)
        obtain ⟨ys0, yl, rfl⟩ : ∃ ys0 yl, ys = ys0 ++ [yl] := by
          rcases List.eq_nil_or_concat ys with rfl | ⟨a, b, e⟩
          · simp at h
          · exact ⟨a, b, by simpa using e⟩
        obtain ⟨z, hz, enz⟩ := Two.left py (get_end ys0 yl)
        have hlast : m.getLast? = some z := by
          rw [List.getLast?_eq_getElem?, ← ly, ← hz]; simp
        have enz1 : Ent H1 yl z := enz.same ((cut_same N H).trans s2)
        obtain ⟨e', p2, r2, rfl, g1, g2, g3⟩ := enz1
        have kk : keeps m pt = decide (pt.c < z.c) := by unfold keeps; rw [hlast]
        refine ⟨_, rfl, e, _, 0, .ref p1, rfl, rfl, SqT.of h1, atI_nat (j := 0) rfl, p1, _, 1, iv pt.c, rfl, rfl, SqT.of h2, atI_nat (j := 1) rfl, _, rfl, 1, rfl, p, _, -1, .ref e', rfl, rfl, SqL.of hp1, atI_last _ _, e', _, 0, .ref p2, rfl, rfl, SqT.of g1, atI_nat (j := 0) rfl, p2, _, 1, iv z.c, rfl, rfl, SqT.of g2, atI_nat (j := 1) rfl, _, _, rfl, rfl, _, rfl, ite2 (fun h => ?_) (fun h => ?_)⟩
        · have h : (pt.c : Int) < (z.c : Int) := of_decide_eq_true h
          exact ⟨_, rfl, .inl ⟨rfl, _, SqL.of hp1⟩, _, rfl, p, _, _, rfl, rfl, hp1, lm, yes (by rw [kk]; exact decide_eq_true (by omega))⟩
        · have h : ¬ (pt.c : Int) < (z.c : Int) := fun z => h (decide_eq_true z)
          exact no (by rw [kk]; exact decide_eq_false (by omega))
    · rintro σ H1 ⟨v2, ys, rfl, s2, hr1, hp1, py⟩
      rw [List.take_of_length_le (by omega)] at py
      refine ⟨_, rfl, q H1 p s2 np ⟨ys, ?_, ?_⟩⟩
      · rw [cut_out (old.new np)]; exact hp1
      · rw [← cbest_eq]
        exact Two.mono py fun _ _ z => z.same (same_cut s2)
end
end Pf

set_option Elab.async false
set_option linter.all false
set_option maxRecDepth 100000
set_option maxHeartbeats 2000000
/-! Fronts: joint_entries, front_of_parts. -/
namespace Pf
open PySem PySem.Spec PyProof.Rows L2
open Wf06 (Point)
def jp (k : Nat) (x y : Point) : Point := ⟨jt k x.t y.t, x.c + y.c, Pf.mk k x.r y.r⟩
def joint (k : Nat) (f g : List Point) : List Point := f.flatMap fun x => g.map fun y => jp k x y
theorem row_mk {k : Nat} (h : k = 2 ∨ k = 4) (x y : Wf.P) : (Pf.mk k x y).row = k :: (x.row ++ y.row) := by
  rcases h with rfl | rfl <;> rfl
def Narrow (l : List Point) : Prop := l.length ≤ 1024 ∧ ∀ x ∈ l, x.r.row.length ≤ 1000
abbrev with1 (N : Addr → Prop) (p : Addr) : Addr → Prop := fun b => N b ∨ b = p
theorem cut_with {N : Addr → Prop} {H : Hp} {p : Addr} : Same (cut (with1 N p) H) (cut N H) := fun b o h => by
  obtain ⟨n, e⟩ := cut_some h
  rw [cut_out (fun z => n (.inl z))]; exact e
theorem Old.with {N : Addr → Prop} {H : Hp} {p : Addr} {o : HO} (h : Old N H) (e : H p = some o) : Old (with1 N p) H := fun b z => by
  rcases z with z | z
  · exact h b z
  · exact ⟨o, by rw [z]; exact e⟩
section
variable {P : Program} {w : World} {K : PySem.W.Frag} {mg : Str → Option Value} {base : Heap}
abbrev sJe : Stmt := top 19
theorem scJe : FnScope ["kind", "first", "second", "entries", "one", "other", "pair"] ["kind", "first", "second"] (defScope sJe) := ⟨rfl, rfl, rfl, by decide +kernel, rfl, by decide +kernel, by decide +kernel⟩
def spJe : Sp := fun vs H Q _ => ∃ (N : Addr → Prop) (k : Nat) (a b : Addr) (f g : List Point), vs = [iv k, .ref a, .ref b] ∧ (k = 2 ∨ k = 4) ∧ Old N H ∧ FrontAt (cut N H) a f ∧ FrontAt (cut N H) b g ∧ Narrow f ∧ Narrow g ∧
  ∀ H' p, Same H H' → H p = none → FrontAt (cut N H') p (joint k f g) → Q (.ref p) H'
structure InvJ (N : Addr → Prop) (H : Hp) (k : Nat) (a b p : Addr) (l : List Point) (σ : L2.St) (H1 : Hp) : Prop where
  is : ∃ v4 v5 v6 zs, σ = [some (iv k), some (.ref a), some (.ref b), some (.ref p), v4, v5, v6] ∧ Same H H1 ∧ H1 p = some (.lst zs) ∧ Paired (Ent (cut (with1 N p) H1)) zs l
structure InvJ2 (N : Addr → Prop) (H : Hp) (k : Nat) (a b p e1 : Addr) (l : List Point) (σ : L2.St) (H1 : Hp) : Prop where
  is : ∃ v5 v6 zs, σ = [some (iv k), some (.ref a), some (.ref b), some (.ref p), some (.ref e1), v5, v6] ∧ Same H H1 ∧ H1 p = some (.lst zs) ∧ Paired (Ent (cut (with1 N p) H1)) zs l
theorem joint_len (k : Nat) (f g : List Point) : (joint k f g).length = f.length * g.length := pairs_len g (fun x y => jp k x y) f
theorem ok_je {f : Addr} {fd : FuncData} (F : Fun K "joint_entries" "joint_entries" sJe f fd) (c : Con mg) (R : R1 P w K mg base) : FnOk P w K mg base CX0 2 f fd ["kind", "first", "second"] spJe := by
  have S := scJe
  refine F.ok S (fun vs H Q E h => ?_) (fun cdv A outer s H vs Q E hr h => ?_)
  · obtain ⟨N, k, a, b, f, g, rfl, _⟩ := h
    rfl
  refine ⟨_, (pss_cons (ps_set (i := 3) S.nd rfl (Or.inl rfl) (pe_lst pa_nil))
    (pss_cons (ps_for PassesOwn.never rfl (pi_list (pv 1)) (pg_name (i := 4) S.nd rfl (Or.inl rfl))
      (pss_one (ps_for PassesOwn.never rfl (pi_list (pv 2)) (pg_name (i := 5) S.nd rfl (Or.inl rfl))
        (pss_cons (ps_set (i := 6) S.nd rfl (Or.inl rfl) (pe_do R.joint_pair (hr.mono (by decide)) rfl (pa_cons (pv 0) (pa_cons (pe_ix ix_tup (pv 4) pe_int (fun _ _ => rfl)) (pa_cons (pe_ix ix_tup (pv 5) pe_int (fun _ _ => rfl)) pa_nil)))))
        (pss_one (ps_expr (pe_bm PySem.F.plainAttrs_list PySem.F.slot_list_append PySem.F.type_list_append mt_append (pv 3) (pa_cons (pe_tup (pa_cons (pv 6) (pa_cons (pe_op op_cat (pe_op op_cat (pe_lst (pa_cons (pv 0) pa_nil)) (pe_ix ix_tup (pv 4) pe_int (fun _ _ => rfl))) (pe_ix ix_tup (pv 5) pe_int (fun _ _ => rfl))) pa_nil))) pa_nil))))))))
    (pss_one (ps_ret (pv 3))))), ?_⟩
  obtain ⟨N, k, a, b, f, g, rfl, hk, old, ⟨xs, hxs, px⟩, ⟨ys, hys, py⟩, nf, ng, q⟩ := h
  have hxs0 := (cut_some hxs).2
  have hys0 := (cut_some hys).2
  have lx := Two.len px
  have ly := Two.len py
  refine ⟨Nat.zero_le _, fun p np => ?_⟩
  have s0 := same_new (o := .lst []) np
  refine ⟨_, rfl, a, rfl, ⟨xs, SqL.of (s0 _ _ hxs0)⟩, for_list (xs := xs) (fun i => InvJ N H k a b p (joint k (f.take i) g)) ⟨none, none, none, [], rfl, s0, upd_same, .nil⟩ (fun i σ H' hi z => ?_) ?_ ?_⟩
  · obtain ⟨_, _, _, _, _, z, _⟩ := z
    exact SqL.of (z _ _ hxs0)
  · rintro i x σ H1 hx ⟨v4, v5, v6, zs, rfl, s1, hp, pz⟩
    obtain ⟨x1, hx1, enx⟩ := Two.left px hx
    have hi : i < f.length := (List.getElem?_eq_some_iff.mp hx1).1
    have enx0 := enx.same (cut_same N H)
    obtain ⟨e1, p1, r1, rfl, a1, a2, a3⟩ := enx0
    have jn : joint k (f.take (i + 1)) g = joint k (f.take i) g ++ g.map fun y => jp k x1 y := by
      rw [take_next hx1]; simp [joint]
    refine ⟨_, rfl, b, rfl, ⟨ys, SqL.of (s1 _ _ hys0)⟩, for_list (xs := ys) (fun j => InvJ2 N H k a b p e1 (joint k (f.take i) g ++ (g.take j).map fun y => jp k x1 y)) ⟨v5, v6, zs, rfl, s1, hp, by simpa using pz⟩ (fun j σ H' hj z => ?_) ?_ ?_⟩
    · obtain ⟨_, _, _, _, z, _⟩ := z
      exact SqL.of (z _ _ hys0)
    · rintro j y σ H2 hy ⟨v5, v6, zs, rfl, s2, hp, pz⟩
      obtain ⟨y1, hy1, eny⟩ := Two.left py hy
      have hj : j < g.length := (List.getElem?_eq_some_iff.mp hy1).1
      obtain ⟨e2, p2, r2, rfl, b1, b2, b3⟩ := eny.same (cut_same N H)
      have old2 : Old (with1 N p) H2 := (old.same s2).with hp
      have wx := nf.2 x1 (List.mem_of_getElem? hx1)
      have wy := ng.2 y1 (List.mem_of_getElem? hy1)
      refine ⟨_, rfl, _, rfl, e1, _, 0, .ref p1, rfl, rfl, SqT.of (s2 _ _ a1), atI_nat (j := 0) rfl, _, rfl, e2, _, 0, .ref p2, rfl, rfl, SqT.of (s2 _ _ b1), atI_nat (j := 0) rfl, ?_⟩
      refine ⟨k, p1, p2, x1.t, x1.c, y1.t, y1.c, rfl, s2 _ _ a2, s2 _ _ b2, fun tp ntp => ?_⟩
      have s3 := same_new (o := pr (jt k x1.t y1.t) (x1.c + y1.c)) ntp
      have s23 := s2.trans s3
      refine ⟨_, rfl, .inl ⟨rfl, _, SqL.of (s3 _ _ hp)⟩, _, rfl, _, rfl, by show 1 ≤ sizeLine; decide, fun l1 nl1 => ?_⟩
      have s4 := same_new (o := .lst [iv k]) nl1
      have c1 : [iv k].length + (x1.r.row.map iv).length ≤ sizeLine := by
        have : (2100 : Nat) < sizeLine := by decide
        rw [List.length_map, List.length_singleton]; omega
      have c2 : ([iv k] ++ x1.r.row.map iv).length + (y1.r.row.map iv).length ≤ sizeLine := by
        have : (2100 : Nat) < sizeLine := by decide
        rw [List.length_append, List.length_map, List.length_map, List.length_singleton]; omega
      refine ⟨_, rfl, e1, _, 1, .ref r1, rfl, rfl, SqT.of (s4 _ _ (s23 _ _ a1)), atI_nat (j := 1) rfl, l1, r1, _, _, rfl, rfl, upd_same, s4 _ _ (s23 _ _ a3), c1, fun l2 nl2 => ?_⟩
      have s5 := same_new (o := .lst ([iv k] ++ x1.r.row.map iv)) nl2
      have s25 := (s23.trans s4).trans s5
      refine ⟨_, rfl, e2, _, 1, .ref r2, rfl, rfl, SqT.of (s25 _ _ b1), atI_nat (j := 1) rfl, l2, r2, _, _, rfl, rfl, upd_same, s25 _ _ b3, c2, fun l3 nl3 => ?_⟩
      have s6 := same_new (o := .lst ([iv k] ++ x1.r.row.map iv ++ y1.r.row.map iv)) nl3
      refine ⟨by show 2 ≤ sizeLine; decide, fun t4 nt4 => ?_⟩
      have s7 := same_new (o := .tup [.ref tp, .ref l3]) nt4
      have s37 := ((s4.trans s5).trans s6).trans s7
      have s27 := s3.trans s37
      have lz : zs.length < sizeLine := by
        have e := Two.len pz
        rw [List.length_append, joint_len, List.length_map, List.length_take, List.length_take] at e
        have m1 : i * g.length ≤ 1024 * 1024 := Nat.mul_le_mul (by have := nf.1; omega) ng.1
        have m2 := ng.1
        have m3 : (1024 * 1024 + 1024 : Nat) < sizeLine := by decide
        rw [Nat.min_eq_left (by omega)] at e
        omega
      refine ⟨p, zs, _, rfl, rfl, s27 _ _ hp, lz, ?_⟩
      have np2 : ∀ b, H2 b = none → ¬ with1 N p b := fun b n => old2.new n
      have ft : (upd (upd (upd (upd (upd H2 tp (pr (jt k x1.t y1.t) (x1.c + y1.c))) l1 (.lst [iv k])) l2 (.lst ([iv k] ++ x1.r.row.map iv))) l3 (.lst ([iv k] ++ x1.r.row.map iv ++ y1.r.row.map iv))) t4 (.tup [.ref tp, .ref l3])) tp = some (pr (jt k x1.t y1.t) (x1.c + y1.c)) := s37 _ _ upd_same
      have fl : (upd (upd (upd (upd (upd H2 tp (pr (jt k x1.t y1.t) (x1.c + y1.c))) l1 (.lst [iv k])) l2 (.lst ([iv k] ++ x1.r.row.map iv))) l3 (.lst ([iv k] ++ x1.r.row.map iv ++ y1.r.row.map iv))) t4 (.tup [.ref tp, .ref l3])) l3 = some (.lst ([iv k] ++ x1.r.row.map iv ++ y1.r.row.map iv)) := s7 _ _ upd_same
      have f4 : (upd (upd (upd (upd (upd H2 tp (pr (jt k x1.t y1.t) (x1.c + y1.c))) l1 (.lst [iv k])) l2 (.lst ([iv k] ++ x1.r.row.map iv))) l3 (.lst ([iv k] ++ x1.r.row.map iv ++ y1.r.row.map iv))) t4 (.tup [.ref tp, .ref l3])) t4 = some (.tup [.ref tp, .ref l3]) := upd_same
      have nl3' : H2 l3 = none := (((s3.trans s4).trans s5)).free nl3
      have nt4' : H2 t4 = none := ((((s3.trans s4).trans s5)).trans s6).free nt4
      generalize (upd (upd (upd (upd (upd H2 tp (pr (jt k x1.t y1.t) (x1.c + y1.c))) l1 (.lst [iv k])) l2 (.lst ([iv k] ++ x1.r.row.map iv))) l3 (.lst ([iv k] ++ x1.r.row.map iv ++ y1.r.row.map iv))) t4 (.tup [.ref tp, .ref l3])) = H7 at s27 ft fl f4
      refine ⟨_, _, _, rfl, same_at (s2.trans s27) np, upd_same, ?_⟩
      rw [cut_upd (N := with1 N p) (.inr rfl), take_next hy1, List.map_append, ← List.append_assoc]
      refine Two.snoc ?_ (Two.mono pz fun _ _ z => z.same (same_cut s27))
      refine ⟨t4, tp, l3, rfl, ?_, ?_, ?_⟩
      · rw [cut_out (np2 t4 nt4')]; exact f4
      · rw [cut_out (np2 tp ntp)]; exact ft
      · rw [cut_out (np2 l3 nl3'), fl]
        show _ = some (HO.lst ((Pf.mk k x1.r y1.r).row.map iv))
        rw [row_mk hk]; simp
    · rintro σ H2 ⟨v5, v6, zs, rfl, s2, hp, pz⟩
      rw [ly, List.take_of_length_le (Nat.le_refl _), ← jn] at pz
      exact ⟨_, _, _, zs, rfl, s2, hp, pz⟩
  · rintro σ H1 ⟨v4, v5, v6, zs, rfl, s1, hp, pz⟩
    rw [lx, List.take_of_length_le (Nat.le_refl _)] at pz
    refine ⟨_, rfl, q H1 p s1 np ⟨zs, ?_, Two.mono pz fun _ _ z => z.same cut_with⟩⟩
    rw [cut_out (old.new np)]; exact hp
end
end Pf

set_option Elab.async false
set_option linter.all false
set_option maxRecDepth 100000
set_option maxHeartbeats 2000000
/-! Fronts: front_of_parts, pair_of_leaf, front_of. -/
namespace Pf
open PySem PySem.Spec PyProof.Rows L2
open Wf06 (Point Book)
def fp (k : Nat) (f g : List Point) : List Point := if k = 3 then Wf06.best (f ++ g) else Wf06.best (joint k f g)
theorem front_fp (b : Book) {k : Nat} (h : k = 2 ∨ k = 3 ∨ k = 4) (p q : Wf.P) : b.front (Pf.mk k p q) = fp k (b.front p) (b.front q) := by
  rcases h with rfl | rfl | rfl <;> rfl
theorem front_leaf (b : Book) {u : Wf.P} (h : kids u = none) : b.front u = [⟨b.latest u, b.dearest u, u⟩] := by
  cases u <;> simp [kids] at h <;> rfl
theorem row_leaf {u : Wf.P} (h : kids u = none) : u.row = tok u := by
  cases u <;> simp [kids] at h <;> rfl
section
variable {P : Program} {w : World} {K : PySem.W.Frag} {mg : Str → Option Value} {base : Heap}
/-! ### front_of_parts -/
abbrev sFp : Stmt := top 20
theorem scFp : FnScope ["kind", "first", "second"] ["kind", "first", "second"] (defScope sFp) := ⟨rfl, rfl, rfl, by decide +kernel, rfl, by decide +kernel, by decide +kernel⟩
def spFp : Sp := fun vs H Q _ => ∃ (N : Addr → Prop) (k : Nat) (a b : Addr) (f g : List Point), vs = [iv k, .ref a, .ref b] ∧ (k = 2 ∨ k = 3 ∨ k = 4) ∧ Old N H ∧ FrontAt (cut N H) a f ∧ FrontAt (cut N H) b g ∧ Narrow f ∧ Narrow g ∧
  ∀ H' p, Same H H' → H p = none → FrontAt (cut N H') p (fp k f g) → Q (.ref p) H'
structure R5 (P : Program) (w : World) (K : PySem.W.Frag) (mg : Str → Option Value) (base : Heap) : Prop where
  best_entries : Ready P w K mg base 4 "best_entries" ["entries"] spBe
  joint_entries : Ready P w K mg base 2 "joint_entries" ["kind", "first", "second"] spJe
theorem ok_fp {f : Addr} {fd : FuncData} (F : Fun K "front_of_parts" "front_of_parts" sFp f fd) (c : Con mg) (R : R5 P w K mg base) : FnOk P w K mg base CX0 5 f fd ["kind", "first", "second"] spFp := by
  have S := scFp
  refine F.ok S (fun vs H Q E h => ?_) (fun cdv A outer s H vs Q E hr h => ?_)
  · obtain ⟨N, k, a, b, f, g, rfl, _⟩ := h
    rfl
  refine ⟨_, (pss_cons (ps_if (pt_cmpR op_eq (pv 0) (pe_con rfl c.CHOICE) (nomark _)) (pss_one (ps_ret (pe_do R.best_entries (hr.mono (by decide)) rfl (pa_cons (pe_op op_cat (pv 1) (pv 2)) pa_nil)))) pss_nil)
    (pss_one (ps_ret (pe_do R.best_entries (hr.mono (by decide)) rfl (pa_cons (pe_do R.joint_entries (hr.mono (by decide)) rfl (pa_cons (pv 0) (pa_cons (pv 1) (pa_cons (pv 2) pa_nil)))) pa_nil))))), ?_⟩
  obtain ⟨N, k, a, b, f, g, rfl, hk, old, T1, T2, nf, ng, q⟩ := h
  refine ⟨_, rfl, rfl, _, rfl, ite2 (fun h1 => ?_) (fun h1 => ?_)⟩
  · have h1 : (k : Int) = 3 := t_eq.mp h1
    obtain rfl : k = 3 := by omega
    obtain ⟨xs, hxs, px⟩ := T1
    obtain ⟨ys, hys, py⟩ := T2
    have lx := Two.len px
    have ly := Two.len py
    have n1 := nf.1
    have n2 := ng.1
    have big : (2048 : Nat) < sizeLine := by decide
    refine ⟨_, rfl, _, rfl, a, b, xs, ys, rfl, rfl, (cut_some hxs).2, (cut_some hys).2, by omega, fun p np => ?_⟩
    have s1 := same_new (o := .lst (xs ++ ys)) np
    refine ⟨N, p, f ++ g, rfl, old.same s1, ⟨xs ++ ys, ?_, ?_⟩, by rw [List.length_append]; omega, fun H' p' s2 n' T => ?_⟩
    · rw [cut_out (old.new np)]; exact upd_same
    · exact Two.app (Two.mono px fun _ _ z => z.same (same_cut s1)) (Two.mono py fun _ _ z => z.same (same_cut s1))
    · exact q H' p' (s1.trans s2) (s1.free n') T
  · have h1 : ¬ (k : Int) = 3 := fun z => h1 (t_eq.mpr z)
    have e : fp k f g = Wf06.best (joint k f g) := if_neg (by omega)
    rw [e] at q
    refine ⟨_, rfl, _, rfl, _, rfl, N, k, a, b, f, g, rfl, by omega, old, T1, T2, nf, ng, fun H1 p s1 n1 T => ?_⟩
    refine ⟨N, p, joint k f g, rfl, old.same s1, T, ?_, fun H' p' s2 n' T' => q H' p' (s1.trans s2) (s1.free n') T'⟩
    rw [joint_len]
    exact Nat.mul_le_mul nf.1 ng.1
/-! ### pair_of_leaf -/
abbrev sLeaf : Stmt := top 21
theorem scLeaf : FnScope ["construct", "times", "costs", "step"] ["construct", "times", "costs"] (defScope sLeaf) := ⟨rfl, rfl, rfl, by decide +kernel, rfl, by decide +kernel, by decide +kernel⟩
/-- the steps' times and costs -/
structure Booked (b : Book) (H : Hp) (t k : Addr) : Prop where
  times : H t = some (.lst (b.times.map iv))
  costs : H k = some (.lst (b.costs.map iv))
  lt : b.times.length = 6
  lc : b.costs.length = 6
theorem Booked.same {b : Book} {H H' : Hp} {t k : Addr} (h : Booked b H t k) (s : Same H H') : Booked b H' t k := ⟨s _ _ h.times, s _ _ h.costs, h.lt, h.lc⟩
def spLeaf : Sp := fun vs H Q _ => ∃ (b : Book) (a t k : Addr) (u : Wf.P), vs = [.ref a, .ref t, .ref k] ∧ H a = some (.tup ((tok u).map iv)) ∧ kids u = none ∧ Good u ∧ Booked b H t k ∧
  ∀ p, H p = none → Q (.ref p) (upd H p (pr (b.latest u) (b.dearest u)))
theorem ok_leaf {f : Addr} {fd : FuncData} (F : Fun K "pair_of_leaf" "pair_of_leaf" sLeaf f fd) (c : Con mg) : FnOk P w K mg base CX0 1 f fd ["construct", "times", "costs"] spLeaf := by
  have S := scLeaf
  refine F.ok S (fun vs H Q E h => ?_) (fun cdv A outer s H vs Q E hr h => ?_)
  · obtain ⟨b, a, t, k, u, rfl, _⟩ := h
    rfl
  refine ⟨_, (pss_cons (ps_if (pt_cmpR op_eq (pe_ix ix_tup (pv 0) pe_int (fun _ _ => rfl)) (pe_con rfl c.STEP) (nomark _)) (pss_cons (ps_set (i := 3) S.nd rfl (Or.inl rfl) (pe_ix ix_tup (pv 0) pe_int (fun _ _ => rfl)))
      (pss_one (ps_ret (pe_tup (pa_cons (pe_ix ix_list (pv 1) (pv 3) (fun _ _ => rfl)) (pa_cons (pe_ix ix_list (pv 2) (pv 3) (fun _ _ => rfl)) pa_nil)))))) pss_nil)
    (pss_one (ps_ret (pe_tup (pa_cons pe_int (pa_cons pe_int pa_nil)))))), ?_⟩
  obtain ⟨b, a, t, k, u, rfl, ha, hk, good, B, q⟩ := h
  cases u <;> simp [kids] at hk
  · rename_i n
    have hn : n < 6 := good
    have gt : (b.times.map iv)[n]? = some (iv (b.times.getD n 0)) := by
      rw [List.getElem?_map, List.getElem?_eq_getElem (by rw [B.lt]; exact hn)]
      simp [List.getD, List.getElem?_eq_getElem (show n < b.times.length by rw [B.lt]; exact hn)]
    have gc : (b.costs.map iv)[n]? = some (iv (b.costs.getD n 0)) := by
      rw [List.getElem?_map, List.getElem?_eq_getElem (by rw [B.lc]; exact hn)]
      simp [List.getD, List.getElem?_eq_getElem (show n < b.costs.length by rw [B.lc]; exact hn)]
    refine ⟨_, rfl, a, _, 0, iv 0, rfl, rfl, SqT.of ha, atI_nat (j := 0) rfl, rfl, _, rfl, ite2 (fun _ => ?_) (fun z => absurd (t_eq.mpr rfl) z)⟩
    refine ⟨_, rfl, a, _, 1, iv n, rfl, rfl, SqT.of ha, atI_nat (j := 1) rfl, ?_⟩
    exact ⟨_, rfl, _, rfl, t, _, _, _, rfl, rfl, SqL.of B.times, atI_nat gt, _, rfl, _, rfl, k, _, _, _, rfl, rfl, SqL.of B.costs, atI_nat gc, by show 2 ≤ sizeLine; decide, q⟩
  · refine ⟨_, rfl, a, _, 0, iv 1, rfl, rfl, SqT.of ha, atI_nat (j := 0) rfl, rfl, _, rfl, ite2 (fun z => absurd (t_eq.mp z) (by decide)) (fun _ => ?_)⟩
    exact ⟨by show 2 ≤ sizeLine; decide, q⟩
/-! ### front_of -/
abbrev sFr : Stmt := top 22
theorem scFr : FnScope ["constructs", "times", "costs", "fronts", "construct", "kind", "pair"] ["constructs", "times", "costs"] (defScope sFr) := ⟨rfl, rfl, rfl, by decide +kernel, rfl, by decide +kernel, by decide +kernel⟩
def spFr : Sp := fun vs H Q _ => ∃ (b : Book) (a t k : Addr) (us : List Wf.P) (un : List (List Nat)) (u : Wf.P), vs = [.ref a, .ref t, .ref k] ∧ TupsAt H a un ∧ Enc false us un ∧ (∀ v ∈ us, Good v ∧ Fine b v) ∧ us.getLast? = some u ∧ un.length ≤ 66 ∧ Booked b H t k ∧
  ∀ H' p, Same H H' → FrontAt H' p (b.front u) → Q (.ref p) H'
structure R6 (P : Program) (w : World) (K : PySem.W.Frag) (mg : Str → Option Value) (base : Heap) : Prop extends R1 P w K mg base where
  front_of_parts : Ready P w K mg base 5 "front_of_parts" ["kind", "first", "second"] spFp
  pair_of_leaf : Ready P w K mg base 1 "pair_of_leaf" ["construct", "times", "costs"] spLeaf
structure InvF (H : Hp) (b : Book) (a t k p : Addr) (us : List Wf.P) (i : Nat) (σ : L2.St) (H1 : Hp) : Prop where
  is : ∃ v4 v5 v6 zs, σ = [some (.ref a), some (.ref t), some (.ref k), some (.ref p), v4, v5, v6] ∧ Same H H1 ∧ H1 p = some (.lst zs) ∧ Paired (fun y u => ∃ r, y = V.ref r ∧ FrontAt (cut (· = p) H1) r (b.front u)) zs (us.take i)
theorem narrow_of {b : Book} {u : Wf.P} (h : Fine b u) : Narrow (b.front u) := h
theorem ok_fr {f : Addr} {fd : FuncData} (F : Fun K "front_of" "front_of" sFr f fd) (c : Con mg) (R : R6 P w K mg base) : FnOk P w K mg base CX0 6 f fd ["constructs", "times", "costs"] spFr := by
  have S := scFr
  refine F.ok S (fun vs H Q E h => ?_) (fun cdv A outer s H vs Q E hr h => ?_)
  · obtain ⟨b, a, t, k, us, un, u, rfl, _⟩ := h
    rfl
  refine ⟨_, (pss_cons (ps_set (i := 3) S.nd rfl (Or.inl rfl) (pe_lst pa_nil))
    (pss_cons (ps_for PassesOwn.never rfl (pi_list (pv 0)) (pg_name (i := 4) S.nd rfl (Or.inl rfl))
      (pss_cons (ps_set (i := 5) S.nd rfl (Or.inl rfl) (pe_ix ix_tup (pv 4) pe_int (fun _ _ => rfl)))
      (pss_one (ps_if (pt_val (pe_do R.has_parts (hr.mono (by decide)) rfl (pa_cons (pv 5) pa_nil))) (pss_one (ps_expr (pe_bm PySem.F.plainAttrs_list PySem.F.slot_list_append PySem.F.type_list_append mt_append (pv 3) (pa_cons (pe_do R.front_of_parts (hr.mono (by decide)) rfl (pa_cons (pv 5) (pa_cons (pe_ix ix_list (pv 3) (pe_ix ix_tup (pv 4) pe_int (fun _ _ => rfl)) (fun _ _ => rfl)) (pa_cons (pe_ix ix_list (pv 3) (pe_ix ix_tup (pv 4) pe_int (fun _ _ => rfl)) (fun _ _ => rfl)) pa_nil)))) pa_nil)))) (pss_cons (ps_set (i := 6) S.nd rfl (Or.inl rfl) (pe_do R.pair_of_leaf (hr.mono (by decide)) rfl (pa_cons (pv 4) (pa_cons (pv 1) (pa_cons (pv 2) pa_nil)))))
        (pss_one (ps_expr (pe_bm PySem.F.plainAttrs_list PySem.F.slot_list_append PySem.F.type_list_append mt_append (pv 3) (pa_cons (pe_lst (pa_cons (pe_tup (pa_cons (pv 6) (pa_cons (pe_callTy call_list_of (by rfl) c.list (by decide +kernel) (pa_cons (pv 4) pa_nil)) pa_nil))) pa_nil)) pa_nil)))))))))
    (pss_one (ps_ret (pe_ix ix_list (pv 3) (pe_un un_neg pe_int) (fun _ _ => rfl)))))), ?_⟩
  obtain ⟨b, a, t, k, us, un, u, rfl, ⟨xs, hxs, px⟩, E0, fine, last, hz, B, q⟩ := h
  have lx : xs.length = us.length := (Two.len px).trans E0.len.symm
  have lu : us.length ≤ 66 := by rw [E0.len]; exact hz
  refine ⟨Nat.zero_le _, fun p np => ?_⟩
  have s0 := same_new (o := .lst []) np
  refine ⟨_, rfl, a, rfl, ⟨xs, SqL.of (s0 _ _ hxs)⟩, for_list (xs := xs) (InvF H b a t k p us) ⟨none, none, none, [], rfl, s0, upd_same, .nil⟩ (fun i σ H' hi z => ?_) ?_ ?_⟩
  · obtain ⟨_, _, _, _, _, s2, _⟩ := z
    exact SqL.of (s2 _ _ hxs)
  · rintro i x σ H1 hx ⟨v4, v5, v6, zs, rfl, s1, hp, pz⟩
    obtain ⟨d, hd, ⟨ba, rfl, hb0⟩⟩ := Two.left px hx
    obtain ⟨v, hv, cod⟩ := E0.back hd
    have hb := s1 _ _ hb0
    have lz : zs.length < sizeLine := small1000 (by have := Two.len pz; rw [List.length_take] at this; omega)
    have fv := fine v (List.mem_of_getElem? hv)
    have old : Old (· = p) H1 := fun b z => ⟨.lst zs, by have z : b = p := z; rw [z]; exact hp⟩
    cases hk : kids v with
    | some kk =>
      obtain ⟨kd, pp, qq⟩ := kk
      obtain ⟨x, y, hx', hy', _, ex, ey, rfl⟩ := cod.node hk
      obtain ⟨emk, k2, k5⟩ := mk_kids hk
      have kne := (good_node hk fv.1).1
      have k234 := kind234 hk kne
      obtain ⟨zx, gx, rx, rfl, Tx⟩ := Two.right pz (take_get ex hx')
      obtain ⟨zy, gy, ry, rfl, Ty⟩ := Two.right pz (take_get ey hy')
      refine ⟨_, rfl, ba, _, 0, iv kd, rfl, rfl, SqT.of hb, atI_nat (j := 0) rfl, ?_⟩
      refine ⟨_, rfl, kd, rfl, _, rfl, ite2 (fun _ => ?_) (fun z => absurd (decide_eq_true k2) z)⟩
      refine ⟨_, rfl, .inl ⟨rfl, _, SqL.of hp⟩, _, rfl, _, rfl, _, rfl, ba, _, 1, iv x, rfl, rfl, SqT.of hb, atI_nat (j := 1) rfl, p, _, _, _, rfl, rfl, SqL.of hp, atI_nat gx, _, rfl, _, rfl, ba, _, 2, iv y, rfl, rfl, SqT.of hb, atI_nat (j := 2) rfl, p, _, _, _, rfl, rfl, SqL.of hp, atI_nat gy, ?_⟩
      refine ⟨(· = p), kd, rx, ry, _, _, rfl, k234, old, Tx, Ty, narrow_of (fine pp (List.mem_of_getElem? ex)).2, narrow_of (fine qq (List.mem_of_getElem? ey)).2, fun H2 r s2 nr T => ?_⟩
      refine ⟨p, zs, _, rfl, rfl, s2 _ _ hp, lz, ?_⟩
      refine ⟨_, _, _, _, rfl, same_at (s1.trans s2) np, upd_same, ?_⟩
      rw [cut_upd (N := (· = p)) rfl, take_next hv]
      refine Two.snoc ⟨r, rfl, ?_⟩ (Two.mono pz fun _ _ z => ?_)
      · obtain ⟨r', e, T'⟩ := z
        exact ⟨r', e, T'.same (same_cut s2)⟩
      · rw [emk, front_fp b k234]; exact T
    | none =>
      obtain ⟨kd, rr, e, k1, _⟩ := tok_leaf hk
      have ed := cod.leaf hk
      subst ed
      have hb' := hb
      rw [e] at hb'
      refine ⟨_, rfl, ba, _, 0, iv kd, rfl, rfl, SqT.of hb', atI_nat (j := 0) rfl, ?_⟩
      refine ⟨_, rfl, kd, rfl, _, rfl, ite2 (fun z => absurd (of_decide_eq_true z : 2 ≤ kd) (by omega)) (fun _ => ?_)⟩
      refine ⟨_, rfl, _, rfl, _, rfl, b, ba, t, k, v, rfl, hb, hk, fv.1, B.same s1, fun tp ntp => ?_⟩
      have s2 := same_new (o := pr (b.latest v) (b.dearest v)) ntp
      refine ⟨_, rfl, .inl ⟨rfl, _, SqL.of (s2 _ _ hp)⟩, _, rfl, _, rfl, ba, _, rfl, .inr (SqT.of (s2 _ _ hb)), fun l1 nl1 => ?_⟩
      have s3 := same_new (o := .lst ((tok v).map iv)) nl1
      refine ⟨by show 2 ≤ sizeLine; decide, fun t2 nt2 => ?_⟩
      have s4 := same_new (o := .tup [.ref tp, .ref l1]) nt2
      refine ⟨by show 1 ≤ sizeLine; decide, fun l3 nl3 => ?_⟩
      have s5 := same_new (o := .lst [.ref t2]) nl3
      have s35 := (s3.trans s4).trans s5
      have s25 := s2.trans s35
      refine ⟨p, zs, _, rfl, rfl, s25 _ _ hp, lz, ?_⟩
      have f1 : (upd (upd (upd (upd H1 tp (pr (b.latest v) (b.dearest v))) l1 (.lst ((tok v).map iv))) t2 (.tup [.ref tp, .ref l1])) l3 (.lst [.ref t2])) tp = some (pr (b.latest v) (b.dearest v)) := s35 _ _ upd_same
      have f2 : (upd (upd (upd (upd H1 tp (pr (b.latest v) (b.dearest v))) l1 (.lst ((tok v).map iv))) t2 (.tup [.ref tp, .ref l1])) l3 (.lst [.ref t2])) l1 = some (.lst ((tok v).map iv)) := (s4.trans s5) _ _ upd_same
      have f3 : (upd (upd (upd (upd H1 tp (pr (b.latest v) (b.dearest v))) l1 (.lst ((tok v).map iv))) t2 (.tup [.ref tp, .ref l1])) l3 (.lst [.ref t2])) t2 = some (.tup [.ref tp, .ref l1]) := s5 _ _ upd_same
      have f4 : (upd (upd (upd (upd H1 tp (pr (b.latest v) (b.dearest v))) l1 (.lst ((tok v).map iv))) t2 (.tup [.ref tp, .ref l1])) l3 (.lst [.ref t2])) l3 = some (.lst [.ref t2]) := upd_same
      have m1 : H1 l1 = none := s2.free nl1
      have m2 : H1 t2 = none := (s2.trans s3).free nt2
      have m3 : H1 l3 = none := ((s2.trans s3).trans s4).free nl3
      generalize (upd (upd (upd (upd H1 tp (pr (b.latest v) (b.dearest v))) l1 (.lst ((tok v).map iv))) t2 (.tup [.ref tp, .ref l1])) l3 (.lst [.ref t2])) = H5 at s25 f1 f2 f3 f4
      refine ⟨_, _, _, _, rfl, same_at (s1.trans s25) np, upd_same, ?_⟩
      rw [cut_upd (N := (· = p)) rfl, take_next hv]
      refine Two.snoc ⟨l3, rfl, ?_⟩ (Two.mono pz fun _ _ z => ?_)
      · obtain ⟨r', e, T'⟩ := z
        exact ⟨r', e, T'.same (same_cut s25)⟩
      · rw [front_leaf b hk]
        refine ⟨[.ref t2], ?_, .cons ⟨t2, tp, l1, rfl, ?_, ?_, ?_⟩ .nil⟩
        · rw [cut_out (N := (· = p)) (old.new m3)]; exact f4
        · rw [cut_out (N := (· = p)) (old.new m2)]; exact f3
        · rw [cut_out (N := (· = p)) (old.new ntp)]; exact f1
        · rw [cut_out (N := (· = p)) (old.new m1)]
          show _ = some (HO.lst (v.row.map iv))
          rw [row_leaf hk]; exact f2
  · rintro σ H1 ⟨v4, v5, v6, zs, rfl, s1, hp, pz⟩
    rw [lx, List.take_of_length_le (Nat.le_refl _)] at pz
    rw [List.getLast?_eq_getElem?] at last
    obtain ⟨y, hy, r, rfl, T⟩ := Two.right pz last
    have len := Two.len pz
    obtain ⟨zs0, rfl⟩ : ∃ zs0, zs = zs0 ++ [.ref r] := by
      have h2 : zs.getLast? = some (.ref r) := by rw [List.getLast?_eq_getElem?, len]; exact hy
      obtain ⟨zs0, e⟩ := List.getLast?_eq_some_iff.mp h2
      exact ⟨zs0, e⟩
    exact ⟨_, rfl, 1, rfl, p, _, -1, .ref r, rfl, rfl, SqL.of hp, atI_last _ _, q H1 r s1 (T.same (cut_same _ _))⟩
end
end Pf

set_option Elab.async false
set_option linter.all false
set_option maxRecDepth 100000
set_option maxHeartbeats 2000000
/-! The worst case: worst_of. -/
namespace Pf
open PySem PySem.Spec PyProof.Rows L2
open Wf06 (Point Book)
theorem worst_mk (b : Book) {k : Nat} (h : k = 2 ∨ k = 3 ∨ k = 4) (p q : Wf.P) : b.latest (Pf.mk k p q) = wt k (b.latest p) (b.latest q) ∧ b.dearest (Pf.mk k p q) = wc k (b.dearest p) (b.dearest q) := by
  rcases h with rfl | rfl | rfl <;> exact ⟨rfl, rfl⟩
section
variable {P : Program} {w : World} {K : PySem.W.Frag} {mg : Str → Option Value} {base : Heap}
abbrev sWo : Stmt := top 24
theorem scWo : FnScope ["constructs", "times", "costs", "worst", "construct", "kind"] ["constructs", "times", "costs"] (defScope sWo) := ⟨rfl, rfl, rfl, by decide +kernel, rfl, by decide +kernel, by decide +kernel⟩
def spWo : Sp := fun vs H Q _ => ∃ (b : Book) (a t k : Addr) (us : List Wf.P) (un : List (List Nat)) (u : Wf.P), vs = [.ref a, .ref t, .ref k] ∧ TupsAt H a un ∧ Enc false us un ∧ (∀ v ∈ us, Good v) ∧ us.getLast? = some u ∧ un.length ≤ 100 ∧ Booked b H t k ∧
  ∀ H' p, Same H H' → H' p = some (pr (b.latest u) (b.dearest u)) → Q (.ref p) H'
structure R3b (P : Program) (w : World) (K : PySem.W.Frag) (mg : Str → Option Value) (base : Heap) : Prop extends R1 P w K mg base where
  worst_of_parts : Ready P w K mg base 2 "worst_of_parts" ["kind", "first", "second"] spWop
  pair_of_leaf : Ready P w K mg base 1 "pair_of_leaf" ["construct", "times", "costs"] spLeaf
def WorstAt (b : Book) (H : Hp) (y : V) (u : Wf.P) : Prop := ∃ r, y = .ref r ∧ H r = some (pr (b.latest u) (b.dearest u))
theorem WorstAt.same {b : Book} {H H' : Hp} {y : V} {u : Wf.P} (s : Same H H') (h : WorstAt b H y u) : WorstAt b H' y u := by
  obtain ⟨r, e, q⟩ := h
  exact ⟨r, e, s _ _ q⟩
theorem WorstAt.upd {b : Book} {H : Hp} {y : V} {u : Wf.P} {p : Addr} {xs : List V} {o : HO} (hp : H p = some (.lst xs)) (h : WorstAt b H y u) : WorstAt b (L2.upd H p o) y u := by
  obtain ⟨r, e, q⟩ := h
  refine ⟨r, e, ?_⟩
  rw [upd_ne (ne_of q hp (by intro z; cases z))]; exact q
structure InvK (H : Hp) (b : Book) (a t k p : Addr) (us : List Wf.P) (i : Nat) (σ : L2.St) (H1 : Hp) : Prop where
  is : ∃ v4 v5 zs, σ = [some (.ref a), some (.ref t), some (.ref k), some (.ref p), v4, v5] ∧ Same H H1 ∧ H1 p = some (.lst zs) ∧ Paired (WorstAt b H1) zs (us.take i)
theorem ok_wo {f : Addr} {fd : FuncData} (F : Fun K "worst_of" "worst_of" sWo f fd) (c : Con mg) (R : R3b P w K mg base) : FnOk P w K mg base CX0 3 f fd ["constructs", "times", "costs"] spWo := by
  have S := scWo
  refine F.ok S (fun vs H Q E h => ?_) (fun cdv A outer s H vs Q E hr h => ?_)
  · obtain ⟨b, a, t, k, us, un, u, rfl, _⟩ := h
    rfl
  refine ⟨_, (pss_cons (ps_set (i := 3) S.nd rfl (Or.inl rfl) (pe_lst pa_nil))
    (pss_cons (ps_for PassesOwn.never rfl (pi_list (pv 0)) (pg_name (i := 4) S.nd rfl (Or.inl rfl))
      (pss_cons (ps_set (i := 5) S.nd rfl (Or.inl rfl) (pe_ix ix_tup (pv 4) pe_int (fun _ _ => rfl)))
      (pss_one (ps_if (pt_val (pe_do R.has_parts (hr.mono (by decide)) rfl (pa_cons (pv 5) pa_nil))) (pss_one (ps_expr (pe_bm PySem.F.plainAttrs_list PySem.F.slot_list_append PySem.F.type_list_append mt_append (pv 3) (pa_cons (pe_do R.worst_of_parts (hr.mono (by decide)) rfl (pa_cons (pv 5) (pa_cons (pe_ix ix_list (pv 3) (pe_ix ix_tup (pv 4) pe_int (fun _ _ => rfl)) (fun _ _ => rfl)) (pa_cons (pe_ix ix_list (pv 3) (pe_ix ix_tup (pv 4) pe_int (fun _ _ => rfl)) (fun _ _ => rfl)) pa_nil)))) pa_nil)))) (pss_one (ps_expr (pe_bm PySem.F.plainAttrs_list PySem.F.slot_list_append PySem.F.type_list_append mt_append (pv 3) (pa_cons (pe_do R.pair_of_leaf (hr.mono (by decide)) rfl (pa_cons (pv 4) (pa_cons (pv 1) (pa_cons (pv 2) pa_nil)))) pa_nil))))))))
    (pss_one (ps_ret (pe_ix ix_list (pv 3) (pe_un un_neg pe_int) (fun _ _ => rfl)))))), ?_⟩
  obtain ⟨b, a, t, k, us, un, u, rfl, ⟨xs, hxs, px⟩, E0, fine, last, hz, B, q⟩ := h
  have lx : xs.length = us.length := (Two.len px).trans E0.len.symm
  have lu : us.length ≤ 100 := by rw [E0.len]; exact hz
  refine ⟨Nat.zero_le _, fun p np => ?_⟩
  have s0 := same_new (o := .lst []) np
  refine ⟨_, rfl, a, rfl, ⟨xs, SqL.of (s0 _ _ hxs)⟩, for_list (xs := xs) (InvK H b a t k p us) ⟨none, none, [], rfl, s0, upd_same, .nil⟩ (fun i σ H' hi z => ?_) ?_ ?_⟩
  · obtain ⟨_, _, _, _, s2, _⟩ := z
    exact SqL.of (s2 _ _ hxs)
  · rintro i x σ H1 hx ⟨v4, v5, zs, rfl, s1, hp, pz⟩
    obtain ⟨d, hd, ⟨ba, rfl, hb0⟩⟩ := Two.left px hx
    obtain ⟨v, hv, cod⟩ := E0.back hd
    have hb := s1 _ _ hb0
    have lz : zs.length < sizeLine := small1000 (by have := Two.len pz; rw [List.length_take] at this; omega)
    have gv := fine v (List.mem_of_getElem? hv)
    have nxt : ∀ v5' H2 r, Same H1 H2 → H1 r = none → H2 r = some (pr (b.latest v) (b.dearest v)) → InvK H b a t k p us (i + 1) [some (.ref a), some (.ref t), some (.ref k), some (.ref p), some (.ref ba), v5'] (upd H2 p (.lst (zs ++ [.ref r]))) := fun v5' H2 r s2 nr hr => by
      refine ⟨_, _, _, rfl, same_at (s1.trans s2) np, upd_same, ?_⟩
      rw [take_next hv]
      have hp2 := s2 _ _ hp
      exact Two.snoc (WorstAt.upd hp2 ⟨r, rfl, hr⟩) (Two.mono pz fun _ _ z => (z.same s2).upd hp2)
    cases hk : kids v with
    | some kk =>
      obtain ⟨kd, pp, qq⟩ := kk
      obtain ⟨x, y, hx', hy', _, ex, ey, rfl⟩ := cod.node hk
      obtain ⟨emk, k2, k5⟩ := mk_kids hk
      have k234 := kind234 hk (good_node hk gv).1
      obtain ⟨zx, gx, rx, rfl, Tx⟩ := Two.right pz (take_get ex hx')
      obtain ⟨zy, gy, ry, rfl, Ty⟩ := Two.right pz (take_get ey hy')
      refine ⟨_, rfl, ba, _, 0, iv kd, rfl, rfl, SqT.of hb, atI_nat (j := 0) rfl, ?_⟩
      refine ⟨_, rfl, kd, rfl, _, rfl, ite2 (fun _ => ?_) (fun z => absurd (decide_eq_true k2) z)⟩
      refine ⟨_, rfl, .inl ⟨rfl, _, SqL.of hp⟩, _, rfl, _, rfl, _, rfl, ba, _, 1, iv x, rfl, rfl, SqT.of hb, atI_nat (j := 1) rfl, p, _, _, _, rfl, rfl, SqL.of hp, atI_nat gx, _, rfl, _, rfl, ba, _, 2, iv y, rfl, rfl, SqT.of hb, atI_nat (j := 2) rfl, p, _, _, _, rfl, rfl, SqL.of hp, atI_nat gy, ?_⟩
      refine ⟨kd, rx, ry, _, _, _, _, rfl, Tx, Ty, fun r nr => ?_⟩
      obtain ⟨w1, w2⟩ := worst_mk b k234 pp qq
      rw [← w1, ← w2, ← emk]
      have s2 := same_new (o := pr (b.latest v) (b.dearest v)) nr
      exact ⟨p, zs, _, rfl, rfl, s2 _ _ hp, lz, nxt _ _ r s2 nr upd_same⟩
    | none =>
      obtain ⟨kd, rr, e, k1, _⟩ := tok_leaf hk
      have ed := cod.leaf hk
      subst ed
      have hb' := hb
      rw [e] at hb'
      refine ⟨_, rfl, ba, _, 0, iv kd, rfl, rfl, SqT.of hb', atI_nat (j := 0) rfl, ?_⟩
      refine ⟨_, rfl, kd, rfl, _, rfl, ite2 (fun z => absurd (of_decide_eq_true z : 2 ≤ kd) (by omega)) (fun _ => ?_)⟩
      refine ⟨_, rfl, .inl ⟨rfl, _, SqL.of hp⟩, _, rfl, _, rfl, _, rfl, b, ba, t, k, v, rfl, hb, hk, gv, B.same s1, fun r nr => ?_⟩
      have s2 := same_new (o := pr (b.latest v) (b.dearest v)) nr
      exact ⟨p, zs, _, rfl, rfl, s2 _ _ hp, lz, nxt _ _ r s2 nr upd_same⟩
  · rintro σ H1 ⟨v4, v5, zs, rfl, s1, hp, pz⟩
    rw [lx, List.take_of_length_le (Nat.le_refl _)] at pz
    rw [List.getLast?_eq_getElem?] at last
    obtain ⟨y, hy, r, rfl, T⟩ := Two.right pz last
    have len := Two.len pz
    obtain ⟨zs0, rfl⟩ : ∃ zs0, zs = zs0 ++ [.ref r] := by
      have h2 : zs.getLast? = some (.ref r) := by rw [List.getLast?_eq_getElem?, len]; exact hy
      obtain ⟨zs0, e⟩ := List.getLast?_eq_some_iff.mp h2
      exact ⟨zs0, e⟩
    exact ⟨_, rfl, 1, rfl, p, _, -1, .ref r, rfl, rfl, SqL.of hp, atI_last _ _, q H1 r s1 T⟩
end
end Pf

set_option Elab.async false
set_option linter.all false
set_option maxRecDepth 100000
set_option maxHeartbeats 2000000
/-! Runs: is_run_here, is_run. -/
namespace Pf
open PySem PySem.Spec PyProof.Rows L2
open Wf06 (isRun)
section
variable {P : Program} {w : World} {K : PySem.W.Frag} {mg : Str → Option Value} {base : Heap}
/-! ### is_run_here -/
abbrev sRh : Stmt := top 26
theorem scRh : FnScope ["part", "construct", "fits", "fits_here", "kind"] ["part", "construct", "fits", "fits_here"] (defScope sRh) := ⟨rfl, rfl, rfl, by decide +kernel, rfl, by decide +kernel, by decide +kernel⟩
/-- for one part of the run, of which constructs it is a run -/
abbrev fitsOf (n : Nat) (us : List Wf.P) (r : Wf.P) : List V := us.map fun u => V.bl (isRun n u r)
def FitsAt (n : Nat) (us : List Wf.P) (H : Hp) (y : V) (r : Wf.P) : Prop := ∃ q, y = .ref q ∧ H q = some (.lst (fitsOf n us r))
def spRh : Sp := fun vs H Q _ => ∃ (a b p g : Addr) (n i j : Nat) (rs us : List Wf.P) (r u : Wf.P) (d e : List Nat) (zs : List V), vs = [.ref a, .ref b, .ref p, .ref g] ∧ H a = some (.tup (d.map iv)) ∧ H b = some (.tup (e.map iv)) ∧
  Cod false rs i r d ∧ Cod false us j u e ∧ Good u ∧ H p = some (.lst zs) ∧ Paired (FitsAt n us H) zs (rs.take i) ∧ H g = some (.lst (fitsOf n (us.take j) r)) ∧ Q (.bl (isRun n u r)) H
theorem first_is {near : Bool} {ts : List Wf.P} {i : Nat} {t : Wf.P} {c : List Nat} (h : Cod near ts i t c) : ∃ k r, c = k :: r ∧ (kids t = none → k ≤ 1 ∧ c = tok t) ∧ (∀ k' p q, kids t = some (k', p, q) → k = k') := by
  cases hk : kids t with
  | none =>
    obtain ⟨k, r, e, k1, _⟩ := tok_leaf hk
    exact ⟨k, r, (h.leaf hk).trans e, fun _ => ⟨k1, h.leaf hk⟩, fun _ _ _ z => (by cases z)⟩
  | some kk =>
    obtain ⟨k, p, q⟩ := kk
    obtain ⟨x, y, _, _, _, _, _, rfl⟩ := h.node hk
    exact ⟨k, [x, y], rfl, fun z => (by cases z), fun _ _ _ z => by cases z; rfl⟩
theorem isRun_leaf (n : Nat) {u r : Wf.P} (h : kids u = none) : isRun n u r = decide (r = u) := by
  cases u <;> simp [kids] at h <;> simp [isRun] <;> rfl
theorem isRun_two (n : Nat) {u r p q : Wf.P} {k : Nat} (h : kids u = some (k, p, q)) (hk : k = 2 ∨ k = 4) : isRun n u r = match kids r with
    | some (k', x, y) => decide (k' = k) && (isRun n p x && isRun n q y)
    | none => false := by
  cases u <;> simp [kids] at h <;> obtain ⟨rfl, rfl, rfl⟩ := h
  · cases r <;> simp [isRun, kids]
  · omega
  · cases r <;> simp [isRun, kids]
  · omega
theorem isRun_alt (n : Nat) {u r p q : Wf.P} (h : kids u = some (3, p, q)) : isRun n u r = (isRun n p r || isRun n q r) := by
  cases u <;> simp [kids] at h
  obtain ⟨rfl, rfl⟩ := h
  rfl
theorem tok_inj {u r : Wf.P} (hu : kids u = none) (hr : kids r = none) : (tok r = tok u) ↔ r = u := by
  cases u <;> simp [kids] at hu <;> cases r <;> simp [kids] at hr <;> simp [tok]
theorem tok_shaped {u : Wf.P} (hu : kids u = none) : SeqAt.shaped (.tuple (dat (tok u))) = true := by
  cases u <;> simp [kids] at hu <;> simp [tok, dat, SeqAt.shaped, PyData.canLay0, PyData.canLayAll0, PyData.depth, PyData.depthAll]
theorem dec_vi {i j : Nat} : (!decide (iv i = iv j)) = true ↔ i ≠ j := by
  simp only [iv, Bool.not_eq_true', decide_eq_false_iff_not, V.int.injEq, ne_eq]
  omega
theorem ok_rh {f : Addr} {fd : FuncData} (F : Fun K "is_run_here" "is_run_here" sRh f fd) (c : Con mg) (R : R1 P w K mg base) : FnOk P w K mg base CX0 2 f fd ["part", "construct", "fits", "fits_here"] spRh := by
  have S := scRh
  refine F.ok S (fun vs H Q E h => ?_) (fun cdv A outer s H vs Q E hr h => ?_)
  · obtain ⟨a, b, p, g, n, i, j, rs, us, r, u, d, e, zs, rfl, _⟩ := h
    rfl
  refine ⟨_, (pss_cons (ps_set (i := 4) S.nd rfl (Or.inl rfl) (pe_ix ix_tup (pv 1) pe_int (fun _ _ => rfl)))
    (pss_cons (ps_if (pt_cmpR op_eq (pv 4) (pe_con rfl c.CHOICE) (nomark _)) (pss_one (ps_ret (pe_or (pe_ix ix_list (pv 3) (pe_ix ix_tup (pv 1) pe_int (fun _ _ => rfl)) (fun _ _ => rfl)) (pe_one (pe_ix ix_list (pv 3) (pe_ix ix_tup (pv 1) pe_int (fun _ _ => rfl)) (fun _ _ => rfl)))))) pss_nil)
    (pss_cons (ps_if (pt_cmpR op_ne (pe_ix ix_tup (pv 0) pe_int (fun _ _ => rfl)) (pv 4) (nomark _)) (pss_one (ps_ret pe_bl)) pss_nil)
    (pss_cons (ps_if (pt_val (pe_do R.has_parts (hr.mono (by decide)) rfl (pa_cons (pv 4) pa_nil))) (pss_one (ps_ret (pe_and (pe_ix ix_list (pe_ix ix_list (pv 2) (pe_ix ix_tup (pv 0) pe_int (fun _ _ => rfl)) (fun _ _ => rfl)) (pe_ix ix_tup (pv 1) pe_int (fun _ _ => rfl)) (fun _ _ => rfl)) (pe_one (pe_ix ix_list (pe_ix ix_list (pv 2) (pe_ix ix_tup (pv 0) pe_int (fun _ _ => rfl)) (fun _ _ => rfl)) (pe_ix ix_tup (pv 1) pe_int (fun _ _ => rfl)) (fun _ _ => rfl)))))) pss_nil)
    (pss_one (ps_ret (pe_cmpR (op_eqD hr.units) (pv 0) (pv 1) (nomark _)))))))), ?_⟩
  obtain ⟨a, b, p, g, n, i, j, rs, us, r, u, d, e, zs, rfl, ha, hb, cr, cu, good, hp, pz, hg, q⟩ := h
  obtain ⟨kd, dr, rfl, dl, dn⟩ := first_is cr
  cases hk : kids u with
  | none =>
    obtain ⟨ku, er, rfl, el, en⟩ := first_is cu
    obtain ⟨k1, eu⟩ := el hk
    refine ⟨_, rfl, b, _, 0, iv ku, rfl, rfl, SqT.of hb, atI_nat (j := 0) rfl, ?_⟩
    refine ⟨_, rfl, rfl, _, rfl, ite2 (fun z => absurd (t_eq.mp z) (by omega)) (fun _ => ?_)⟩
    refine ⟨_, rfl, a, _, 0, iv kd, rfl, rfl, SqT.of ha, atI_nat (j := 0) rfl, _, rfl, rfl, _, rfl, ite2 (fun z => ?_) (fun z => ?_)⟩
    · have z : kd ≠ ku := dec_vi.mp z
      rw [isRun_leaf n hk, decide_eq_false (fun y => ?_)] at q
      · exact q
      · subst y
        have := (dl hk).2.trans eu.symm
        cases this
        exact z rfl
    · have z : kd = ku := Decidable.byContradiction fun y => z (dec_vi.mpr y)
      subst z
      refine ⟨_, rfl, kd, rfl, _, rfl, ite2 (fun z => absurd (of_decide_eq_true z : 2 ≤ kd) (by omega)) (fun _ => ?_)⟩
      have hkr : kids r = none := by
        cases e : kids r with
        | none => rfl
        | some kk =>
          obtain ⟨k', x, y⟩ := kk
          have := dn _ _ _ e
          have := (mk_kids e).2.1
          omega
      have ed := (dl hkr).2
      rw [ed] at ha
      rw [eu] at hb
      refine ⟨_, rfl, _, rfl, .tuple (dat (tok r)), .tuple (dat (tok u)), .tup (SqT.of ha) (dp_all _), .tup (SqT.of hb) (dp_all _), tok_shaped hkr, tok_shaped hk, ?_⟩
      rw [eqv_tuple]
      have e3 : decide (tok r = tok u) = isRun n u r := by
        rw [isRun_leaf n hk, Bool.eq_iff_iff, decide_eq_true_eq, decide_eq_true_eq]
        exact tok_inj hk hkr
      rw [e3]
      exact q
  | some kk =>
    obtain ⟨k, pp, qq⟩ := kk
    obtain ⟨x, y, hx, hy, _, ex, ey, rfl⟩ := cu.node hk
    obtain ⟨kne, _, _⟩ := good_node hk good
    have k234 := kind234 hk kne
    refine ⟨_, rfl, b, _, 0, iv k, rfl, rfl, SqT.of hb, atI_nat (j := 0) rfl, ?_⟩
    refine ⟨_, rfl, rfl, _, rfl, ite2 (fun z => ?_) (fun z => ?_)⟩
    · have z : (k : Int) = 3 := t_eq.mp z
      obtain rfl : k = 3 := by omega
      rw [isRun_alt n hk] at q
      have gx : (fitsOf n (us.take j) r)[x]? = some (.bl (isRun n pp r)) := by
        rw [List.getElem?_map, take_get ex hx]; rfl
      have gy : (fitsOf n (us.take j) r)[y]? = some (.bl (isRun n qq r)) := by
        rw [List.getElem?_map, take_get ey hy]; rfl
      refine ⟨_, rfl, _, rfl, b, _, 1, iv x, rfl, rfl, SqT.of hb, atI_nat (j := 1) rfl, g, _, _, _, rfl, rfl, SqL.of hg, atI_nat gx, _, rfl, ite2 (fun z => ?_) (fun z => ?_)⟩
      · rw [z] at q
        exact q
      · rw [Bool.eq_false_iff.mpr z, Bool.false_or] at q
        exact ⟨_, rfl, _, rfl, b, _, 2, iv y, rfl, rfl, SqT.of hb, atI_nat (j := 2) rfl, g, _, _, _, rfl, rfl, SqL.of hg, atI_nat gy, q⟩
    · have z : ¬ (k : Int) = 3 := fun y => z (t_eq.mpr y)
      have k24 : k = 2 ∨ k = 4 := by omega
      rw [isRun_two n hk k24] at q
      refine ⟨_, rfl, a, _, 0, iv kd, rfl, rfl, SqT.of ha, atI_nat (j := 0) rfl, _, rfl, rfl, _, rfl, ite2 (fun z => ?_) (fun z => ?_)⟩
      · have z : kd ≠ k := dec_vi.mp z
        cases e : kids r with
        | none =>
          rw [e] at q
          exact q
        | some kk =>
          obtain ⟨k', r1, r2⟩ := kk
          rw [e] at q
          have := dn _ _ _ e
          dsimp only at q
          rw [decide_eq_false (by omega), Bool.false_and] at q
          exact q
      · have z : kd = k := Decidable.byContradiction fun y => z (dec_vi.mpr y)
        subst z
        refine ⟨_, rfl, kd, rfl, _, rfl, ite2 (fun _ => ?_) (fun z => absurd (decide_eq_true (by omega : 2 ≤ kd)) z)⟩
        cases e : kids r with
        | none => have := (dl e).1; omega
        | some kk =>
          obtain ⟨k', r1, r2⟩ := kk
          obtain rfl := dn _ _ _ e
          rw [e] at q
          dsimp only at q
          rw [decide_eq_true rfl, Bool.true_and] at q
          obtain ⟨x', y', hx', hy', _, ex', ey', e5⟩ := cr.node e
          cases e5
          obtain ⟨z1, g1, f1, rfl, F1⟩ := Two.right pz (take_get ex' hx')
          obtain ⟨z2, g2, f2, rfl, F2⟩ := Two.right pz (take_get ey' hy')
          have gx : (fitsOf n us r1)[x]? = some (.bl (isRun n pp r1)) := by
            rw [List.getElem?_map, ex]; rfl
          have gy : (fitsOf n us r2)[y]? = some (.bl (isRun n qq r2)) := by
            rw [List.getElem?_map, ey]; rfl
          refine ⟨_, rfl, _, rfl, a, _, 1, iv x', rfl, rfl, SqT.of ha, atI_nat (j := 1) rfl, p, _, _, _, rfl, rfl, SqL.of hp, atI_nat g1, _, rfl, b, _, 1, iv x, rfl, rfl, SqT.of hb, atI_nat (j := 1) rfl, f1, _, _, _, rfl, rfl, SqL.of F1, atI_nat gx, _, rfl, ite2 (fun z => ?_) (fun z => ?_)⟩
          · rw [z, Bool.true_and] at q
            exact ⟨_, rfl, _, rfl, a, _, 2, iv y', rfl, rfl, SqT.of ha, atI_nat (j := 2) rfl, p, _, _, _, rfl, rfl, SqL.of hp, atI_nat g2, _, rfl, b, _, 2, iv y, rfl, rfl, SqT.of hb, atI_nat (j := 2) rfl, f2, _, _, _, rfl, rfl, SqL.of F2, atI_nat gy, q⟩
          · rw [Bool.eq_false_iff.mpr z, Bool.false_and] at q
            exact q
/-! ### is_run -/
abbrev sIr : Stmt := top 27
theorem scIr : FnScope ["run", "constructs", "fits", "part", "fits_here", "construct"] ["run", "constructs"] (defScope sIr) := ⟨rfl, rfl, rfl, by decide +kernel, rfl, by decide +kernel, by decide +kernel⟩
def spIr : Sp := fun vs H Q _ => ∃ (a b : Addr) (n : Nat) (rs us : List Wf.P) (rn un : List (List Nat)) (r u : Wf.P), vs = [.ref a, .ref b] ∧ TupsAt H a rn ∧ TupsAt H b un ∧ Enc false rs rn ∧ Enc false us un ∧ (∀ v ∈ us, Good v) ∧ rs.getLast? = some r ∧ us.getLast? = some u ∧
  rn.length ≤ 100 ∧ un.length ≤ 66 ∧ ∀ H', Same H H' → Q (.bl (isRun n u r)) H'
structure R3c (P : Program) (w : World) (K : PySem.W.Frag) (mg : Str → Option Value) (base : Heap) : Prop where
  is_run_here : Ready P w K mg base 2 "is_run_here" ["part", "construct", "fits", "fits_here"] spRh
structure InvR (H : Hp) (n : Nat) (a b p : Addr) (rs us : List Wf.P) (i : Nat) (σ : L2.St) (H1 : Hp) : Prop where
  is : ∃ v3 v4 v5 zs, σ = [some (.ref a), some (.ref b), some (.ref p), v3, v4, v5] ∧ Same H H1 ∧ H1 p = some (.lst zs) ∧ Paired (FitsAt n us (cut (· = p) H1)) zs (rs.take i)
structure InvR2 (H1 : Hp) (n : Nat) (a b p g x1 : Addr) (us : List Wf.P) (r : Wf.P) (j : Nat) (σ : L2.St) (H2 : Hp) : Prop where
  is : ∃ v5, σ = [some (.ref a), some (.ref b), some (.ref p), some (.ref x1), some (.ref g), v5] ∧ Same H1 H2 ∧ H2 g = some (.lst (fitsOf n (us.take j) r))
theorem FitsAt.same {n : Nat} {us : List Wf.P} {H H' : Hp} {y : V} {r : Wf.P} (s : Same H H') (h : FitsAt n us H y r) : FitsAt n us H' y r := by
  obtain ⟨q, e, z⟩ := h
  exact ⟨q, e, s _ _ z⟩
theorem last_of {α β : Type} {R : α → β → Prop} {xs : List α} {bs : List β} {b : β} (h : Paired R xs bs) (l : bs.getLast? = some b) : ∃ xs0 x, xs = xs0 ++ [x] ∧ R x b := by
  rw [List.getLast?_eq_getElem?] at l
  obtain ⟨x, hx, q⟩ := Two.right h l
  have len := Two.len h
  have h2 : xs.getLast? = some x := by rw [List.getLast?_eq_getElem?, len]; exact hx
  obtain ⟨xs0, e⟩ := List.getLast?_eq_some_iff.mp h2
  exact ⟨xs0, x, e, q⟩
theorem ok_ir {f : Addr} {fd : FuncData} (F : Fun K "is_run" "is_run" sIr f fd) (c : Con mg) (R : R3c P w K mg base) : FnOk P w K mg base CX0 3 f fd ["run", "constructs"] spIr := by
  have S := scIr
  refine F.ok S (fun vs H Q E h => ?_) (fun cdv A outer s H vs Q E hr h => ?_)
  · obtain ⟨a, b, n, rs, us, rn, un, r, u, rfl, _⟩ := h
    rfl
  refine ⟨_, (pss_cons (ps_set (i := 2) S.nd rfl (Or.inl rfl) (pe_lst pa_nil))
    (pss_cons (ps_for PassesOwn.never rfl (pi_list (pv 0)) (pg_name (i := 3) S.nd rfl (Or.inl rfl))
      (pss_cons (ps_set (i := 4) S.nd rfl (Or.inl rfl) (pe_lst pa_nil))
      (pss_cons (ps_for PassesOwn.never rfl (pi_list (pv 1)) (pg_name (i := 5) S.nd rfl (Or.inl rfl))
        (pss_one (ps_expr (pe_bm PySem.F.plainAttrs_list PySem.F.slot_list_append PySem.F.type_list_append mt_append (pv 4) (pa_cons (pe_do R.is_run_here (hr.mono (by decide)) rfl (pa_cons (pv 3) (pa_cons (pv 5) (pa_cons (pv 2) (pa_cons (pv 4) pa_nil))))) pa_nil)))))
      (pss_one (ps_expr (pe_bm PySem.F.plainAttrs_list PySem.F.slot_list_append PySem.F.type_list_append mt_append (pv 2) (pa_cons (pv 4) pa_nil)))))))
    (pss_one (ps_ret (pe_ix ix_list (pe_ix ix_list (pv 2) (pe_un un_neg pe_int) (fun _ _ => rfl)) (pe_un un_neg pe_int) (fun _ _ => rfl)))))), ?_⟩
  obtain ⟨a, b, n, rs, us, rn, un, r, u, rfl, ⟨xs, hxs, px⟩, ⟨ys, hys, py⟩, E1, E2, good, lr, lu, lrn, lun, q⟩ := h
  have lx : xs.length = rs.length := (Two.len px).trans E1.len.symm
  have ly : ys.length = us.length := (Two.len py).trans E2.len.symm
  have lrs : rs.length ≤ 100 := by rw [E1.len]; exact lrn
  have lus : us.length ≤ 66 := by rw [E2.len]; exact lun
  refine ⟨Nat.zero_le _, fun p np => ?_⟩
  have s0 := same_new (o := .lst []) np
  refine ⟨_, rfl, a, rfl, ⟨xs, SqL.of (s0 _ _ hxs)⟩, for_list (xs := xs) (InvR H n a b p rs us) ⟨none, none, none, [], rfl, s0, upd_same, .nil⟩ (fun i σ H' hi z => ?_) ?_ ?_⟩
  · obtain ⟨_, _, _, _, _, s2, _⟩ := z
    exact SqL.of (s2 _ _ hxs)
  · rintro i x σ H1 hx ⟨v3, v4, v5, zs, rfl, s1, hp, pz⟩
    obtain ⟨d, hd, ⟨x1, rfl, hx0⟩⟩ := Two.left px hx
    obtain ⟨ri, hri, cr⟩ := E1.back hd
    have lz : zs.length < sizeLine := small1000 (by have := Two.len pz; rw [List.length_take] at this; omega)
    refine ⟨Nat.zero_le _, fun g ng => ?_⟩
    have s2 := same_new (o := .lst []) ng
    have ngp : g ≠ p := (ne_of_none hp ng).symm
    refine ⟨_, rfl, b, rfl, ⟨ys, SqL.of (s2 _ _ (s1 _ _ hys))⟩, for_list (xs := ys) (InvR2 H1 n a b p g x1 us ri) ⟨v5, rfl, s2, upd_same⟩ (fun j σ H' hj z => ?_) ?_ ?_⟩
    · obtain ⟨_, _, s3, _⟩ := z
      exact SqL.of (s3 _ _ (s1 _ _ hys))
    · rintro j y σ H2 hy ⟨v5, rfl, s3, hg⟩
      obtain ⟨e, he, ⟨y1, rfl, hy0⟩⟩ := Two.left py hy
      obtain ⟨uj, huj, cu⟩ := E2.back he
      have lg : (fitsOf n (us.take j) ri).length < sizeLine := small1000 (by rw [List.length_map, List.length_take]; omega)
      refine ⟨_, rfl, .inl ⟨rfl, _, SqL.of hg⟩, _, rfl, _, rfl, _, rfl, _, rfl, x1, y1, p, g, n, i, j, rs, us, ri, uj, d, e, zs, rfl, s3 _ _ (s1 _ _ hx0), s3 _ _ (s1 _ _ hy0), cr, cu, good uj (List.mem_of_getElem? huj), s3 _ _ hp, Two.mono pz fun _ _ z => z.same ((cut_same _ _).trans s3), hg, ?_⟩
      refine ⟨g, _, _, rfl, rfl, hg, lg, ?_⟩
      refine ⟨_, rfl, same_at s3 ng, ?_⟩
      rw [upd_same, take_next huj]
      simp [fitsOf]
    · rintro σ H2 ⟨v5, rfl, s3, hg⟩
      rw [ly, List.take_of_length_le (Nat.le_refl _)] at hg
      have hp2 := s3 _ _ hp
      refine ⟨_, rfl, .inl ⟨rfl, _, SqL.of hp2⟩, _, rfl, p, zs, _, rfl, rfl, hp2, lz, ?_⟩
      refine ⟨_, _, _, _, rfl, same_at (s1.trans s3) np, upd_same, ?_⟩
      rw [cut_upd (N := (· = p)) rfl, take_next hri]
      have m1 : Paired (FitsAt n us (cut (· = p) H2)) zs (rs.take i) := Two.mono pz fun _ _ z => z.same (same_cut s3)
      refine Two.snoc ⟨g, rfl, ?_⟩ m1
      rw [cut_out (N := (· = p)) ngp]; exact hg
  · rintro σ H1 ⟨v3, v4, v5, zs, rfl, s1, hp, pz⟩
    rw [lx, List.take_of_length_le (Nat.le_refl _)] at pz
    obtain ⟨zs0, z, rfl, g, rfl, hg⟩ := last_of pz lr
    have hg1 := (cut_some hg).2
    obtain ⟨us0, rfl⟩ := List.getLast?_eq_some_iff.mp lu
    have e : fitsOf n (us0 ++ [u]) r = fitsOf n us0 r ++ [.bl (isRun n u r)] := by simp [fitsOf]
    rw [e] at hg1
    exact ⟨_, rfl, 1, rfl, p, _, -1, .ref g, rfl, rfl, SqL.of hp, atI_last _ _, 1, rfl, g, _, -1, _, rfl, rfl, SqL.of hg1, atI_last _ _, q H1 s1⟩
end
end Pf

set_option Elab.async false
set_option linter.all false
set_option maxRecDepth 100000
set_option maxHeartbeats 2000000
/-! The service: how it lies, __init__, what each method is to tell, unrolled, selected_runs. -/
namespace Pf
open PySem PySem.Spec PyProof.Rows L2
open Wf06 (House Book)
def sF (c t k : Addr) (n : Nat) : List (Str × V) := [("constructs", .ref c), ("times", .ref t), ("costs", .ref k), ("round_count", iv n)]
structure Cl (K : PySem.W.Frag) (mg : Str → Option Value) (C : Addr) : Prop where
  cl : Cls K C
  nC : NoAttr K C "constructs"
  nT : NoAttr K C "times"
  nK : NoAttr K C "costs"
  nR : NoAttr K C "round_count"
  gC : mg "Service" = some (.ref C)
theorem lk_at {k : Str} {v : V} {r : List (Str × V)} : List.lookup k ((k, v) :: r) = some v := by
  have e : (k == k) = true := beq_self_eq_true k
  simp only [List.lookup, e]
theorem lk_by {k g : Str} {v : V} {r : List (Str × V)} (h : (k == g) = false) : List.lookup k ((g, v) :: r) = List.lookup k r := by
  simp only [List.lookup, h]
theorem pf_at {f : Str} {v x : V} {r : List (Str × V)} : putF f v ((f, x) :: r) = (f, v) :: r := if_pos rfl
theorem pf_by {f g : Str} {v x : V} {r : List (Str × V)} (h : ¬ g = f) : putF f v ((g, x) :: r) = (g, x) :: putF f v r := if_neg h
theorem sF_c (c t k : Addr) (n : Nat) : (sF c t k n).lookup ("constructs" : Str) = some (.ref c) := lk_at
theorem sF_t (c t k : Addr) (n : Nat) : (sF c t k n).lookup ("times" : Str) = some (.ref t) := (lk_by (by decide +kernel)).trans lk_at
theorem sF_k (c t k : Addr) (n : Nat) : (sF c t k n).lookup ("costs" : Str) = some (.ref k) := (lk_by (by decide +kernel)).trans ((lk_by (by decide +kernel)).trans lk_at)
theorem sF_n (c t k : Addr) (n : Nat) : (sF c t k n).lookup ("round_count" : Str) = some (iv n) := (lk_by (by decide +kernel)).trans ((lk_by (by decide +kernel)).trans ((lk_by (by decide +kernel)).trans lk_at))
theorem sF_no {m : Str} (h1 : (m == ("constructs" : Str)) = false) (h2 : (m == ("times" : Str)) = false) (h3 : (m == ("costs" : Str)) = false) (h4 : (m == ("round_count" : Str)) = false) (c t k : Addr) (n : Nat) : (sF c t k n).lookup m = none :=
  (lk_by h1).trans ((lk_by h2).trans ((lk_by h3).trans ((lk_by h4).trans rfl)))
abbrev f2 (c t : Addr) : List (Str × V) := [("constructs", .ref c), ("times", .ref t)]
abbrev f3 (c t k : Addr) : List (Str × V) := [("constructs", .ref c), ("times", .ref t), ("costs", .ref k)]
theorem put2 (c t : Addr) : putF "times" (.ref t) (putF "constructs" (.ref c) []) = f2 c t := (pf_by (by decide +kernel)).trans rfl
theorem put3 (c t k : Addr) : putF "costs" (.ref k) (putF "times" (.ref t) (putF "constructs" (.ref c) [])) = f3 c t k := by
  rw [put2]
  exact (pf_by (by decide +kernel)).trans (congrArg _ ((pf_by (by decide +kernel)).trans rfl))
theorem sF_new (c t k : Addr) (n : Nat) : putF "round_count" (iv n) (putF "costs" (.ref k) (putF "times" (.ref t) (putF "constructs" (.ref c) []))) = sF c t k n := by
  rw [put3]
  exact (pf_by (by decide +kernel)).trans (congrArg _ ((pf_by (by decide +kernel)).trans (congrArg _ ((pf_by (by decide +kernel)).trans rfl))))
theorem sF_putc (c c' t k : Addr) (n : Nat) : putF "constructs" (.ref c') (sF c t k n) = sF c' t k n := pf_at
theorem sF_putn (c t k : Addr) (n n' : Nat) : putF "round_count" (iv n') (sF c t k n) = sF c t k n' :=
  (pf_by (by decide +kernel)).trans (congrArg _ ((pf_by (by decide +kernel)).trans (congrArg _ ((pf_by (by decide +kernel)).trans (congrArg _ pf_at)))))
/-- the service at s, in the state h -/
structure Srv (C : Addr) (H : Hp) (s c t k : Addr) (h : House) : Prop where
  ins : ∃ dx, H s = some (.ins C dx (sF c t k h.book.rounds))
  cons : TupsAt H c (enc 0 h.p)
  book : Booked h.book H t k
  sound : Sound h
  tk : t ≠ k
theorem Srv.same {C : Addr} {H H' : Hp} {s c t k : Addr} {h : House} (q : Srv C H s c t k h) (e : Same H H') : Srv C H' s c t k h := by
  obtain ⟨⟨dx, i⟩, a, b, d, f⟩ := q
  exact ⟨⟨dx, e _ _ i⟩, a.same e, b.same e, d, f⟩
/-- what a call leaves: all that stood but the service's own parts, the service in its next state, a new list of the answer's numbers -/
def Done (C : Addr) (N : Addr → Prop) (s t k : Addr) (H : Hp) (h : House) (x : Wf06.Call) (Q : VK) : Prop := ∀ (H' : Hp) (c' r : Addr), (∀ b o, b ≠ s → b ≠ t → b ≠ k → H b = some o → H' b = some o) →
  Srv C (cut N H') s c' t k (Wf06.step h x).1 → H' r = some (.lst ((Wf06Neutral.out (Wf06.step h x).2).map V.int)) → H r = none → Q (.ref r) H'
/-- what N speaks of are lists -/
def OldL (N : Addr → Prop) (H : Hp) : Prop := ∀ b, N b → ∃ l, H b = some (.lst l)
theorem OldL.old {N : Addr → Prop} {H : Hp} (h : OldL N H) : Old N H := fun b z => by
  obtain ⟨l, e⟩ := h b z
  exact ⟨_, e⟩
theorem OldL.tups {N : Addr → Prop} {H : Hp} {p : Addr} {cs : List (List Nat)} (h : OldL N H) (n : ¬ N p) (T : TupsAt H p cs) : TupsAt (cut N H) p cs := by
  obtain ⟨xs, hx, px⟩ := T
  refine ⟨xs, by rw [cut_out n]; exact hx, Two.mono px fun y c q => ?_⟩
  obtain ⟨a, rfl, e⟩ := q
  refine ⟨a, rfl, ?_⟩
  rw [cut_out fun z => ?_]
  · exact e
  · obtain ⟨l, e'⟩ := h a z
    rw [e] at e'; cases e'
theorem OldL.same {N : Addr → Prop} {H H' : Hp} (h : OldL N H) (s : Same H H') : OldL N H' := fun b z => by
  obtain ⟨l, e⟩ := h b z
  exact ⟨l, s _ _ e⟩
structure MReady (P : Program) (w : World) (K : PySem.W.Frag) (mg : Str → Option Value) (base : Heap) (C : Addr) (k : Nat) (m : Str) (ps : List Str) (sp : Sp) : Prop where
  is : ∃ f fd, FnOk P w K mg base CX0 k f fd ps sp ∧ Meth K C m f ∧ L2.Binds K fd ps []
section
variable {X : Cx} {k : Nat} {C : Addr} {ps : List Str} {sp : Sp} {m : Str} {pos apos : Pos} {e o : Expr} {es : List Expr} {ta : TE} {t : TA} {pl : Sem Bool}
theorem pe_tell (M : MReady X.prog X.w X.K X.mg X.base C k m ps sp) (c : Cls X.K C) (he : PE X o ta) (hr : Room k X.A) (ha : PA X (e :: es) t)
    (hst : starEach (e :: es) X.env = (false, eval e X.env) :: starEach es X.env := by rfl) (hpl : (backTo pos (starEach es X.env)).any (·.1) = false := by rfl)
    (ht : eval (.Call (.Attribute o m apos) (e :: es) [] pos) X.env = (do
      let ov ← eval o X.env
      standAt apos.atName
      let (f, first) ← holding [ov] (getMethod ov m pl)
      callWith pos f first (backTo pos (starEach (e :: es) X.env)) (backToKw pos (keywordEach [] X.env))) := by rfl) :
    PE X (.Call (.Attribute o m apos) (e :: es) [] pos) (tMeth C m sp [] E0 ta t) := by
  obtain ⟨f, fd, F, hm, hb⟩ := M.is
  exact pe_meth he c hm F hr hb .nil pass0 ha hst hpl ht
theorem pe_tell0 (M : MReady X.prog X.w X.K X.mg X.base C k m ps sp) (c : Cls X.K C) (he : PE X o ta) (hr : Room k X.A)
    (ht : eval (.Call (.Attribute o m apos) [] [] pos) X.env = (do
      let ov ← eval o X.env
      standAt apos.atName
      let (f, first) ← holding [ov] (getMethod ov m pl)
      callWith pos f first (backTo pos (starEach [] X.env)) (backToKw pos (keywordEach [] X.env))) := by rfl) :
    PE X (.Call (.Attribute o m apos) [] [] pos) (tMeth C m sp [] E0 ta tNil) := by
  obtain ⟨f, fd, F, hm, hb⟩ := M.is
  exact pe_meth0 he c hm F hr hb .nil pass0 ht
end
section
variable {P : Program} {w : World} {K : PySem.W.Frag} {mg : Str → Option Value} {base : Heap} {C : Addr}
/-! ### __init__ -/
abbrev sIni : Stmt := inClass (top 35) 0
theorem scIni : FnScope ["self"] ["self"] (defScope sIni) := ⟨rfl, rfl, rfl, by decide +kernel, rfl, by decide +kernel, by decide +kernel⟩
def spIni (C : Addr) : Sp := fun vs H Q _ => ∃ (s dx : Addr), vs = [.ref s] ∧ H s = some (.ins C dx []) ∧
  ∀ H' c t k, Srv C H' s c t k Wf06.init → (∀ b o, b ≠ s → H b = some o → H' b = some o) → H t = none → H k = none → Q .non H'
theorem ok_ini {f : Addr} {fd : FuncData} (F : Fun K "__init__" "Service.__init__" sIni f fd) (c : Con mg) (T : Cl K mg C) : FnOk P w K mg base CX0 1 f fd ["self"] (spIni C) := by
  have S := scIni
  refine F.ok S (fun vs H Q E h => ?_) (fun cdv A outer s H vs Q E hr h => ?_)
  · obtain ⟨s, dx, rfl, _⟩ := h
    rfl
  refine ⟨_, (pss_cons (ps_fld (pv 0) (pe_lst (pa_cons (pe_tup (pa_cons (pe_con rfl c.EMPTY) pa_nil)) pa_nil)) rfl)
    (pss_cons (ps_fld (pv 0) (pe_op op_rep (pe_lst (pa_cons pe_int pa_nil)) (pe_op op_add (pe_con rfl c.LAST_STEP) pe_int)) rfl)
    (pss_cons (ps_fld (pv 0) (pe_op op_rep (pe_lst (pa_cons pe_int pa_nil)) (pe_op op_add (pe_con rfl c.LAST_STEP) pe_int)) rfl)
    (pss_one (ps_fld (pv 0) pe_int rfl))))), ?_⟩
  obtain ⟨s, dx, rfl, hs, q⟩ := h
  refine ⟨by show 1 ≤ sizeLine; decide, fun tp ntp => ⟨by show 1 ≤ sizeLine; decide, fun lc nlc => ?_⟩⟩
  have s1 := same_new (o := .tup [iv 1]) ntp
  have s2 := same_new (o := .lst [.ref tp]) nlc
  have hs1 := (s1.trans s2) _ _ hs
  have a1 : (upd (upd H tp (.tup [iv 1])) lc (.lst [.ref tp])) lc = some (.lst [.ref tp]) := upd_same
  have a2 : (upd (upd H tp (.tup [iv 1])) lc (.lst [.ref tp])) tp = some (.tup [iv 1]) := s2 _ _ upd_same
  have k0 : Same H (upd (upd H tp (.tup [iv 1])) lc (.lst [.ref tp])) := s1.trans s2
  refine ⟨_, rfl, s, C, dx, [], rfl, hs1, T.cl, T.nC, by show 0 < 1000; decide, ?_⟩
  generalize (upd (upd H tp (.tup [iv 1])) lc (.lst [.ref tp])) = H1 at hs1 a1 a2 k0
  have ne1 : lc ≠ s := ne_of a1 hs1 (by intro z; cases z)
  have ne2 : tp ≠ s := ne_of a2 hs1 (by intro z; cases z)
  have g1 : (upd H1 s (.ins C dx (putF "constructs" (.ref lc) []))) s = some (.ins C dx (putF "constructs" (.ref lc) [])) := upd_same
  have b1 : (upd H1 s (.ins C dx (putF "constructs" (.ref lc) []))) lc = some (.lst [.ref tp]) := by rw [upd_ne ne1]; exact a1
  have b2 : (upd H1 s (.ins C dx (putF "constructs" (.ref lc) []))) tp = some (.tup [iv 1]) := by rw [upd_ne ne2]; exact a2
  have k1 : ∀ b o, b ≠ s → H b = some o → (upd H1 s (.ins C dx (putF "constructs" (.ref lc) []))) b = some o := fun b o hb e => by rw [upd_ne hb]; exact k0 _ _ e
  generalize upd H1 s (.ins C dx (putF "constructs" (.ref lc) [])) = H2 at g1 b1 b2 k1
  refine ⟨by show 1 ≤ sizeLine; decide, fun l1 nl1 => ⟨_, _, rfl, rfl, l1, 6, _, rfl, rfl, upd_same, by decide, by decide, by show 1 * 6 ≤ sizeLine; decide, fun lt nlt => ?_⟩⟩
  have ft : H lt = none := by
    have n := (same_new (o := .lst [V.int 1]) nl1).free nlt
    cases e : H lt with
    | none => rfl
    | some o =>
      by_cases z : lt = s
      · rw [z, g1] at n; cases n
      · rw [k1 _ _ z e] at n; cases n
  have e6 : (List.replicate (Int.toNat 6) [V.int 1]).flatten = (List.replicate 6 1).map iv := rfl
  rw [e6]
  have t1 := same_new (o := .lst [V.int 1]) nl1
  have t2 := same_new (o := .lst ((List.replicate 6 1).map iv)) nlt
  have t12 := t1.trans t2
  have g2 := t12 _ _ g1
  have c1 := t12 _ _ b1
  have c2 := t12 _ _ b2
  have c3 : (upd (upd H2 l1 (.lst [V.int 1])) lt (.lst ((List.replicate 6 1).map iv))) lt = some (.lst ((List.replicate 6 1).map iv)) := upd_same
  have k2 : ∀ b o, b ≠ s → H b = some o → (upd (upd H2 l1 (.lst [V.int 1])) lt (.lst ((List.replicate 6 1).map iv))) b = some o := fun b o hb e => t12 _ _ (k1 b o hb e)
  refine ⟨_, rfl, s, C, dx, _, rfl, g2, T.cl, T.nT, by show 1 < 1000; decide, ?_⟩
  generalize (upd (upd H2 l1 (.lst [V.int 1])) lt (.lst ((List.replicate 6 1).map iv))) = H3 at g2 c1 c2 c3 k2
  have ne3 : lt ≠ s := ne_of c3 g2 (by intro z; cases z)
  have g3 : (upd H3 s (.ins C dx (putF "times" (.ref lt) (putF "constructs" (.ref lc) [])))) s = some (.ins C dx (putF "times" (.ref lt) (putF "constructs" (.ref lc) []))) := upd_same
  have d1 : (upd H3 s (.ins C dx (putF "times" (.ref lt) (putF "constructs" (.ref lc) [])))) lc = some (.lst [.ref tp]) := by rw [upd_ne ne1]; exact c1
  have d2 : (upd H3 s (.ins C dx (putF "times" (.ref lt) (putF "constructs" (.ref lc) [])))) tp = some (.tup [iv 1]) := by rw [upd_ne ne2]; exact c2
  have d3 : (upd H3 s (.ins C dx (putF "times" (.ref lt) (putF "constructs" (.ref lc) [])))) lt = some (.lst ((List.replicate 6 1).map iv)) := by rw [upd_ne ne3]; exact c3
  have k3 : ∀ b o, b ≠ s → H b = some o → (upd H3 s (.ins C dx (putF "times" (.ref lt) (putF "constructs" (.ref lc) [])))) b = some o := fun b o hb e => by rw [upd_ne hb]; exact k2 _ _ hb e
  have len3 : (putF "times" (.ref lt) (putF "constructs" (.ref lc) [])).length < 1000 := by rw [put2]; show 2 < 1000; decide
  have len4 : ∀ v : Addr, (putF "costs" (.ref v) (putF "times" (.ref lt) (putF "constructs" (.ref lc) []))).length < 1000 := fun v => by rw [put3]; show 3 < 1000; decide
  generalize upd H3 s (.ins C dx (putF "times" (.ref lt) (putF "constructs" (.ref lc) []))) = H4 at g3 d1 d2 d3 k3
  refine ⟨by show 1 ≤ sizeLine; decide, fun l2 nl2 => ⟨_, _, rfl, rfl, l2, 6, _, rfl, rfl, upd_same, by decide, by decide, by show 1 * 6 ≤ sizeLine; decide, fun lk nlk => ?_⟩⟩
  rw [e6]
  have fk : H lk = none := by
    have n := (same_new (o := .lst [V.int 1]) nl2).free nlk
    cases e : H lk with
    | none => rfl
    | some o =>
      by_cases z : lk = s
      · rw [z, g3] at n; cases n
      · rw [k3 _ _ z e] at n; cases n
  have t3 := same_new (o := .lst [V.int 1]) nl2
  have t4 := same_new (o := .lst ((List.replicate 6 1).map iv)) nlk
  have t34 := t3.trans t4
  have g4 := t34 _ _ g3
  have e1 := t34 _ _ d1
  have e2 := t34 _ _ d2
  have e3 := t34 _ _ d3
  have tk : lt ≠ lk := ne_of_none (t3 _ _ d3) nlk
  have e4 : (upd (upd H4 l2 (.lst [V.int 1])) lk (.lst ((List.replicate 6 1).map iv))) lk = some (.lst ((List.replicate 6 1).map iv)) := upd_same
  have k4 : ∀ b o, b ≠ s → H b = some o → (upd (upd H4 l2 (.lst [V.int 1])) lk (.lst ((List.replicate 6 1).map iv))) b = some o := fun b o hb e => t34 _ _ (k3 b o hb e)
  refine ⟨_, rfl, s, C, dx, _, rfl, g4, T.cl, T.nK, len3, ?_⟩
  generalize (upd (upd H4 l2 (.lst [V.int 1])) lk (.lst ((List.replicate 6 1).map iv))) = H5 at g4 e1 e2 e3 e4 k4
  have ne4 : lk ≠ s := ne_of e4 g4 (by intro z; cases z)
  refine ⟨_, rfl, s, C, dx, _, rfl, upd_same, T.cl, T.nR, len4 _, ?_⟩
  rw [upd_upd]
  have fin := sF_new lc lt lk 2
  refine q _ lc lt lk ⟨⟨dx, ?_⟩, ⟨[.ref tp], ?_, .cons ⟨tp, rfl, ?_⟩ .nil⟩, ⟨?_, ?_, rfl, rfl⟩, sound_init, tk⟩ (fun b o hb e => ?_) ft fk
  · rw [upd_same]
    exact congrArg (fun z => some (HO.ins C dx z)) fin
  · rw [upd_ne ne1]; exact e1
  · rw [upd_ne ne2]; exact e2
  · rw [upd_ne ne3]; exact e3
  · rw [upd_ne ne4]; exact e4
  · rw [upd_ne hb]; exact k4 b o hb e
end
end Pf

set_option Elab.async false
set_option linter.all false
set_option maxRecDepth 100000
set_option maxHeartbeats 2000000
/-! The service's methods: process, step, rounds; unrolled, selected_runs. -/
namespace Pf
open PySem PySem.Spec PyProof.Rows L2
open Wf06 (House Book)
section
variable {P : Program} {w : World} {K : PySem.W.Frag} {mg : Str → Option Value} {base : Heap} {C : Addr}
/-! ### process -/
abbrev sPs : Stmt := inClass (top 35) 1
theorem scPs : FnScope ["self", "numbers", "constructs"] ["self", "numbers"] (defScope sPs) := ⟨rfl, rfl, rfl, by decide +kernel, rfl, by decide +kernel, by decide +kernel⟩
def spPs (C : Addr) : Sp := fun vs H Q _ => ∃ (N : Addr → Prop) (s c t k : Addr) (h : House) (a : Addr) (ns : List Nat), vs = [.ref s, .ref a] ∧ OldL N H ∧ Srv C (cut N H) s c t k h ∧ H a = some (.lst (ns.map iv)) ∧ ns.length ≤ 100 ∧ Done C N s t k H h (.process ns) Q
structure RP (P : Program) (w : World) (K : PySem.W.Frag) (mg : Str → Option Value) (base : Heap) : Prop where
  constructs_of : Ready P w K mg base 3 "constructs_of" ["numbers"] spOf
  is_process : Ready P w K mg base 3 "is_process" ["constructs"] spPr
theorem ints_V (l : List Nat) : (l.map fun (n : Nat) => (n : Int)).map V.int = l.map iv := by rw [List.map_map]; rfl
theorem out_ok (v : Int) : (Wf06Neutral.out (Wf06.ok v)).map V.int = [V.int v] := rfl
theorem process_bad {h : House} {ns : List Nat} (no : ∀ x, Wf06.run? ns = some x → ¬ (x.right = true ∧ x.size ≤ 11)) : Wf06.step h (.process ns) = (h, Wf06.ok (-1)) := by
  rw [process_is]
  cases e : Wf06.run? ns with
  | none => rfl
  | some x => exact if_neg (no x e)
theorem process_ok {h : House} {ns : List Nat} {x : Wf.P} (e : Wf06.run? ns = some x) (y : x.right = true ∧ x.size ≤ 11) : Wf06.step h (.process ns) = ({ h with p := x }, Wf06.ok (x.size : Nat)) := by
  rw [process_is, e]
  exact if_pos y
theorem ok_ps {f : Addr} {fd : FuncData} (F : Fun K "process" "Service.process" sPs f fd) (c : Con mg) (T : Cl K mg C) (R : RP P w K mg base) : FnOk P w K mg base CX0 4 f fd ["self", "numbers"] (spPs C) := by
  have S := scPs
  refine F.ok S (fun vs H Q E h => ?_) (fun cdv A outer s H vs Q E hr h => ?_)
  · obtain ⟨N, s, c, t, k, h, a, ns, rfl, _⟩ := h
    rfl
  refine ⟨_, (pss_cons (ps_set (i := 2) S.nd rfl (Or.inl rfl) (pe_do R.constructs_of (hr.mono (by decide)) rfl (pa_cons (pv 1) pa_nil)))
    (pss_cons (ps_if (PW.pt (pw_or (pt_cmpR op_isN (pv 2) pe_non (nomark _)) (pw_or1 (pt_not (pt_val (pe_do R.is_process (hr.mono (by decide)) rfl (pa_cons (pv 2) pa_nil))))))) (pss_one (ps_ret (pe_lst (pa_cons (pe_un un_neg pe_int) pa_nil)))) pss_nil)
    (pss_cons (ps_fld (pv 0) (pv 2) rfl)
    (pss_one (ps_ret (pe_lst (pa_cons (pe_callB call_len_seq (by rfl) c.len PySem.boot_len (pa_cons (pv 2) pa_nil)) pa_nil))))))), ?_⟩
  obtain ⟨N, s, cc, t, k, h, a, ns, rfl, old, V0, ha, hn, q⟩ := h
  unfold Done at q
  have bad : ∀ H1 r, Same H H1 → H1 r = none → (∀ x, Wf06.run? ns = some x → ¬ (x.right = true ∧ x.size ≤ 11)) → Q (.ref r) (upd H1 r (.lst [V.int (-1)])) := fun H1 r s1 nr no => by
    rw [process_bad no] at q
    have s2 := s1.trans (same_new (o := .lst [V.int (-1)]) nr)
    refine q _ cc r (fun b o _ _ _ e => s2 _ _ e) (V0.same (same_cut s2)) ?_ (s1.free nr)
    rw [upd_same]; rfl
  refine ⟨_, rfl, a, ns, rfl, ha, hn, fun hw H1 s1 => ?_, fun x hx hz H1 p s1 np T1 => ?_⟩
  · refine ⟨_, rfl, rfl, _, rfl, ite2 (fun _ => ?_) (fun z => absurd (decide_eq_true rfl) z)⟩
    exact ⟨_, rfl, by show 1 ≤ sizeLine; decide, fun r nr => bad H1 r s1 nr (fun x e => by rw [hw] at e; cases e)⟩
  · refine ⟨_, rfl, rfl, _, rfl, ite2 (fun z => absurd (of_decide_eq_true z) (by intro z; cases z)) (fun _ => ?_)⟩
    refine ⟨_, rfl, p, x, rfl, T1, hz, fun H2 s2 => ⟨_, rfl, ite2 (fun z => ?_) (fun z => ?_)⟩⟩
    · refine ⟨_, rfl, by show 1 ≤ sizeLine; decide, fun r nr => bad H2 r (s1.trans s2) nr (fun y e z' => ?_)⟩
      rw [hx] at e
      cases e
      rw [z'.1, decide_eq_true z'.2] at z
      cases z
    · have z : (x.right && decide (x.size ≤ 11)) = true := by
        cases e : (x.right && decide (x.size ≤ 11)) with
        | true => rfl
        | false => rw [e] at z; exact absurd rfl z
      rw [Bool.and_eq_true, decide_eq_true_eq] at z
      rw [process_ok hx z] at q
      obtain ⟨⟨dx, hs⟩, Tc, B, so, tk⟩ := V0
      obtain ⟨nN, hs0⟩ := cut_some hs
      have s12 := s1.trans s2
      have hs2 := s12 _ _ hs0
      have T2 := T1.same s2
      have ps : p ≠ s := (ne_of_none hs0 np).symm
      refine ⟨_, rfl, _, rfl, s, C, dx, _, rfl, hs2, T.cl, T.nC, by show 4 < 1000; decide, ?_⟩
      rw [sF_putc]
      obtain ⟨xs, hxs, px⟩ := id T2
      have lx : xs.length = x.size := (Two.len px).trans (enc_len x 0)
      have hp3 : (upd H2 s (.ins C dx (sF p t k h.book.rounds))) p = some (.lst xs) := by rw [upd_ne ps]; exact hxs
      refine ⟨_, rfl, p, xs, rfl, .inl (SqL.of hp3), by show 1 ≤ sizeLine; decide, fun r nr => ?_⟩
      have s3 := same_new (o := .lst [V.int (xs.length : Int)]) nr
      have k3 : ∀ b o, b ≠ s → H2 b = some o → (upd (upd H2 s (.ins C dx (sF p t k h.book.rounds))) r (.lst [V.int (xs.length : Int)])) b = some o := fun b o hb e => s3 _ _ (by rw [upd_ne hb]; exact e)
      have nNp : ¬ N p := old.old.new np
      have oldc : ∀ b o, b ≠ s → cut N H b = some o → cut N (upd (upd H2 s (.ins C dx (sF p t k h.book.rounds))) r (.lst [V.int (xs.length : Int)])) b = some o := fun b o hb e => by
        obtain ⟨n1, e1⟩ := cut_some e
        rw [cut_out n1]
        exact k3 _ _ hb (s12 _ _ e1)
      have ht : t ≠ s := ne_of B.times hs (by intro z; cases z)
      have hk : k ≠ s := ne_of B.costs hs (by intro z; cases z)
      refine q _ p r (fun b o hb _ _ e => k3 b o hb (s12 _ _ e)) ⟨⟨dx, ?_⟩, ?_, ⟨oldc _ _ ht B.times, oldc _ _ hk B.costs, B.lt, B.lc⟩, ⟨z.1, z.2, so.times, so.costs, so.least, so.most⟩, tk⟩ ?_ ?_
      · rw [cut_out nN]
        exact s3 _ _ upd_same
      · have T3 : TupsAt (upd (upd H2 s (.ins C dx (sF p t k h.book.rounds))) r (.lst [V.int (xs.length : Int)])) p (enc 0 x) := by
          refine ⟨xs, k3 _ _ ps hxs, Two.mono px fun y c w => ?_⟩
          obtain ⟨b, rfl, e⟩ := w
          exact ⟨b, rfl, k3 _ _ (ne_of e hs2 (by intro z; cases z)) e⟩
        have old3 : OldL N (upd (upd H2 s (.ins C dx (sF p t k h.book.rounds))) r (.lst [V.int (xs.length : Int)])) := fun b z => by
          obtain ⟨l, e⟩ := old b z
          exact ⟨l, k3 _ _ (ne_of e hs0 (by intro z; cases z)) (s12 _ _ e)⟩
        exact old3.tups nNp T3
      · rw [upd_same, lx]; rfl
      · have nr2 : H2 r = none := by
          by_cases e : r = s
          · rw [e, upd_same] at nr; cases nr
          · rw [upd_ne e] at nr; exact nr
        exact s12.free nr2
/-! ### rounds -/
abbrev sRo : Stmt := inClass (top 35) 3
theorem scRo : FnScope ["self", "n"] ["self", "n"] (defScope sRo) := ⟨rfl, rfl, rfl, by decide +kernel, rfl, by decide +kernel, by decide +kernel⟩
def spRo (C : Addr) : Sp := fun vs H Q _ => ∃ (N : Addr → Prop) (s c t k : Addr) (h : House) (n : Nat), vs = [.ref s, iv n] ∧ Srv C (cut N H) s c t k h ∧ Done C N s t k H h (.rounds n) Q
theorem ok_ro {f : Addr} {fd : FuncData} (F : Fun K "rounds" "Service.rounds" sRo f fd) (c : Con mg) (T : Cl K mg C) : FnOk P w K mg base CX0 1 f fd ["self", "n"] (spRo C) := by
  have S := scRo
  refine F.ok S (fun vs H Q E h => ?_) (fun cdv A outer s H vs Q E hr h => ?_)
  · obtain ⟨N, s, c, t, k, h, n, rfl, _⟩ := h
    rfl
  refine ⟨_, (pss_cons (ps_if (PW.pt (pw_or (pt_cmpR op_lt (pv 1) pe_int (nomark _)) (pw_or1 (pt_cmpR op_gt (pv 1) (pe_con rfl c.MOST_ROUNDS) (nomark _))))) (pss_one (ps_ret (pe_lst (pa_cons (pe_un un_neg pe_int) pa_nil)))) pss_nil)
    (pss_cons (ps_fld (pv 0) (pv 1) rfl)
    (pss_one (ps_ret (pe_lst (pa_cons pe_int pa_nil)))))), ?_⟩
  obtain ⟨N, s, cc, t, k, h, n, rfl, V0, q⟩ := h
  unfold Done at q
  have bad : (n = 0 ∨ 3 < n) → ∀ r, H r = none → Q (.ref r) (upd H r (.lst [V.int (-1)])) := fun no r nr => by
    have e : Wf06.step h (.rounds n) = (h, Wf06.ok (-1)) := if_pos no
    rw [e] at q
    have s2 := same_new (o := .lst [V.int (-1)]) nr
    refine q _ cc r (fun b o _ _ _ e => s2 _ _ e) (V0.same (same_cut s2)) ?_ nr
    rw [upd_same]; rfl
  refine ⟨_, rfl, _, _, rfl, rfl, _, rfl, ite2 (fun h1 => ?_) (fun h1 => ?_)⟩
  · have h1 : (n : Int) < 1 := of_decide_eq_true h1
    exact ⟨_, rfl, by show 1 ≤ sizeLine; decide, bad (.inl (by omega))⟩
  · have h1 : ¬ (n : Int) < 1 := fun z => h1 (decide_eq_true z)
    refine ⟨_, rfl, _, _, rfl, rfl, _, rfl, ite2 (fun h2 => ?_) (fun h2 => ?_)⟩
    · have h2 : (3 : Int) < (n : Int) := of_decide_eq_true h2
      exact ⟨_, rfl, by show 1 ≤ sizeLine; decide, bad (.inr (by omega))⟩
    · have h2 : ¬ (3 : Int) < (n : Int) := fun z => h2 (decide_eq_true z)
      have e : Wf06.step h (.rounds n) = ({ h with book := { h.book with rounds := n } }, Wf06.ok 0) := if_neg (by show ¬ (n = 0 ∨ 3 < n); omega)
      rw [e] at q
      obtain ⟨⟨dx, hs⟩, Tc, B, so, tk⟩ := V0
      obtain ⟨nN, hs0⟩ := cut_some hs
      refine ⟨_, rfl, _, rfl, s, C, dx, _, rfl, hs0, T.cl, T.nR, by show 4 < 1000; decide, ?_⟩
      rw [sF_putn]
      refine ⟨by show 1 ≤ sizeLine; decide, fun r nr => ?_⟩
      have s3 := same_new (o := .lst [V.int 0]) nr
      have k3 : ∀ b o, b ≠ s → H b = some o → (upd (upd H s (.ins C dx (sF cc t k n))) r (.lst [V.int 0])) b = some o := fun b o hb e => s3 _ _ (by rw [upd_ne hb]; exact e)
      have oldc : ∀ b o, b ≠ s → cut N H b = some o → cut N (upd (upd H s (.ins C dx (sF cc t k n))) r (.lst [V.int 0])) b = some o := fun b o hb e => by
        obtain ⟨n1, e1⟩ := cut_some e
        rw [cut_out n1]
        exact k3 _ _ hb e1
      have ht : t ≠ s := ne_of B.times hs (by intro z; cases z)
      have hk : k ≠ s := ne_of B.costs hs (by intro z; cases z)
      refine q _ cc r (fun b o hb _ _ e => k3 b o hb e) ⟨⟨dx, ?_⟩, ?_, ⟨oldc _ _ ht B.times, oldc _ _ hk B.costs, B.lt, B.lc⟩, ⟨so.right, so.size, so.times, so.costs, ?_, ?_⟩, tk⟩ ?_ ?_
      · rw [cut_out nN]
        exact s3 _ _ upd_same
      · obtain ⟨xs, hxs, px⟩ := Tc
        refine ⟨xs, oldc _ _ (ne_of hxs hs (by intro z; cases z)) hxs, Two.mono px fun y c w => ?_⟩
        obtain ⟨b, rfl, e⟩ := w
        exact ⟨b, rfl, oldc _ _ (ne_of e hs (by intro z; cases z)) e⟩
      · show 1 ≤ n; omega
      · show n ≤ 3; omega
      · rw [upd_same]; rfl
      · by_cases e : r = s
        · rw [e, upd_same] at nr; cases nr
        · rw [upd_ne e] at nr; exact nr
end
end Pf

set_option Elab.async false
set_option linter.all false
set_option maxRecDepth 100000
set_option maxHeartbeats 2000000
/-! The service's methods: step; unrolled, selected_runs. -/
namespace Pf
open PySem PySem.Spec PyProof.Rows L2
open Wf06 (House Book)
theorem ixN_nat {n j : Nat} (h : j < n) : ixN n (j : Int) = some j := by
  unfold ixN
  rw [if_pos (by omega), if_pos (by omega), Int.toNat_natCast]
section
variable {P : Program} {w : World} {K : PySem.W.Frag} {mg : Str → Option Value} {base : Heap} {C : Addr}
/-! ### step -/
abbrev sSt : Stmt := inClass (top 35) 2
theorem scSt : FnScope ["self", "step", "time", "cost"] ["self", "step", "time", "cost"] (defScope sSt) := ⟨rfl, rfl, rfl, by decide +kernel, rfl, by decide +kernel, by decide +kernel⟩
def spSt (C : Addr) : Sp := fun vs H Q _ => ∃ (N : Addr → Prop) (s c t k : Addr) (h : House) (a x y : Nat), vs = [.ref s, iv a, iv x, iv y] ∧ Srv C (cut N H) s c t k h ∧ Done C N s t k H h (.step a x y) Q
theorem ok_st {f : Addr} {fd : FuncData} (F : Fun K "step" "Service.step" sSt f fd) (c : Con mg) (T : Cl K mg C) : FnOk P w K mg base CX0 1 f fd ["self", "step", "time", "cost"] (spSt C) := by
  have S := scSt
  refine F.ok S (fun vs H Q E h => ?_) (fun cdv A outer s H vs Q E hr h => ?_)
  · obtain ⟨N, s, c, t, k, h, a, x, y, rfl, _⟩ := h
    rfl
  refine ⟨_, (pss_cons (ps_if (PW.pt (pw_or (pt_cmpR op_gt (pv 1) (pe_con rfl c.LAST_STEP) (nomark _)) (pw_or (pt_cmpR op_gt (pv 2) (pe_con rfl c.GREATEST_AMOUNT) (nomark _)) (pw_or1 (pt_cmpR op_gt (pv 3) (pe_con rfl c.GREATEST_AMOUNT) (nomark _)))))) (pss_one (ps_ret (pe_lst (pa_cons (pe_un un_neg pe_int) pa_nil)))) pss_nil)
    (pss_cons (ps_asg (pv 2) (pg_sub (pe_fld (pv 0) rfl) (pv 1) set_list))
    (pss_cons (ps_asg (pv 3) (pg_sub (pe_fld (pv 0) rfl) (pv 1) set_list))
    (pss_one (ps_ret (pe_lst (pa_cons pe_int pa_nil))))))), ?_⟩
  obtain ⟨N, s, cc, t, k, h, a, x, y, rfl, V0, q⟩ := h
  unfold Done at q
  have bad : (6 ≤ a ∨ 100 < x ∨ 100 < y) → ∀ r, H r = none → Q (.ref r) (upd H r (.lst [V.int (-1)])) := fun no r nr => by
    have e : Wf06.step h (.step a x y) = (h, Wf06.ok (-1)) := if_pos no
    rw [e] at q
    have s2 := same_new (o := .lst [V.int (-1)]) nr
    refine q _ cc r (fun b o _ _ _ e => s2 _ _ e) (V0.same (same_cut s2)) ?_ nr
    rw [upd_same]; rfl
  refine ⟨_, rfl, _, _, rfl, rfl, _, rfl, ite2 (fun h1 => ?_) (fun h1 => ?_)⟩
  · have h1 : (5 : Int) < (a : Int) := of_decide_eq_true h1
    exact ⟨_, rfl, by show 1 ≤ sizeLine; decide, bad (.inl (by omega))⟩
  have h1 : ¬ (5 : Int) < (a : Int) := fun z => h1 (decide_eq_true z)
  refine ⟨_, rfl, _, _, rfl, rfl, _, rfl, ite2 (fun h2 => ?_) (fun h2 => ?_)⟩
  · have h2 : (100 : Int) < (x : Int) := of_decide_eq_true h2
    exact ⟨_, rfl, by show 1 ≤ sizeLine; decide, bad (.inr (.inl (by omega)))⟩
  have h2 : ¬ (100 : Int) < (x : Int) := fun z => h2 (decide_eq_true z)
  refine ⟨_, rfl, _, _, rfl, rfl, _, rfl, ite2 (fun h3 => ?_) (fun h3 => ?_)⟩
  · have h3 : (100 : Int) < (y : Int) := of_decide_eq_true h3
    exact ⟨_, rfl, by show 1 ≤ sizeLine; decide, bad (.inr (.inr (by omega)))⟩
  have h3 : ¬ (100 : Int) < (y : Int) := fun z => h3 (decide_eq_true z)
  have e : Wf06.step h (.step a x y) = ({ h with book := { h.book with times := h.book.times.set a x, costs := h.book.costs.set a y } }, Wf06.ok 0) := if_neg (by show ¬ (6 ≤ a ∨ 100 < x ∨ 100 < y); omega)
  rw [e] at q
  obtain ⟨⟨dx, hs⟩, Tc, B, so, tk⟩ := V0
  obtain ⟨nN, hs0⟩ := cut_some hs
  obtain ⟨nt, ht0⟩ := cut_some B.times
  obtain ⟨nk, hk0⟩ := cut_some B.costs
  have st : s ≠ t := ne_of hs0 ht0 (by intro z; cases z)
  have sk : s ≠ k := ne_of hs0 hk0 (by intro z; cases z)
  have ia : ixN (h.book.times.map iv).length (a : Int) = some a := ixN_nat (by rw [List.length_map, B.lt]; omega)
  have ib : ixN (h.book.costs.map iv).length (a : Int) = some a := ixN_nat (by rw [List.length_map, B.lc]; omega)
  refine ⟨_, rfl, _, rfl, s, C, dx, _, _, rfl, hs0, T.cl, T.nT, sF_t _ _ _ _, _, rfl, t, _, _, a, rfl, rfl, ht0, ia, ?_⟩
  have et : (h.book.times.map iv).set a (iv x) = (h.book.times.set a x).map iv := (List.map_set ..).symm
  have ek : (h.book.costs.map iv).set a (iv y) = (h.book.costs.set a y).map iv := (List.map_set ..).symm
  rw [et]
  have hs1 : (upd H t (.lst ((h.book.times.set a x).map iv))) s = some (.ins C dx (sF cc t k h.book.rounds)) := by rw [upd_ne st]; exact hs0
  have hk1 : (upd H t (.lst ((h.book.times.set a x).map iv))) k = some (.lst (h.book.costs.map iv)) := by rw [upd_ne (Ne.symm tk)]; exact hk0
  refine ⟨_, rfl, _, rfl, s, C, dx, _, _, rfl, hs1, T.cl, T.nK, sF_k _ _ _ _, _, rfl, k, _, _, a, rfl, rfl, hk1, ib, ?_⟩
  rw [ek]
  refine ⟨by show 1 ≤ sizeLine; decide, fun r nr => ?_⟩
  have s3 := same_new (o := .lst [V.int 0]) nr
  have k3 : ∀ b o, b ≠ t → b ≠ k → H b = some o → (upd (upd (upd H t (.lst ((h.book.times.set a x).map iv))) k (.lst ((h.book.costs.set a y).map iv))) r (.lst [V.int 0])) b = some o := fun b o hb hb' e => s3 _ _ (by rw [upd_ne hb', upd_ne hb]; exact e)
  have oldc : ∀ b o, b ≠ t → b ≠ k → cut N H b = some o → cut N (upd (upd (upd H t (.lst ((h.book.times.set a x).map iv))) k (.lst ((h.book.costs.set a y).map iv))) r (.lst [V.int 0])) b = some o := fun b o hb hb' e => by
    obtain ⟨n1, e1⟩ := cut_some e
    rw [cut_out n1]
    exact k3 _ _ hb hb' e1
  have ct : cc ≠ t ∨ cc = t := by
    by_cases z : cc = t
    · exact .inr z
    · exact .inl z
  obtain ⟨xs, hxs, px⟩ := Tc
  have tup_ne : ∀ {b : Addr} {c : List Nat} {l : List V} {p : Addr}, cut N H b = some (.tup (c.map iv)) → cut N H p = some (.lst l) → b ≠ p := fun e e' => ne_of e e' (by intro z; cases z)
  -- the list of constructs is neither of the two lists: it holds references, they hold numbers
  have cne : ∀ {p : Addr} {l : List Nat}, cut N H p = some (.lst (l.map iv)) → l.length = 6 → cc ≠ p := fun {p l} e e6 z => by
    subst z
    rw [hxs] at e
    have e := Option.some.inj e
    injection e with e
    obtain ⟨n, l', rfl⟩ : ∃ n l', l = n :: l' := by
      cases l with
      | nil => cases e6
      | cons n l' => exact ⟨n, l', rfl⟩
    subst e
    generalize enc 0 h.p = ee at px
    cases px with
    | cons w _ =>
      obtain ⟨_, z, _⟩ := w
      cases z
  have c1 := cne B.times so.times
  have c2 := cne B.costs so.costs
  refine q _ cc r (fun b o _ hb hb' e => k3 b o hb hb' e) ⟨⟨dx, oldc _ _ st sk hs⟩, ⟨xs, oldc _ _ c1 c2 hxs, Two.mono px fun y c w => ?_⟩, ⟨?_, ?_, ?_, ?_⟩, ⟨so.right, so.size, ?_, ?_, so.least, so.most⟩, tk⟩ ?_ ?_
  · obtain ⟨b, rfl, e⟩ := w
    exact ⟨b, rfl, oldc _ _ (tup_ne e B.times) (tup_ne e B.costs) e⟩
  · rw [cut_out nt]
    refine s3 _ _ ?_
    rw [upd_ne tk]; exact upd_same
  · rw [cut_out nk]
    exact s3 _ _ upd_same
  · show (h.book.times.set a x).length = 6
    rw [List.length_set]; exact so.times
  · show (h.book.costs.set a y).length = 6
    rw [List.length_set]; exact so.costs
  · show (h.book.times.set a x).length = 6
    rw [List.length_set]; exact so.times
  · show (h.book.costs.set a y).length = 6
    rw [List.length_set]; exact so.costs
  · rw [upd_same]; rfl
  · by_cases e : r = k
    · rw [e, upd_same] at nr; cases nr
    · rw [upd_ne e] at nr
      by_cases e : r = t
      · rw [e, upd_same] at nr; cases nr
      · rw [upd_ne e] at nr; exact nr
/-! ### unrolled -/
abbrev sUr : Stmt := inClass (top 35) 4
theorem scUr : FnScope ["self"] ["self"] (defScope sUr) := ⟨rfl, rfl, rfl, by decide +kernel, rfl, by decide +kernel, by decide +kernel⟩
def spUr (C : Addr) : Sp := fun vs H Q _ => ∃ (s c t k : Addr) (h : House), vs = [.ref s] ∧ Srv C H s c t k h ∧ ∀ H' p us un, Same H H' → H p = none → TupsAt H' p un → Flats h.book.rounds h.p us un → Q (.ref p) H'
structure RU (P : Program) (w : World) (K : PySem.W.Frag) (mg : Str → Option Value) (base : Heap) : Prop where
  without_loops : Ready P w K mg base 2 "without_loops" ["constructs", "rounds"] spWl
theorem ok_ur {f : Addr} {fd : FuncData} (F : Fun K "unrolled" "Service.unrolled" sUr f fd) (c : Con mg) (T : Cl K mg C) (R : RU P w K mg base) : FnOk P w K mg base CX0 3 f fd ["self"] (spUr C) := by
  have S := scUr
  refine F.ok S (fun vs H Q E h => ?_) (fun cdv A outer s H vs Q E hr h => ?_)
  · obtain ⟨s, c, t, k, h, rfl, _⟩ := h
    rfl
  refine ⟨_, (pss_one (ps_ret (pe_do R.without_loops (hr.mono (by decide)) rfl (pa_cons (pe_fld (pv 0) rfl) (pa_cons (pe_fld (pv 0) rfl) pa_nil))))), ?_⟩
  obtain ⟨s, cc, t, k, h, rfl, V0, q⟩ := h
  obtain ⟨⟨dx, hs⟩, Tc, B, so, tk⟩ := V0
  exact ⟨_, rfl, s, C, dx, _, _, rfl, hs, T.cl, T.nC, sF_c _ _ _ _, _, rfl, s, C, dx, _, _, rfl, hs, T.cl, T.nR, sF_n _ _ _ _, cc, h.p, h.book.rounds, rfl, Tc, so.size, so.most, q⟩
/-! ### selected_runs -/
abbrev sSe : Stmt := inClass (top 35) 5
theorem scSe : FnScope ["self"] ["self"] (defScope sSe) := ⟨rfl, rfl, rfl, by decide +kernel, rfl, by decide +kernel, by decide +kernel⟩
def spSe (C : Addr) : Sp := fun vs H Q _ => ∃ (s c t k : Addr) (h : House), vs = [.ref s] ∧ Srv C H s c t k h ∧ ∀ H' p, Same H H' → FrontAt H' p (h.book.front h.p) → Q (.ref p) H'
structure RF (P : Program) (w : World) (K : PySem.W.Frag) (mg : Str → Option Value) (base : Heap) : Prop where
  front_of : Ready P w K mg base 6 "front_of" ["constructs", "times", "costs"] spFr
structure MU (P : Program) (w : World) (K : PySem.W.Frag) (mg : Str → Option Value) (base : Heap) (C : Addr) : Prop where
  unrolled : MReady P w K mg base C 3 "unrolled" ["self"] (spUr C)
theorem ok_se {f : Addr} {fd : FuncData} (F : Fun K "selected_runs" "Service.selected_runs" sSe f fd) (c : Con mg) (T : Cl K mg C) (R : RF P w K mg base) (M : MU P w K mg base C) : FnOk P w K mg base CX0 7 f fd ["self"] (spSe C) := by
  have S := scSe
  refine F.ok S (fun vs H Q E h => ?_) (fun cdv A outer s H vs Q E hr h => ?_)
  · obtain ⟨s, c, t, k, h, rfl, _⟩ := h
    rfl
  refine ⟨_, (pss_one (ps_ret (pe_do R.front_of (hr.mono (by decide)) rfl (pa_cons (pe_tell0 M.unrolled T.cl (pv 0) (hr.mono (by decide))) (pa_cons (pe_fld (pv 0) rfl) (pa_cons (pe_fld (pv 0) rfl) pa_nil)))))), ?_⟩
  obtain ⟨s, cc, t, k, h, rfl, V0, q⟩ := h
  obtain ⟨dx, hs⟩ := V0.ins
  refine ⟨_, rfl, s, dx, _, rfl, hs, sF_no (by decide +kernel) (by decide +kernel) (by decide +kernel) (by decide +kernel) _ _ _ _, s, cc, t, k, h, rfl, V0, fun H1 p us un s1 np T1 FL => ?_⟩
  have V1 := V0.same s1
  have hs1 := s1 _ _ hs
  refine ⟨_, rfl, s, C, dx, _, _, rfl, hs1, T.cl, T.nT, sF_t _ _ _ _, _, rfl, s, C, dx, _, _, rfl, hs1, T.cl, T.nK, sF_k _ _ _ _, ?_⟩
  refine ⟨h.book, p, t, k, us, un, _, rfl, T1, FL.enc, fun v hv => ⟨good_piece V0.sound.right (FL.part v hv), fine_piece V0.sound.size (FL.part v hv)⟩, FL.last, FL.size, V1.book, fun H' p' s2 TF => ?_⟩
  rw [front_unroll] at TF
  exact q H' p' (s1.trans s2) TF
end
end Pf

set_option Elab.async false
set_option linter.all false
set_option maxRecDepth 100000
set_option maxHeartbeats 2000000
/-! The service's methods: front, by, soonest. -/
namespace Pf
open PySem PySem.Spec PyProof.Rows L2
open Wf06 (House Book Point)
theorem front_small {h : House} (so : Sound h) : (h.book.front h.p).length ≤ 1024 ∧ ∀ x ∈ h.book.front h.p, x.r.row.length ≤ 22 := by
  obtain ⟨h1, h2⟩ := small so.size
  exact ⟨Nat.le_trans (front_len _ _) h1, fun x m => Nat.le_trans (front_row _ _ x m) h2⟩
section
variable {P : Program} {w : World} {K : PySem.W.Frag} {mg : Str → Option Value} {base : Heap} {C : Addr}
structure MS (P : Program) (w : World) (K : PySem.W.Frag) (mg : Str → Option Value) (base : Heap) (C : Addr) : Prop where
  selected_runs : MReady P w K mg base C 7 "selected_runs" ["self"] (spSe C)
/-- a call that changes nothing -/
theorem done_same {N : Addr → Prop} {s c t k : Addr} {H H' : Hp} {h : House} {x : Wf06.Call} {Q : VK} (q : Done C N s t k H h x Q) (V0 : Srv C (cut N H) s c t k h) (e : (Wf06.step h x).1 = h) (s1 : Same H H') {r : Addr} {l : List V} (hr : H' r = some (.lst l))
    (el : l = (Wf06Neutral.out (Wf06.step h x).2).map V.int) (nr : H r = none) : Q (.ref r) H' := by
  refine q H' c r (fun b o _ _ _ e => s1 _ _ e) ?_ (by rw [hr, el]) nr
  rw [e]
  exact V0.same (same_cut s1)
/-! ### front -/
abbrev sFn : Stmt := inClass (top 35) 6
theorem scFn : FnScope ["self", "entries", "numbers", "entry"] ["self"] (defScope sFn) := ⟨rfl, rfl, rfl, by decide +kernel, rfl, by decide +kernel, by decide +kernel⟩
def spFn (C : Addr) : Sp := fun vs H Q _ => ∃ (N : Addr → Prop) (s c t k : Addr) (h : House), vs = [.ref s] ∧ Srv C (cut N H) s c t k h ∧ Done C N s t k H h .front Q
def told2 (l : List Point) : List V := l.flatMap fun x => [iv x.t, iv x.c]
theorem told2_len (l : List Point) : (told2 l).length = 2 * l.length := by
  induction l with
  | nil => rfl
  | cons x l ih =>
    show ([iv x.t, iv x.c] ++ told2 l).length = _
    rw [List.length_append, ih, List.length_cons]; simp; omega
theorem ok_fn {f : Addr} {fd : FuncData} (F : Fun K "front" "Service.front" sFn f fd) (c : Con mg) (T : Cl K mg C) (M : MS P w K mg base C) : FnOk P w K mg base CX0 8 f fd ["self"] (spFn C) := by
  have S := scFn
  refine F.ok S (fun vs H Q E h => ?_) (fun cdv A outer s H vs Q E hr h => ?_)
  · obtain ⟨N, s, c, t, k, h, rfl, _⟩ := h
    rfl
  refine ⟨_, (pss_cons (ps_set (i := 1) S.nd rfl (Or.inl rfl) (pe_tell0 M.selected_runs T.cl (pv 0) (hr.mono (by decide))))
    (pss_cons (ps_set (i := 2) S.nd rfl (Or.inl rfl) (pe_lst (pa_cons (pe_callB call_len_seq (by rfl) c.len PySem.boot_len (pa_cons (pv 1) pa_nil)) pa_nil)))
    (pss_cons (ps_for PassesOwn.never rfl (pi_list (pv 1)) (pg_name (i := 3) S.nd rfl (Or.inl rfl))
      (pss_one (ps_expr (pe_bm PySem.F.plainAttrs_list PySem.F.slot_list_extend PySem.F.type_list_extend mt_moreT (pv 2) (pa_cons (pe_ix ix_tup (pv 3) pe_int (fun _ _ => rfl)) pa_nil)))))
    (pss_one (ps_ret (pv 2)))))), ?_⟩
  obtain ⟨N, s, cc, t, k, h, rfl, V0, q⟩ := h
  obtain ⟨dx, hs⟩ := V0.ins
  have hs0 := (cut_some hs).2
  have V1 := V0.same (cut_same N H)
  obtain ⟨fl, _⟩ := front_small V0.sound
  refine ⟨_, rfl, s, dx, _, rfl, hs0, sF_no (by decide +kernel) (by decide +kernel) (by decide +kernel) (by decide +kernel) _ _ _ _, s, cc, t, k, h, rfl, V1, fun H1 p s1 ⟨xs, hxs, px⟩ => ?_⟩
  have lx := Two.len px
  refine ⟨_, rfl, p, xs, rfl, .inl (SqL.of hxs), by show 1 ≤ sizeLine; decide, fun r nr => ?_⟩
  have s2 := same_new (o := .lst [V.int (xs.length : Int)]) nr
  refine ⟨_, rfl, p, rfl, ⟨xs, SqL.of (s2 _ _ hxs)⟩, for_list (xs := xs) (fun i σ H' => ∃ v, σ = [some (.ref s), some (.ref p), some (.ref r), v] ∧ Same H1 H' ∧ H' r = some (.lst (V.int (xs.length : Int) :: told2 ((h.book.front h.p).take i)))) ⟨none, rfl, s2, upd_same⟩ (fun i σ H' hi z => ?_) ?_ ?_⟩
  · obtain ⟨_, _, z, _⟩ := z
    exact SqL.of (z _ _ hxs)
  · rintro i x σ H2 hx ⟨v, rfl, s3, hr2⟩
    obtain ⟨pt, hpt, e, pp, rn, rfl, h1, h2, h3⟩ := Two.left px hx
    have big : (1 + 2 * 1024 + 2 : Nat) ≤ sizeLine := by decide
    refine ⟨_, rfl, .inl ⟨rfl, _, SqL.of hr2⟩, _, rfl, e, _, 0, .ref pp, rfl, rfl, SqT.of (s3 _ _ h1), atI_nat (j := 0) rfl, r, pp, _, _, rfl, rfl, hr2, s3 _ _ h2, ?_, ?_⟩
    · rw [List.length_cons, told2_len, List.length_take]
      show _ + 2 ≤ _
      omega
    · refine ⟨_, rfl, same_at s3 nr, ?_⟩
      rw [upd_same, take_next hpt]
      simp [told2]
  · rintro σ H2 ⟨v, rfl, s3, hr2⟩
    rw [lx, List.take_of_length_le (Nat.le_refl _)] at hr2
    refine ⟨_, rfl, done_same q V0 rfl (s1.trans s3) hr2 ?_ (s1.free nr)⟩
    show _ = V.int _ :: (((h.book.front h.p).flatMap fun x => [x.t, x.c]).map fun (n : Nat) => (n : Int)).map V.int
    rw [ints_V, List.map_flatMap]
    rfl
/-! ### by -/
abbrev sBy : Stmt := inClass (top 35) 7
theorem scBy : FnScope ["self", "time", "within", "pair", "entry"] ["self", "time"] (defScope sBy) := ⟨rfl, rfl, rfl, by decide +kernel, rfl, by decide +kernel, by decide +kernel⟩
def spBy (C : Addr) : Sp := fun vs H Q _ => ∃ (N : Addr → Prop) (s c t k : Addr) (h : House) (n : Nat), vs = [.ref s, iv n] ∧ Srv C (cut N H) s c t k h ∧ Done C N s t k H h (.by_ n) Q
theorem ok_by {f : Addr} {fd : FuncData} (F : Fun K "by" "Service.by" sBy f fd) (c : Con mg) (T : Cl K mg C) (M : MS P w K mg base C) : FnOk P w K mg base CX0 8 f fd ["self", "time"] (spBy C) := by
  have S := scBy
  refine F.ok S (fun vs H Q E h => ?_) (fun cdv A outer s H vs Q E hr h => ?_)
  · obtain ⟨N, s, c, t, k, h, n, rfl, _⟩ := h
    rfl
  refine ⟨_, (pss_cons (ps_setLc (i := 2) (own := [("entry", 4)]) (g := gName 4) (tt := tTest (tOp (rI0 fun i j => V.bl (decide (i ≤ j))) (tOp (rIxT K) (tOp (rIxT K) (tVar 4) (tC (.int 0))) (tC (.int 0))) (tVar 1))) (te := tVar 4) rfl S.nd rfl rfl (sw_true rfl rfl rfl (by decide +kernel)) (pi_list (pe_tell0 M.selected_runs T.cl (pv 0) (hr.mono (by decide)))) (blkOk_by (own := [("entry", 4)]) (N := ["self", "time", "within", "pair", "entry"]) (sc := defScope sBy) (by decide +kernel)) (fun _ _ _ _ _ => pg_name (i := 4) S.nd rfl (Or.inl rfl)) (fun _ _ _ _ _ => pts_one (pt_cmpR op_le (pe_ix ix_tup (pe_ix ix_tup (pv 4) pe_int (fun _ _ => rfl)) pe_int (fun _ _ => rfl)) (pv 1) (nomark _))) (fun _ _ _ _ _ => pv 4))
    (pss_cons (ps_if (pt_cmpR op_eq (pe_callB call_len_seq (by rfl) c.len PySem.boot_len (pa_cons (pv 2) pa_nil)) pe_int (nomark _)) (pss_one (ps_ret (pe_lst (pa_cons (pe_un un_neg pe_int) pa_nil)))) pss_nil)
    (pss_cons (ps_set (i := 3) S.nd rfl (Or.inl rfl) (pe_ix ix_tup (pe_ix ix_list (pv 2) (pe_un un_neg pe_int) (fun _ _ => rfl)) pe_int (fun _ _ => rfl)))
    (pss_one (ps_ret (pe_op op_cat (pe_lst (pa_cons (pe_ix ix_tup (pv 3) pe_int (fun _ _ => rfl)) (pa_cons (pe_ix ix_tup (pv 3) pe_int (fun _ _ => rfl)) pa_nil))) (pe_ix ix_tup (pe_ix ix_list (pv 2) (pe_un un_neg pe_int) (fun _ _ => rfl)) pe_int (fun _ _ => rfl)))))))), ?_⟩
  obtain ⟨N, s, cc, t, k, h, n, rfl, V0, q⟩ := h
  obtain ⟨dx, hs⟩ := V0.ins
  have hs0 := (cut_some hs).2
  have V1 := V0.same (cut_same N H)
  obtain ⟨fl, fw⟩ := front_small V0.sound
  refine ⟨_, rfl, s, dx, _, rfl, hs0, sF_no (by decide +kernel) (by decide +kernel) (by decide +kernel) (by decide +kernel) _ _ _ _, s, cc, t, k, h, rfl, V1, fun H1 p s1 ⟨xs, hxs, px⟩ => ?_⟩
  have lx := Two.len px
  refine ⟨p, rfl, ⟨xs, SqL.of hxs⟩, fun D nD => ?_⟩
  refine lc_list (xs := xs) (fun i H' => Same H1 H' ∧ ∃ ys, H' D = some (.lst ys) ∧ Paired (Ent H1) ys (((h.book.front h.p).take i).filter fun x => decide (x.t ≤ n))) ⟨same_new nD, [], upd_same, .nil⟩ (fun i H' hi z => SqL.of (z.1 _ _ hxs)) ?_ ?_
  · rintro i x H2 hx ⟨s2, ys, hy, py⟩
    obtain ⟨pt, hpt, en⟩ := Two.left px hx
    obtain ⟨e, pp, rn, rfl, h1, h2, h3⟩ := id en
    have ly := Two.len py
    have ll : (((h.book.front h.p).take i).filter fun x => decide (x.t ≤ n)).length ≤ 1024 := Nat.le_trans (List.length_filter_le _ _) (by rw [List.length_take]; omega)
    have big : (1024 : Nat) < sizeLine := by decide
    refine ⟨rfl, _, rfl, e, _, 0, .ref pp, rfl, rfl, SqT.of (s2 _ _ h1), atI_nat (j := 0) rfl, pp, _, 0, iv pt.t, rfl, rfl, SqT.of (s2 _ _ h2), atI_nat (j := 0) rfl, _, rfl, _, _, rfl, rfl, _, rfl, ite2 (fun z => ?_) (fun z => ?_)⟩
    · have z : (pt.t : Int) ≤ (n : Int) := of_decide_eq_true z
      refine ⟨_, rfl, ys, hy, by omega, same_at s2 nD, _, upd_same, ?_⟩
      rw [take_next hpt, List.filter_append]
      have e1 : [pt].filter (fun x => decide (x.t ≤ n)) = [pt] := by simp; omega
      rw [e1]
      exact Two.snoc en py
    · have z : ¬ (pt.t : Int) ≤ (n : Int) := fun y => z (decide_eq_true y)
      refine ⟨s2, ys, hy, ?_⟩
      rw [take_next hpt, List.filter_append]
      have e1 : [pt].filter (fun x => decide (x.t ≤ n)) = [] := by simp; omega
      rw [e1, List.append_nil]
      exact py
  · rintro H2 ⟨s2, ys, hy, py⟩
    rw [lx, List.take_of_length_le (Nat.le_refl _)] at py
    have ly := Two.len py
    have s12 := s1.trans s2
    refine ⟨_, rfl, D, ys, rfl, .inl (SqL.of hy), rfl, _, rfl, ite2 (fun z => ?_) (fun z => ?_)⟩
    · have z : (ys.length : Int) = 0 := t_eq.mp z
      refine ⟨_, rfl, by show 1 ≤ sizeLine; decide, fun r nr => done_same q V0 rfl (s12.trans (same_new nr)) upd_same ?_ (s12.free nr)⟩
      have e1 : h.book.by_ h.p n = none := by
        unfold Book.by_
        rw [List.eq_nil_of_length_eq_zero (by omega : (((h.book.front h.p)).filter fun x => decide (x.t ≤ n)).length = 0)]
        rfl
      show _ = (Wf06Neutral.out (match h.book.by_ h.p n with
        | none => Wf06.ok (-6)
        | some x => ⟨(x.c : Nat), x.t :: x.r.row⟩)).map V.int
      rw [e1]; rfl
    · have z : ¬ (ys.length : Int) = 0 := fun y => z (t_eq.mpr y)
      cases el : h.book.by_ h.p n with
      | none =>
        have : (((h.book.front h.p)).filter fun x => decide (x.t ≤ n)) = [] := List.getLast?_eq_none_iff.mp el
        rw [this] at ly
        exact absurd (by rw [ly]; rfl) z
      | some x =>
        have el' : (((h.book.front h.p)).filter fun x => decide (x.t ≤ n)).getLast? = some x := el
        obtain ⟨ys0, y, rfl, en⟩ := last_of py el'
        obtain ⟨e, pp, rn, rfl, h1, h2, h3⟩ := en
        have hm : x ∈ h.book.front h.p := (List.mem_filter.mp (List.mem_of_getLast? el')).1
        have wx := fw x hm
        refine ⟨_, rfl, 1, rfl, D, _, -1, .ref e, rfl, rfl, SqL.of hy, atI_last _ _, e, _, 0, .ref pp, rfl, rfl, SqT.of (s2 _ _ h1), atI_nat (j := 0) rfl, ?_⟩
        refine ⟨_, rfl, pp, _, 1, iv x.c, rfl, rfl, SqT.of (s2 _ _ h2), atI_nat (j := 1) rfl, _, rfl, pp, _, 0, iv x.t, rfl, rfl, SqT.of (s2 _ _ h2), atI_nat (j := 0) rfl, by show 2 ≤ sizeLine; decide, fun l1 n1 => ?_⟩
        have s3 := same_new (o := .lst [iv x.c, iv x.t]) n1
        have s23 := s2.trans s3
        have lim : [iv x.c, iv x.t].length + (x.r.row.map iv).length ≤ sizeLine := by
          have : (1000 : Nat) < sizeLine := by decide
          rw [List.length_map]; show 2 + _ ≤ _; omega
        refine ⟨_, rfl, 1, rfl, D, _, -1, .ref e, rfl, rfl, SqL.of (s3 _ _ hy), atI_last _ _, e, _, 1, .ref rn, rfl, rfl, SqT.of (s23 _ _ h1), atI_nat (j := 1) rfl, l1, rn, _, _, rfl, rfl, upd_same, s23 _ _ h3, lim, fun r nr => ?_⟩
        refine done_same q V0 rfl ((s1.trans s23).trans (same_new nr)) upd_same ?_ ((s1.trans s23).free nr)
        show _ = (Wf06Neutral.out (match h.book.by_ h.p n with
          | none => Wf06.ok (-6)
          | some x => ⟨(x.c : Nat), x.t :: x.r.row⟩)).map V.int
        rw [el]
        show _ = V.int _ :: ((x.t :: x.r.row).map fun (n : Nat) => (n : Int)).map V.int
        rw [ints_V]; rfl
/-! ### soonest -/
abbrev sSo : Stmt := inClass (top 35) 8
theorem scSo : FnScope ["self", "entry"] ["self"] (defScope sSo) := ⟨rfl, rfl, rfl, by decide +kernel, rfl, by decide +kernel, by decide +kernel⟩
def spSo (C : Addr) : Sp := fun vs H Q _ => ∃ (N : Addr → Prop) (s c t k : Addr) (h : House), vs = [.ref s] ∧ Srv C (cut N H) s c t k h ∧ Done C N s t k H h .soonest Q
theorem ok_so {f : Addr} {fd : FuncData} (F : Fun K "soonest" "Service.soonest" sSo f fd) (c : Con mg) (T : Cl K mg C) (M : MS P w K mg base C) : FnOk P w K mg base CX0 8 f fd ["self"] (spSo C) := by
  have S := scSo
  refine F.ok S (fun vs H Q E h => ?_) (fun cdv A outer s H vs Q E hr h => ?_)
  · obtain ⟨N, s, c, t, k, h, rfl, _⟩ := h
    rfl
  refine ⟨_, (pss_cons (ps_set (i := 1) S.nd rfl (Or.inl rfl) (pe_ix ix_list (pe_tell0 M.selected_runs T.cl (pv 0) (hr.mono (by decide))) pe_int (fun _ _ => rfl)))
    (pss_one (ps_ret (pe_op op_cat (pe_callTy call_list_of (by rfl) c.list (by decide +kernel) (pa_cons (pe_ix ix_tup (pv 1) pe_int (fun _ _ => rfl)) pa_nil)) (pe_ix ix_tup (pv 1) pe_int (fun _ _ => rfl)))))), ?_⟩
  obtain ⟨N, s, cc, t, k, h, rfl, V0, q⟩ := h
  obtain ⟨dx, hs⟩ := V0.ins
  have hs0 := (cut_some hs).2
  have V1 := V0.same (cut_same N H)
  obtain ⟨fl, fw⟩ := front_small V0.sound
  refine ⟨_, rfl, s, dx, _, rfl, hs0, sF_no (by decide +kernel) (by decide +kernel) (by decide +kernel) (by decide +kernel) _ _ _ _, s, cc, t, k, h, rfl, V1, fun H1 p s1 ⟨xs, hxs, px⟩ => ?_⟩
  obtain ⟨x, rest, ef⟩ := List.exists_cons_of_ne_nil (front_ne h.book h.p)
  obtain ⟨y, hy, e, pp, rn, rfl, h1, h2, h3⟩ := Two.right px (i := 0) (b := x) (by rw [ef]; rfl)
  have wx := fw x (by rw [ef]; simp)
  refine ⟨p, xs, 0, .ref e, rfl, rfl, SqL.of hxs, atI_nat (j := 0) hy, ?_⟩
  refine ⟨_, rfl, e, _, 0, .ref pp, rfl, rfl, SqT.of h1, atI_nat (j := 0) rfl, pp, _, rfl, .inr (SqT.of h2), fun l1 n1 => ?_⟩
  have s2 := same_new (o := .lst [iv x.t, iv x.c]) n1
  have lim : [iv x.t, iv x.c].length + (x.r.row.map iv).length ≤ sizeLine := by
    have : (1000 : Nat) < sizeLine := by decide
    rw [List.length_map]; show 2 + _ ≤ _; omega
  refine ⟨_, rfl, e, _, 1, .ref rn, rfl, rfl, SqT.of (s2 _ _ h1), atI_nat (j := 1) rfl, l1, rn, _, _, rfl, rfl, upd_same, s2 _ _ h3, lim, fun r nr => ?_⟩
  refine done_same q V0 rfl ((s1.trans s2).trans (same_new nr)) upd_same ?_ ((s1.trans s2).free nr)
  show _ = (Wf06Neutral.out (match h.book.front h.p with
    | [] => Wf06.ok (-6)
    | x :: _ => ⟨(x.t : Nat), x.c :: x.r.row⟩)).map V.int
  rw [ef]
  show _ = V.int _ :: ((x.c :: x.r.row).map fun (n : Nat) => (n : Int)).map V.int
  rw [ints_V]; rfl
end
end Pf

set_option Elab.async false
set_option linter.all false
set_option maxRecDepth 100000
set_option maxHeartbeats 2000000
/-! The service's methods: worst, judge; place_after. -/
namespace Pf
open PySem PySem.Spec PyProof.Rows L2
open Wf06 (House Book Point)
section
variable {P : Program} {w : World} {K : PySem.W.Frag} {mg : Str → Option Value} {base : Heap} {C : Addr}
structure RW (P : Program) (w : World) (K : PySem.W.Frag) (mg : Str → Option Value) (base : Heap) : Prop where
  worst_of : Ready P w K mg base 3 "worst_of" ["constructs", "times", "costs"] spWo
/-! ### worst -/
abbrev sWs : Stmt := inClass (top 35) 9
theorem scWs : FnScope ["self"] ["self"] (defScope sWs) := ⟨rfl, rfl, rfl, by decide +kernel, rfl, by decide +kernel, by decide +kernel⟩
def spWs (C : Addr) : Sp := fun vs H Q _ => ∃ (N : Addr → Prop) (s c t k : Addr) (h : House), vs = [.ref s] ∧ Srv C (cut N H) s c t k h ∧ Done C N s t k H h .worst Q
theorem ok_ws {f : Addr} {fd : FuncData} (F : Fun K "worst" "Service.worst" sWs f fd) (c : Con mg) (T : Cl K mg C) (R : RW P w K mg base) (M : MU P w K mg base C) : FnOk P w K mg base CX0 4 f fd ["self"] (spWs C) := by
  have S := scWs
  refine F.ok S (fun vs H Q E h => ?_) (fun cdv A outer s H vs Q E hr h => ?_)
  · obtain ⟨N, s, c, t, k, h, rfl, _⟩ := h
    rfl
  refine ⟨_, (pss_one (ps_ret (pe_callTy call_list_of (by rfl) c.list (by decide +kernel) (pa_cons (pe_do R.worst_of (hr.mono (by decide)) rfl (pa_cons (pe_tell0 M.unrolled T.cl (pv 0) (hr.mono (by decide))) (pa_cons (pe_fld (pv 0) rfl) (pa_cons (pe_fld (pv 0) rfl) pa_nil)))) pa_nil)))), ?_⟩
  obtain ⟨N, s, cc, t, k, h, rfl, V0, q⟩ := h
  obtain ⟨dx, hs⟩ := V0.ins
  have hs0 := (cut_some hs).2
  have V1 := V0.same (cut_same N H)
  refine ⟨_, rfl, s, dx, _, rfl, hs0, sF_no (by decide +kernel) (by decide +kernel) (by decide +kernel) (by decide +kernel) _ _ _ _, s, cc, t, k, h, rfl, V1, fun H1 p us un s1 np T1 FL => ?_⟩
  have V2 := V1.same s1
  have hs1 := s1 _ _ hs0
  refine ⟨_, rfl, s, C, dx, _, _, rfl, hs1, T.cl, T.nT, sF_t _ _ _ _, _, rfl, s, C, dx, _, _, rfl, hs1, T.cl, T.nK, sF_k _ _ _ _, ?_⟩
  refine ⟨h.book, p, t, k, us, un, _, rfl, T1, FL.enc, fun v hv => good_piece V0.sound.right (FL.part v hv), FL.last, by have := FL.size; omega, V2.book, fun H2 p' s2 e => ?_⟩
  rw [latest_unroll, dearest_unroll] at e
  refine ⟨p', _, rfl, .inr (SqT.of e), fun r nr => ?_⟩
  exact done_same q V0 rfl ((s1.trans s2).trans (same_new nr)) upd_same rfl ((s1.trans s2).free nr)
/-! ### judge -/
abbrev sJu : Stmt := inClass (top 35) 10
theorem scJu : FnScope ["self", "numbers", "run"] ["self", "numbers"] (defScope sJu) := ⟨rfl, rfl, rfl, by decide +kernel, rfl, by decide +kernel, by decide +kernel⟩
def spJu (C : Addr) : Sp := fun vs H Q _ => ∃ (N : Addr → Prop) (s c t k : Addr) (h : House) (a : Addr) (ns : List Nat), vs = [.ref s, .ref a] ∧ Srv C (cut N H) s c t k h ∧ H a = some (.lst (ns.map iv)) ∧ ns.length ≤ 100 ∧ Done C N s t k H h (.judge ns) Q
structure RJ (P : Program) (w : World) (K : PySem.W.Frag) (mg : Str → Option Value) (base : Heap) : Prop extends RW P w K mg base where
  constructs_of : Ready P w K mg base 3 "constructs_of" ["numbers"] spOf
  is_run : Ready P w K mg base 3 "is_run" ["run", "constructs"] spIr
theorem judge_same (h : House) (ns : List Nat) : (Wf06.step h (.judge ns)).1 = h := rfl
theorem judge_none {h : House} {ns : List Nat} (e : Wf06.run? ns = none) : Wf06Neutral.out (Wf06.step h (.judge ns)).2 = [-1] := by
  unfold Wf06.step
  dsimp only
  rw [e]; rfl
theorem judge_some {h : House} {ns : List Nat} {r : Wf.P} (e : Wf06.run? ns = some r) : Wf06Neutral.out (Wf06.step h (.judge ns)).2 = if Wf06.isRun h.book.rounds h.p r = true then [1, (h.book.time r : Int), (h.book.cost r : Int)] else [0] := by
  unfold Wf06.step
  dsimp only
  rw [e]
  dsimp only
  by_cases z : Wf06.isRun h.book.rounds h.p r = true
  · rw [if_pos z, if_pos z]; rfl
  · rw [if_neg z, if_neg z]; rfl
theorem ok_ju {f : Addr} {fd : FuncData} (F : Fun K "judge" "Service.judge" sJu f fd) (c : Con mg) (T : Cl K mg C) (R : RJ P w K mg base) (M : MU P w K mg base C) : FnOk P w K mg base CX0 5 f fd ["self", "numbers"] (spJu C) := by
  have S := scJu
  refine F.ok S (fun vs H Q E h => ?_) (fun cdv A outer s H vs Q E hr h => ?_)
  · obtain ⟨N, s, c, t, k, h, a, ns, rfl, _⟩ := h
    rfl
  refine ⟨_, (pss_cons (ps_set (i := 2) S.nd rfl (Or.inl rfl) (pe_do R.constructs_of (hr.mono (by decide)) rfl (pa_cons (pv 1) pa_nil)))
    (pss_cons (ps_if (pt_cmpR op_isN (pv 2) pe_non (nomark _)) (pss_one (ps_ret (pe_lst (pa_cons (pe_un un_neg pe_int) pa_nil)))) pss_nil)
    (pss_cons (ps_if (pt_not (pt_val (pe_do R.is_run (hr.mono (by decide)) rfl (pa_cons (pv 2) (pa_cons (pe_tell0 M.unrolled T.cl (pv 0) (hr.mono (by decide))) pa_nil))))) (pss_one (ps_ret (pe_lst (pa_cons pe_int pa_nil)))) pss_nil)
    (pss_one (ps_ret (pe_op op_cat (pe_lst (pa_cons pe_int pa_nil)) (pe_callTy call_list_of (by rfl) c.list (by decide +kernel) (pa_cons (pe_do R.worst_of (hr.mono (by decide)) rfl (pa_cons (pv 2) (pa_cons (pe_fld (pv 0) rfl) (pa_cons (pe_fld (pv 0) rfl) pa_nil)))) pa_nil)))))))), ?_⟩
  obtain ⟨N, s, cc, t, k, h, a, ns, rfl, V0, ha, hn, q⟩ := h
  obtain ⟨dx, hs⟩ := V0.ins
  have hs0 := (cut_some hs).2
  have V1 := V0.same (cut_same N H)
  refine ⟨_, rfl, a, ns, rfl, ha, hn, fun hw H1 s1 => ?_, fun x hx hz H1 p s1 np T1 => ?_⟩
  · refine ⟨_, rfl, rfl, _, rfl, ite2 (fun _ => ?_) (fun z => absurd (decide_eq_true rfl) z)⟩
    refine ⟨_, rfl, by show 1 ≤ sizeLine; decide, fun r nr => ?_⟩
    exact done_same q V0 (judge_same h ns) (s1.trans (same_new nr)) upd_same (by rw [judge_none hw]; rfl) (s1.free nr)
  · refine ⟨_, rfl, rfl, _, rfl, ite2 (fun z => absurd (of_decide_eq_true z) (by intro z; cases z)) (fun _ => ?_)⟩
    have hs1 := s1 _ _ hs0
    refine ⟨_, rfl, _, rfl, s, dx, _, rfl, hs1, sF_no (by decide +kernel) (by decide +kernel) (by decide +kernel) (by decide +kernel) _ _ _ _, s, cc, t, k, h, rfl, V1.same s1, fun H2 p2 us un s2 np2 T2 FL => ?_⟩
    have good : ∀ v ∈ us, Good v := fun v hv => good_piece V0.sound.right (FL.part v hv)
    refine ⟨p, p2, h.book.rounds, subs x, us, enc 0 x, un, x, _, rfl, T1.same s2, T2, (enc_subs x).weak, FL.enc, good, subs_last x, FL.last, by rw [enc_len]; exact hz, FL.size, fun H3 s3 => ?_⟩
    have s123 := (s1.trans s2).trans s3
    rw [isRun_unroll]
    refine ⟨_, rfl, ite2 (fun z => ?_) (fun z => ?_)⟩
    · have z : Wf06.isRun h.book.rounds h.p x = false := by
        cases e : Wf06.isRun h.book.rounds h.p x with
        | false => rfl
        | true => rw [e] at z; cases z
      refine ⟨by show 1 ≤ sizeLine; decide, fun r nr => ?_⟩
      exact done_same q V0 (judge_same h ns) (s123.trans (same_new nr)) upd_same (by rw [judge_some hx, z]; rfl) (s123.free nr)
    · have z : Wf06.isRun h.book.rounds h.p x = true := by
        cases e : Wf06.isRun h.book.rounds h.p x with
        | true => rfl
        | false => rw [e] at z; exact absurd rfl z
      have gu : Good (unroll h.book.rounds h.p) := good_unroll _ _ V0.sound.right
      have pl : Plain x := plain_of h.book.rounds _ x gu (by rw [isRun_unroll]; exact z)
      obtain ⟨et, ec⟩ := plain_time h.book pl
      refine ⟨by show 1 ≤ sizeLine; decide, fun l1 n1 => ?_⟩
      have s4 := same_new (o := .lst [V.int 1]) n1
      have s1234 := s123.trans s4
      have hs4 := s1234 _ _ hs0
      refine ⟨_, rfl, _, rfl, s, C, dx, _, _, rfl, hs4, T.cl, T.nT, sF_t _ _ _ _, _, rfl, s, C, dx, _, _, rfl, hs4, T.cl, T.nK, sF_k _ _ _ _, ?_⟩
      refine ⟨h.book, p, t, k, subs x, enc 0 x, x, rfl, (T1.same (s2.trans s3)).same s4, (enc_subs x).weak, fun v hv => good_sub x (plain_good pl) hv, subs_last x, by rw [enc_len]; exact hz, (V1.same s1234).book, fun H5 p' s5 e => ?_⟩
      rw [et, ec] at e
      refine ⟨p', _, rfl, .inr (SqT.of e), fun l2 n2 => ?_⟩
      have s6 := same_new (o := .lst [iv (h.book.time x), iv (h.book.cost x)]) n2
      refine ⟨l1, l2, _, _, rfl, rfl, (s5.trans s6) _ _ upd_same, upd_same, by show 1 + 2 ≤ sizeLine; decide, fun r nr => ?_⟩
      have all := (s1234.trans s5).trans s6
      exact done_same q V0 (judge_same h ns) (all.trans (same_new nr)) upd_same (by rw [judge_some hx, z]; rfl) (all.free nr)
/-! ### place_after -/
abbrev sPa : Stmt := top 45
theorem scPa : FnScope ["calls", "place", "call"] ["calls", "place"] (defScope sPa) := ⟨rfl, rfl, rfl, by decide +kernel, rfl, by decide +kernel, by decide +kernel⟩
def spPa (K : PySem.W.Frag) : Sp := fun vs H Q _ => ∃ (a : Addr) (l : List Int) (pl : Nat) (x : Wf06.Call) (t : List Int), vs = [.ref a, iv pl] ∧ SqL K H a (l.map V.int) ∧ l.drop pl = flatOf x ++ t ∧ Q (iv (pl + (flatOf x).length)) H
theorem dec_v {i j : Int} : decide (V.int i = V.int j) = true ↔ i = j := by simp
theorem ok_pa {f : Addr} {fd : FuncData} (F : Fun K "place_after" "place_after" sPa f fd) (c : Pf.Con mg) : FnOk P w K mg base CX0 1 f fd ["calls", "place"] (spPa K) := by
  have S := scPa
  refine F.ok S (fun vs H Q E h => ?_) (fun cdv A outer s H vs Q E hr h => ?_)
  · obtain ⟨a, l, pl, x, t, rfl, _⟩ := h
    rfl
  refine ⟨_, (pss_cons (ps_set (i := 2) S.nd rfl (Or.inl rfl) (pe_ix ix_list (pv 0) (pv 1) (fun _ _ => rfl)))
    (pss_cons (ps_if (PW.pt (pw_or (pt_cmpR op_eq (pv 2) (pe_con rfl c.CALL_PROCESS) (nomark _)) (pw_or1 (pt_cmpR op_eq (pv 2) (pe_con rfl c.CALL_JUDGE) (nomark _))))) (pss_one (ps_ret (pe_op op_add (pe_op op_add (pv 1) pe_int) (pe_ix ix_list (pv 0) (pe_op op_add (pv 1) pe_int) (fun _ _ => rfl))))) pss_nil)
    (pss_cons (ps_if (pt_cmpR op_eq (pv 2) (pe_con rfl c.CALL_STEP) (nomark _)) (pss_one (ps_ret (pe_op op_add (pv 1) pe_int))) pss_nil)
    (pss_cons (ps_if (PW.pt (pw_or (pt_cmpR op_eq (pv 2) (pe_con rfl c.CALL_ROUNDS) (nomark _)) (pw_or1 (pt_cmpR op_eq (pv 2) (pe_con rfl c.CALL_BY) (nomark _))))) (pss_one (ps_ret (pe_op op_add (pv 1) pe_int))) pss_nil)
    (pss_one (ps_ret (pe_op op_add (pv 1) pe_int))))))), ?_⟩
  obtain ⟨a, l, pl, x, t, rfl, ha, hd, q⟩ := h
  have at0 : ∀ (i : Nat) (z : Int), (flatOf x)[i]? = some z → (l.map V.int)[pl + i]? = some (V.int z) := fun i z e => by
    rw [List.getElem?_map, ← List.getElem?_drop, hd, get_app e]; rfl
  have yes : ∀ {n : Int} {A B : Prop}, A → (if decide (V.int n = V.int n) = true then A else B) := fun h => by rw [if_pos (by simp)]; exact h
  have no : ∀ {n m : Int} {A B : Prop}, n ≠ m → B → (if decide (V.int n = V.int m) = true then A else B) := fun hn h => by rw [if_neg (fun z => hn (dec_v.mp z))]; exact h
  cases x with
  | process ns =>
    have g0 := at0 0 0 rfl
    have g1 := at0 1 (ns.length : Int) rfl
    refine ⟨_, rfl, _, rfl, a, _, _, _, rfl, rfl, ha, atI_nat g0, _, rfl, rfl, _, rfl, yes ?_⟩
    refine ⟨_, rfl, _, _, rfl, rfl, _, rfl, _, rfl, _, _, rfl, rfl, a, _, _, _, rfl, rfl, ha, atI_nat g1, _, _, rfl, rfl, ?_⟩
    have e : (flatOf (.process ns)).length = 2 + ns.length := by simp [flatOf]; omega
    rw [e] at q
    have e2 : (((pl : Int) + 2) + (ns.length : Int)) = ((pl + (2 + ns.length) : Nat) : Int) := by omega
    dsimp only
    rw [e2]
    exact q
  | judge ns =>
    have g0 := at0 0 7 rfl
    have g1 := at0 1 (ns.length : Int) rfl
    refine ⟨_, rfl, _, rfl, a, _, _, _, rfl, rfl, ha, atI_nat g0, _, rfl, rfl, _, rfl, no (by decide) ⟨_, rfl, rfl, _, rfl, yes ?_⟩⟩
    refine ⟨_, rfl, _, _, rfl, rfl, _, rfl, _, rfl, _, _, rfl, rfl, a, _, _, _, rfl, rfl, ha, atI_nat g1, _, _, rfl, rfl, ?_⟩
    have e : (flatOf (.judge ns)).length = 2 + ns.length := by simp [flatOf]; omega
    rw [e] at q
    have e2 : (((pl : Int) + 2) + (ns.length : Int)) = ((pl + (2 + ns.length) : Nat) : Int) := by omega
    dsimp only
    rw [e2]
    exact q
  | step x y z =>
    have g0 := at0 0 1 rfl
    exact ⟨_, rfl, _, rfl, a, _, _, _, rfl, rfl, ha, atI_nat g0, _, rfl, rfl, _, rfl, no (by decide) ⟨_, rfl, rfl, _, rfl, no (by decide) ⟨_, rfl, rfl, _, rfl, yes ⟨_, rfl, _, _, rfl, rfl, q⟩⟩⟩⟩
  | rounds n =>
    have g0 := at0 0 2 rfl
    exact ⟨_, rfl, _, rfl, a, _, _, _, rfl, rfl, ha, atI_nat g0, _, rfl, rfl, _, rfl, no (by decide) ⟨_, rfl, rfl, _, rfl, no (by decide) ⟨_, rfl, rfl, _, rfl, no (by decide) ⟨_, rfl, rfl, _, rfl, yes ⟨_, rfl, _, _, rfl, rfl, q⟩⟩⟩⟩⟩
  | by_ n =>
    have g0 := at0 0 4 rfl
    exact ⟨_, rfl, _, rfl, a, _, _, _, rfl, rfl, ha, atI_nat g0, _, rfl, rfl, _, rfl, no (by decide) ⟨_, rfl, rfl, _, rfl, no (by decide) ⟨_, rfl, rfl, _, rfl, no (by decide) ⟨_, rfl, rfl, _, rfl, no (by decide) ⟨_, rfl, rfl, _, rfl, yes ⟨_, rfl, _, _, rfl, rfl, q⟩⟩⟩⟩⟩⟩
  | front =>
    have g0 := at0 0 3 rfl
    exact ⟨_, rfl, _, rfl, a, _, _, _, rfl, rfl, ha, atI_nat g0, _, rfl, rfl, _, rfl, no (by decide) ⟨_, rfl, rfl, _, rfl, no (by decide) ⟨_, rfl, rfl, _, rfl, no (by decide) ⟨_, rfl, rfl, _, rfl, no (by decide) ⟨_, rfl, rfl, _, rfl, no (by decide) ⟨_, rfl, _, _, rfl, rfl, q⟩⟩⟩⟩⟩⟩
  | soonest =>
    have g0 := at0 0 5 rfl
    exact ⟨_, rfl, _, rfl, a, _, _, _, rfl, rfl, ha, atI_nat g0, _, rfl, rfl, _, rfl, no (by decide) ⟨_, rfl, rfl, _, rfl, no (by decide) ⟨_, rfl, rfl, _, rfl, no (by decide) ⟨_, rfl, rfl, _, rfl, no (by decide) ⟨_, rfl, rfl, _, rfl, no (by decide) ⟨_, rfl, _, _, rfl, rfl, q⟩⟩⟩⟩⟩⟩
  | worst =>
    have g0 := at0 0 6 rfl
    exact ⟨_, rfl, _, rfl, a, _, _, _, rfl, rfl, ha, atI_nat g0, _, rfl, rfl, _, rfl, no (by decide) ⟨_, rfl, rfl, _, rfl, no (by decide) ⟨_, rfl, rfl, _, rfl, no (by decide) ⟨_, rfl, rfl, _, rfl, no (by decide) ⟨_, rfl, rfl, _, rfl, no (by decide) ⟨_, rfl, _, _, rfl, rfl, q⟩⟩⟩⟩⟩⟩
end
end Pf

set_option Elab.async false
set_option linter.all false
set_option maxRecDepth 100000
set_option maxHeartbeats 2000000
/-! The calls: answer_of, answers. -/
namespace Pf
open PySem PySem.Spec PyProof.Rows L2
open Wf06 (House Book Point)
section
variable {P : Program} {w : World} {K : PySem.W.Frag} {mg : Str → Option Value} {base : Heap} {C : Addr}
/-! ### answer_of -/
abbrev sAo : Stmt := top 46
theorem scAo : FnScope ["service", "call", "handed"] ["service", "call", "handed"] (defScope sAo) := ⟨rfl, rfl, rfl, by decide +kernel, rfl, by decide +kernel, by decide +kernel⟩
structure MA (P : Program) (w : World) (K : PySem.W.Frag) (mg : Str → Option Value) (base : Heap) (C : Addr) : Prop where
  process : MReady P w K mg base C 4 "process" ["self", "numbers"] (spPs C)
  step : MReady P w K mg base C 1 "step" ["self", "step", "time", "cost"] (spSt C)
  rounds : MReady P w K mg base C 1 "rounds" ["self", "n"] (spRo C)
  front : MReady P w K mg base C 8 "front" ["self"] (spFn C)
  «by» : MReady P w K mg base C 8 "by" ["self", "time"] (spBy C)
  soonest : MReady P w K mg base C 8 "soonest" ["self"] (spSo C)
  worst : MReady P w K mg base C 4 "worst" ["self"] (spWs C)
  judge : MReady P w K mg base C 5 "judge" ["self", "numbers"] (spJu C)
def spAo (C : Addr) : Sp := fun vs H Q _ => ∃ (N : Addr → Prop) (s c t k : Addr) (h : House) (x : Wf06.Call) (z : Int) (r : List Int) (a : Addr), vs = [.ref s, .int z, .ref a] ∧ flatOf x = z :: r ∧ H a = some (.lst (r.map V.int)) ∧ short x ∧ OldL N H ∧ Srv C (cut N H) s c t k h ∧ Done C N s t k H h x Q
theorem cut_one (xs : List V) : cutV xs (some 1) none = xs.drop 1 := cut_end xs 1
theorem ok_ao {f : Addr} {fd : FuncData} (F : Fun K "answer_of" "answer_of" sAo f fd) (c : Pf.Con mg) (T : Cl K mg C) (M : MA P w K mg base C) : FnOk P w K mg base CX0 9 f fd ["service", "call", "handed"] (spAo C) := by
  have S := scAo
  refine F.ok S (fun vs H Q E h => ?_) (fun cdv A outer s H vs Q E hr h => ?_)
  · obtain ⟨N, s, c, t, k, h, x, z, r, a, rfl, _⟩ := h
    rfl
  refine ⟨_, (pss_cons (ps_if (pt_cmpR op_eq (pv 1) (pe_con rfl c.CALL_PROCESS) (nomark _)) (pss_one (ps_ret (pe_tell M.process T.cl (pv 0) (hr.mono (by decide)) (pa_cons (pe_slice sl_list (pv 2) (po_some pe_int) po_none) pa_nil)))) pss_nil)
    (pss_cons (ps_if (pt_cmpR op_eq (pv 1) (pe_con rfl c.CALL_STEP) (nomark _)) (pss_one (ps_ret (pe_tell M.step T.cl (pv 0) (hr.mono (by decide)) (pa_cons (pe_ix ix_list (pv 2) pe_int (fun _ _ => rfl)) (pa_cons (pe_ix ix_list (pv 2) pe_int (fun _ _ => rfl)) (pa_cons (pe_ix ix_list (pv 2) pe_int (fun _ _ => rfl)) pa_nil)))))) pss_nil)
    (pss_cons (ps_if (pt_cmpR op_eq (pv 1) (pe_con rfl c.CALL_ROUNDS) (nomark _)) (pss_one (ps_ret (pe_tell M.rounds T.cl (pv 0) (hr.mono (by decide)) (pa_cons (pe_ix ix_list (pv 2) pe_int (fun _ _ => rfl)) pa_nil)))) pss_nil)
    (pss_cons (ps_if (pt_cmpR op_eq (pv 1) (pe_con rfl c.CALL_FRONT) (nomark _)) (pss_one (ps_ret (pe_tell0 M.front T.cl (pv 0) (hr.mono (by decide))))) pss_nil)
    (pss_cons (ps_if (pt_cmpR op_eq (pv 1) (pe_con rfl c.CALL_BY) (nomark _)) (pss_one (ps_ret (pe_tell M.by T.cl (pv 0) (hr.mono (by decide)) (pa_cons (pe_ix ix_list (pv 2) pe_int (fun _ _ => rfl)) pa_nil)))) pss_nil)
    (pss_cons (ps_if (pt_cmpR op_eq (pv 1) (pe_con rfl c.CALL_SOONEST) (nomark _)) (pss_one (ps_ret (pe_tell0 M.soonest T.cl (pv 0) (hr.mono (by decide))))) pss_nil)
    (pss_cons (ps_if (pt_cmpR op_eq (pv 1) (pe_con rfl c.CALL_WORST) (nomark _)) (pss_one (ps_ret (pe_tell0 M.worst T.cl (pv 0) (hr.mono (by decide))))) pss_nil)
    (pss_one (ps_ret (pe_tell M.judge T.cl (pv 0) (hr.mono (by decide)) (pa_cons (pe_slice sl_list (pv 2) (po_some pe_int) po_none) pa_nil))))))))))), ?_⟩
  obtain ⟨N, s, cc, t, k, h, x, z, r, a, rfl, ex, ha, sx, old, V0, q⟩ := h
  obtain ⟨dx, hs⟩ := V0.ins
  have hs0 := (cut_some hs).2
  have yes : ∀ {n : Int} {A B : Prop}, A → (if decide (V.int n = V.int n) = true then A else B) := fun h => by rw [if_pos (by simp)]; exact h
  have no : ∀ {n m : Int} {A B : Prop}, n ≠ m → B → (if decide (V.int n = V.int m) = true then A else B) := fun hn h => by rw [if_neg (fun z => hn (dec_v.mp z))]; exact h
  have lists : ∀ (ns : List Nat) (p : Addr), H p = none → a = a → r = (ns.length : Int) :: toZ ns → OldL N (upd H p (.lst (ns.map iv))) ∧ Srv C (cut N (upd H p (.lst (ns.map iv)))) s cc t k h ∧ (∀ (X : Wf06.Call), Done C N s t k H h X Q → Done C N s t k (upd H p (.lst (ns.map iv))) h X Q) ∧ cutV (r.map V.int) (some 1) none = ns.map iv := fun ns p np _ er => by
    have s1 := same_new (o := .lst (ns.map iv)) np
    refine ⟨old.same s1, V0.same (same_cut s1), fun X d H' c' r' k' v' e' n' => ?_, ?_⟩
    · exact d H' c' r' (fun b o h1 h2 h3 e => k' b o h1 h2 h3 (s1 _ _ e)) v' e' (s1.free n')
    · rw [cut_one, er, List.map_cons, List.drop_succ_cons, List.drop_zero]
      exact ints_V ns
  cases x with
  | process ns =>
    injection ex with e1 e2
    subst e1
    refine ⟨_, rfl, rfl, _, rfl, yes ?_⟩
    refine ⟨_, rfl, s, dx, _, rfl, hs0, sF_no (by decide +kernel) (by decide +kernel) (by decide +kernel) (by decide +kernel) _ _ _ _, _, rfl, _, rfl, a, _, rfl, SqL.of ha, fun p np => ?_⟩
    obtain ⟨o1, v1, d1, c1⟩ := lists ns p np rfl e2.symm
    rw [c1]
    exact ⟨N, s, cc, t, k, h, p, ns, rfl, o1, v1, upd_same, sx, d1 _ q⟩
  | judge ns =>
    injection ex with e1 e2
    subst e1
    refine ⟨_, rfl, rfl, _, rfl, no (by decide) ⟨_, rfl, rfl, _, rfl, no (by decide) ⟨_, rfl, rfl, _, rfl, no (by decide) ⟨_, rfl, rfl, _, rfl, no (by decide) ⟨_, rfl, rfl, _, rfl, no (by decide) ⟨_, rfl, rfl, _, rfl, no (by decide) ⟨_, rfl, rfl, _, rfl, no (by decide) ?_⟩⟩⟩⟩⟩⟩⟩
    refine ⟨_, rfl, s, dx, _, rfl, hs0, sF_no (by decide +kernel) (by decide +kernel) (by decide +kernel) (by decide +kernel) _ _ _ _, _, rfl, _, rfl, a, _, rfl, SqL.of ha, fun p np => ?_⟩
    obtain ⟨o1, v1, d1, c1⟩ := lists ns p np rfl e2.symm
    rw [c1]
    exact ⟨N, s, cc, t, k, h, p, ns, rfl, v1, upd_same, sx, d1 _ q⟩
  | step u v y =>
    injection ex with e1 e2
    subst e1
    subst e2
    refine ⟨_, rfl, rfl, _, rfl, no (by decide) ⟨_, rfl, rfl, _, rfl, yes ?_⟩⟩
    refine ⟨_, rfl, s, dx, _, rfl, hs0, sF_no (by decide +kernel) (by decide +kernel) (by decide +kernel) (by decide +kernel) _ _ _ _, _, rfl, a, _, 0, iv u, rfl, rfl, SqL.of ha, atI_nat (j := 0) rfl, _, rfl, a, _, 1, iv v, rfl, rfl, SqL.of ha, atI_nat (j := 1) rfl, _, rfl, a, _, 2, iv y, rfl, rfl, SqL.of ha, atI_nat (j := 2) rfl, ?_⟩
    exact ⟨N, s, cc, t, k, h, u, v, y, rfl, V0, q⟩
  | rounds n =>
    injection ex with e1 e2
    subst e1
    subst e2
    refine ⟨_, rfl, rfl, _, rfl, no (by decide) ⟨_, rfl, rfl, _, rfl, no (by decide) ⟨_, rfl, rfl, _, rfl, yes ?_⟩⟩⟩
    refine ⟨_, rfl, s, dx, _, rfl, hs0, sF_no (by decide +kernel) (by decide +kernel) (by decide +kernel) (by decide +kernel) _ _ _ _, _, rfl, a, _, 0, iv n, rfl, rfl, SqL.of ha, atI_nat (j := 0) rfl, ?_⟩
    exact ⟨N, s, cc, t, k, h, n, rfl, V0, q⟩
  | front =>
    injection ex with e1 e2
    subst e1
    refine ⟨_, rfl, rfl, _, rfl, no (by decide) ⟨_, rfl, rfl, _, rfl, no (by decide) ⟨_, rfl, rfl, _, rfl, no (by decide) ⟨_, rfl, rfl, _, rfl, yes ?_⟩⟩⟩⟩
    refine ⟨_, rfl, s, dx, _, rfl, hs0, sF_no (by decide +kernel) (by decide +kernel) (by decide +kernel) (by decide +kernel) _ _ _ _, ?_⟩
    exact ⟨N, s, cc, t, k, h, rfl, V0, q⟩
  | by_ n =>
    injection ex with e1 e2
    subst e1
    subst e2
    refine ⟨_, rfl, rfl, _, rfl, no (by decide) ⟨_, rfl, rfl, _, rfl, no (by decide) ⟨_, rfl, rfl, _, rfl, no (by decide) ⟨_, rfl, rfl, _, rfl, no (by decide) ⟨_, rfl, rfl, _, rfl, yes ?_⟩⟩⟩⟩⟩
    refine ⟨_, rfl, s, dx, _, rfl, hs0, sF_no (by decide +kernel) (by decide +kernel) (by decide +kernel) (by decide +kernel) _ _ _ _, _, rfl, a, _, 0, iv n, rfl, rfl, SqL.of ha, atI_nat (j := 0) rfl, ?_⟩
    exact ⟨N, s, cc, t, k, h, n, rfl, V0, q⟩
  | soonest =>
    injection ex with e1 e2
    subst e1
    refine ⟨_, rfl, rfl, _, rfl, no (by decide) ⟨_, rfl, rfl, _, rfl, no (by decide) ⟨_, rfl, rfl, _, rfl, no (by decide) ⟨_, rfl, rfl, _, rfl, no (by decide) ⟨_, rfl, rfl, _, rfl, no (by decide) ⟨_, rfl, rfl, _, rfl, yes ?_⟩⟩⟩⟩⟩⟩
    refine ⟨_, rfl, s, dx, _, rfl, hs0, sF_no (by decide +kernel) (by decide +kernel) (by decide +kernel) (by decide +kernel) _ _ _ _, ?_⟩
    exact ⟨N, s, cc, t, k, h, rfl, V0, q⟩
  | worst =>
    injection ex with e1 e2
    subst e1
    refine ⟨_, rfl, rfl, _, rfl, no (by decide) ⟨_, rfl, rfl, _, rfl, no (by decide) ⟨_, rfl, rfl, _, rfl, no (by decide) ⟨_, rfl, rfl, _, rfl, no (by decide) ⟨_, rfl, rfl, _, rfl, no (by decide) ⟨_, rfl, rfl, _, rfl, no (by decide) ⟨_, rfl, rfl, _, rfl, yes ?_⟩⟩⟩⟩⟩⟩⟩
    refine ⟨_, rfl, s, dx, _, rfl, hs0, sF_no (by decide +kernel) (by decide +kernel) (by decide +kernel) (by decide +kernel) _ _ _ _, ?_⟩
    exact ⟨N, s, cc, t, k, h, rfl, V0, q⟩
end
end Pf

set_option Elab.async false
set_option linter.all false
set_option maxRecDepth 100000
set_option maxHeartbeats 2000000
/-! The calls: answers. -/
namespace Pf
open PySem PySem.Spec PyProof.Rows L2
open Wf06 (House Book Point)
theorem flat_cons (x : Wf06.Call) : ∃ z r, flatOf x = z :: r := by
  cases x <;> exact ⟨_, _, rfl⟩
section
variable {P : Program} {w : World} {K : PySem.W.Frag} {mg : Str → Option Value} {base : Heap} {C : Addr}
abbrev sAn : Stmt := top 47
theorem scAn : FnScope ["calls", "service", "told", "place", "after", "numbers"] ["calls"] (defScope sAn) := ⟨rfl, rfl, rfl, by decide +kernel, rfl, by decide +kernel, by decide +kernel⟩
structure RN (P : Program) (w : World) (K : PySem.W.Frag) (mg : Str → Option Value) (base : Heap) (C : Addr) : Prop where
  place_after : Ready P w K mg base 1 "place_after" ["calls", "place"] (spPa K)
  answer_of : Ready P w K mg base 9 "answer_of" ["service", "call", "handed"] (spAo C)
def spAns (K : PySem.W.Frag) : Sp := fun vs H Q _ => ∃ (a : Addr) (l : List Int), vs = [.ref a] ∧ SqL K H a (l.map V.int) ∧ PyWf06.answers_asked l = true ∧
  ∀ (H' : Hp) (p : Addr), H' p = some (.lst ((PyWf06.answers l).map V.int)) → Q (.ref p) H'
structure InvN (C : Addr) (H : Hp) (a s p t k : Addr) (l all : List Int) (j : Nat) (σ : L2.St) (H1 : Hp) : Prop where
  is : ∃ (cs : List Wf06.Call) (h : House) (c : Addr) (told : List Int) (pl : Nat) (v4 v5 : Option V), j = cs.length ∧ σ = [some (.ref a), some (.ref s), some (.ref p), some (iv pl), v4, v5] ∧ Same H H1 ∧ H1 p = some (.lst (told.map V.int)) ∧
    Srv C (cut (· = p) H1) s c t k h ∧ l.drop pl = flats cs ∧ pl ≤ l.length ∧ (∀ x ∈ cs, short x) ∧ told ++ tells h cs = all
theorem ok_an {f fI : Addr} {fd fdI : FuncData} (F : Fun K "answers" "answers" sAn f fd) (c : Pf.Con mg) (T : Cl K mg C) (R : RN P w K mg base C) (MK : Mk K C fI) (GI : FnOk P w K mg base CX0 1 fI fdI ["self"] (spIni C)) (bI : L2.Binds K fdI ["self"] []) :
    FnOk P w K mg base CX0 10 f fd ["calls"] (spAns K) := by
  have S := scAn
  refine F.ok S (fun vs H Q E h => ?_) (fun cdv A outer s H vs Q E hr h => ?_)
  · obtain ⟨a, l, rfl, _⟩ := h
    rfl
  refine ⟨_, (pss_cons (ps_set (i := 1) S.nd rfl (Or.inl rfl) (pe_make0 MK GI (hr.mono (by decide)) rfl T.gC bI .nil pass0))
    (pss_cons (ps_set (i := 2) S.nd rfl (Or.inl rfl) (pe_lst pa_nil))
    (pss_cons (ps_set (i := 3) S.nd rfl (Or.inl rfl) pe_int)
    (pss_cons (ps_while PassesOwn.never (pt_cmpR op_lt (pv 3) (pe_callB call_len_seq (by rfl) c.len PySem.boot_len (pa_cons (pv 0) pa_nil)) (nomark _))
      (pss_cons (ps_set (i := 4) S.nd rfl (Or.inl rfl) (pe_do R.place_after (hr.mono (by decide)) rfl (pa_cons (pv 0) (pa_cons (pv 3) pa_nil))))
      (pss_cons (ps_set (i := 5) S.nd rfl (Or.inl rfl) (pe_do R.answer_of (hr.mono (by decide)) rfl (pa_cons (pv 1) (pa_cons (pe_ix ix_list (pv 0) (pv 3) (fun _ _ => rfl)) (pa_cons (pe_slice sl_list (pv 0) (po_some (pe_op op_add (pv 3) pe_int)) (po_some (pv 4))) pa_nil)))))
      (pss_cons (ps_expr (pe_bm PySem.F.plainAttrs_list PySem.F.slot_list_append PySem.F.type_list_append mt_append (pv 2) (pa_cons (pe_callB call_len_seq (by rfl) c.len PySem.boot_len (pa_cons (pv 5) pa_nil)) pa_nil)))
      (pss_cons (ps_expr (pe_bm PySem.F.plainAttrs_list PySem.F.slot_list_extend PySem.F.type_list_extend mt_extend (pv 2) (pa_cons (pv 5) pa_nil)))
      (pss_one (ps_set (i := 3) S.nd rfl (Or.inl rfl) (pv 4))))))))
    (pss_one (ps_ret (pv 2))))))), ?_⟩
  obtain ⟨a, l, rfl, hl, asked, q⟩ := h
  obtain ⟨cs0, el, sh, ea, lim⟩ := asked_is asked
  intro s dx ns ndx ne
  have k1 : Same H (upd H dx (.own s)) := same_new ndx
  have k2 : Same H (upd (upd H dx (.own s)) s (.ins C dx [])) := same_at k1 ns
  refine ⟨s, dx, rfl, upd_same, fun H1 cc t k V1 kp1 nt nk => ⟨rfl, ?_⟩⟩
  have nt0 : H t = none := k2.free nt
  have nk0 : H k = none := k2.free nk
  have s1 : Same H H1 := fun b o e => kp1 b o (ne_of_none e ns) (k2 _ _ e)
  refine ⟨Nat.zero_le _, fun p np => ?_⟩
  have s2 := same_new (o := .lst []) np
  refine ⟨InvN C H a s p t k l (PyWf06.answers l), ⟨_, ⟨cs0, Wf06.init, cc, [], 0, none, none, rfl, rfl, s1.trans s2, upd_same, ?_, by rw [List.drop_zero]; exact el, Nat.zero_le _, sh, by rw [ea]; rfl⟩⟩, ?_⟩
  · have old : Old (· = p) (upd H1 p (.lst [])) := fun b z => ⟨.lst [], by have z : b = p := z; rw [z]; exact upd_same⟩
    rw [cut_upd (N := (· = p)) rfl]
    have e : Same H1 (cut (· = p) H1) := fun b o hb => by
      rw [cut_out (N := (· = p)) (fun z : b = p => ne_of_none hb np z)]; exact hb
    exact V1.same e
  rintro j σ H2 ⟨cs, h, c2, told, pl, v4, v5, rfl, rfl, s3, hp, V2, hd, hpl, sx, eall⟩
  have hl2 := s3.seq hl
  refine ⟨_, rfl, _, rfl, a, _, rfl, .inl hl2, _, _, rfl, rfl, _, rfl, ite2 (fun z => ?_) (fun z => ?_)⟩
  · have z : (pl : Int) < ((l.map V.int).length : Int) := of_decide_eq_true z
    rw [List.length_map] at z
    refine ⟨fun σ' H' => ∃ m', m' < cs.length ∧ InvN C H a s p t k l (PyWf06.answers l) m' σ' H', fun _ _ z => z, ?_⟩
    cases cs with
    | nil =>
      have := congrArg List.length hd
      rw [List.length_drop] at this
      exact absurd this (by show ¬ _ = 0; omega)
    | cons x cs =>
      have hd' : l.drop pl = flatOf x ++ flats cs := hd
      obtain ⟨z0, r, ex⟩ := flat_cons x
      refine ⟨_, rfl, _, rfl, a, l, pl, x, flats cs, rfl, hl2, hd', ?_⟩
      have g0 : (l.map V.int)[pl]? = some (V.int z0) := by
        have : (l.drop pl)[0]? = some z0 := by rw [hd', ex]; rfl
        rw [List.getElem?_drop] at this
        rw [List.getElem?_map]
        rw [show pl + 0 = pl from rfl] at this
        rw [this]; rfl
      refine ⟨_, rfl, _, rfl, _, rfl, a, _, _, _, rfl, rfl, hl2, atI_nat g0, _, rfl, _, rfl, _, _, rfl, rfl, ((pl + 1 : Nat) : Int), rfl, _, rfl, ((pl + (flatOf x).length : Nat) : Int), rfl, a, _, rfl, hl2, fun b nb => ?_⟩
      have cutb : cutV (l.map V.int) (some ((pl + 1 : Nat) : Int)) (some ((pl + (flatOf x).length : Nat) : Int)) = r.map V.int := by
        rw [cut_nat, ← List.map_drop, ← List.map_take, ← List.drop_drop, hd', ex]
        have e : pl + (z0 :: r).length - (pl + 1) = r.length := by rw [List.length_cons]; omega
        rw [e]
        simp
      rw [cutb]
      have s4 := same_new (o := .lst (r.map V.int)) nb
      have oldL : OldL (· = p) (upd H2 b (.lst (r.map V.int))) := fun b' z => ⟨told.map V.int, by have z : b' = p := z; rw [z]; exact s4 _ _ hp⟩
      refine ⟨(· = p), s, c2, t, k, h, x, z0, r, b, rfl, ex, upd_same, sx x (by simp), oldL, V2.same (same_cut s4), fun H4 c4 rr kp4 V4 hr nr => ?_⟩
      obtain ⟨⟨dx2, hs2⟩, _, B2, _, _⟩ := V2
      have nps : p ≠ s := fun z => (cut_some hs2).1 z.symm
      have npt : p ≠ t := fun z => (cut_some B2.times).1 z.symm
      have npk : p ≠ k := fun z => (cut_some B2.costs).1 z.symm
      have hp4 : H4 p = some (.lst (told.map V.int)) := kp4 _ _ nps npt npk (s4 _ _ hp)
      have nrp : rr ≠ p := (ne_of_none (s4 _ _ hp) nr).symm
      have s34 : Same H H4 := fun b o e => kp4 _ _ (ne_of_none e ns) (ne_of_none e nt0) (ne_of_none e nk0) (s4 _ _ (s3 _ _ e))
      have eall' : told ++ (((Wf06Neutral.out (Wf06.step h x).2).length : Int) :: Wf06Neutral.out (Wf06.step h x).2 ++ tells (Wf06.step h x).1 cs) = PyWf06.answers l := eall
      have long : told.length + 1 + (Wf06Neutral.out (Wf06.step h x).2).length ≤ 10000000 := by
        rw [ea] at eall'
        rw [← eall'] at lim
        simp at lim; omega
      have big : (10000000 : Nat) < sizeLine := by decide
      generalize hout : Wf06Neutral.out (Wf06.step h x).2 = out at hr eall' long
      refine ⟨_, rfl, .inl ⟨rfl, _, SqL.of hp4⟩, _, rfl, rr, _, rfl, .inl (SqL.of hr), p, _, _, rfl, rfl, hp4, by rw [List.length_map]; omega, ?_⟩
      have hr5 : (upd H4 p (.lst (told.map V.int ++ [V.int ((out.map V.int).length : Int)]))) rr = some (.lst (out.map V.int)) := by rw [upd_ne nrp]; exact hr
      refine ⟨_, rfl, .inl ⟨rfl, _, SqL.of upd_same⟩, _, rfl, p, rr, _, _, rfl, rfl, upd_same, hr5, by rw [List.length_append, List.length_map, List.length_map, List.length_singleton]; omega, ?_⟩
      rw [upd_upd]
      refine ⟨_, rfl, cs.length, by simp, cs, (Wf06.step h x).1, c4, told ++ (out.length : Int) :: out, pl + (flatOf x).length, _, _, rfl, rfl, same_at s34 (s1.free np), ?_, ?_, ?_, ?_, fun y hy => sx y (by simp [hy]), ?_⟩
      · rw [upd_same]
        simp
      · rw [cut_upd (N := (· = p)) rfl]
        exact V4
      · rw [← List.drop_drop, hd', List.drop_left]
      · have := congrArg List.length hd'
        rw [List.length_drop, List.length_append] at this
        omega
      · rw [← eall']; simp
  · have z : ¬ (pl : Int) < ((l.map V.int).length : Int) := fun y => z (decide_eq_true y)
    rw [List.length_map] at z
    rw [List.drop_of_length_le (by omega)] at hd
    cases cs with
    | cons x cs =>
      obtain ⟨z0, r, ex⟩ := flat_cons x
      have hd' : [] = flatOf x ++ flats cs := hd
      rw [ex] at hd'
      cases hd'
    | nil =>
      have e : told = PyWf06.answers l := by rw [← eall]; exact (List.append_nil _).symm
      exact ⟨_, rfl, q H2 p (by rw [← e]; exact hp)⟩
end
end Pf

set_option Elab.async false
set_option linter.all false
set_option maxRecDepth 100000
set_option maxHeartbeats 4000000
/-! All defs together, from what the top has left. -/
namespace Pf
open PySem PySem.Spec PyProof.Rows L2
abbrev sKey : Stmt := top 16
theorem scKey : FnScope ["entry"] ["entry"] (defScope sKey) := ⟨rfl, rfl, rfl, by decide +kernel, rfl, by decide +kernel, by decide +kernel⟩
theorem all_mk {P : Program} {w : World} {K : PySem.W.Frag} {h : Heap} {mg : Str → Option Value} {fa C f1 f2 f3 f4 f5 f6 f7 f8 f9 f10 f11 f12 f13 f14 f15 f16 f17 f18 f19 f20 f21 f22 f23 f24 f25 f26 f27 f28 f29 f30 f31 f32 f33 f34 f35 : Addr} (X : K.In h) (G : h.Ns mainGlobals mg) (hfa : mg "answers" = some (.ref fa))
    {od1 an1 od2 an2 od3 an3 od4 an4 od5 an5 od6 an6 od7 an7 od8 an8 od9 an9 od10 an10 od11 an11 od12 an12 od13 an13 od14 an14 od15 an15 od16 an16 od17 an17 od18 an18 od19 an19 od20 an20 od21 an21 od22 an22 od23 an23 od24 an24 od25 an25 od26 an26 od27 an27 od28 an28 od29 an29 od30 an30 od31 an31 od32 an32 od33 an33 od34 an34 od35 an35 : Option Addr} {sl1 sl2 sl3 sl4 sl5 sl6 sl7 sl8 sl9 sl10 sl11 sl12 sl13 sl14 sl15 sl16 sl17 sl18 sl19 sl20 sl21 sl22 sl23 sl24 sl25 sl26 sl27 sl28 sl29 sl30 sl31 sl32 sl33 sl34 sl35 : Array (Option Value)} {oc1 kV1 dc1 pm1 cd1 ct1 oc2 kV2 dc2 pm2 cd2 ct2 oc3 kV3 dc3 pm3 cd3 ct3 oc4 kV4 dc4 pm4 cd4 ct4 oc5 kV5 dc5 pm5 cd5 ct5 oc6 kV6 dc6 pm6 cd6 ct6 oc7 kV7 dc7 pm7 cd7 ct7 oc8 kV8 dc8 pm8 cd8 ct8 oc9 kV9 dc9 pm9 cd9 ct9 oc10 kV10 dc10 pm10 cd10 ct10 oc11 kV11 dc11 pm11 cd11 ct11 oc12 kV12 dc12 pm12 cd12 ct12 oc13 kV13 dc13 pm13 cd13 ct13 oc14 kV14 dc14 pm14 cd14 ct14 oc15 kV15 dc15 pm15 cd15 ct15 oc16 kV16 dc16 pm16 cd16 ct16 oc17 kV17 dc17 pm17 cd17 ct17 oc18 kV18 dc18 pm18 cd18 ct18 oc19 kV19 dc19 pm19 cd19 ct19 oc20 kV20 dc20 pm20 cd20 ct20 oc21 kV21 dc21 pm21 cd21 ct21 oc22 kV22 dc22 pm22 cd22 ct22 oc23 kV23 dc23 pm23 cd23 ct23 oc24 kV24 dc24 pm24 cd24 ct24 oc25 kV25 dc25 pm25 cd25 ct25 oc26 kV26 dc26 pm26 cd26 ct26 oc27 kV27 dc27 pm27 cd27 ct27 oc28 kV28 dc28 pm28 cd28 ct28 oc29 kV29 dc29 pm29 cd29 ct29 oc30 kV30 dc30 pm30 cd30 ct30 oc31 kV31 dc31 pm31 cd31 ct31 oc32 kV32 dc32 pm32 cd32 ct32 oc33 kV33 dc33 pm33 cd33 ct33 oc34 kV34 dc34 pm34 cd34 ct34 oc35 kV35 dc35 pm35 cd35 ct35 : Value} {tSTEP tEMPTY tSEQUENCE tCHOICE tLOOP tLAST_STEP tGREATEST_SIZE tGREATEST_AMOUNT tMOST_ROUNDS tCALL_PROCESS tCALL_STEP tCALL_ROUNDS tCALL_FRONT tCALL_BY tCALL_SOONEST tCALL_WORST tCALL_JUDGE : Tok}
    (a1 : PySem.W.nsIn K mainGlobals "has_parts" = some (some (.ref f1)))
    (l1 : K.lookup f1 = some ⟨oc1, od1, .func (PySem.W.fnOf "has_parts" "has_parts" (defArgs sHas) (defBody sHas) (defScope sHas) .none kV1 dc1 pm1 an1 cd1 ct1), sl1⟩)
    (c1 : PySem.W.codeIn K cd1 "has_parts" = true)
    (k1 : PySem.W.keepIn K (.ref f1) = true)
    (a2 : PySem.W.nsIn K mainGlobals "written_at" = some (some (.ref f2)))
    (l2 : K.lookup f2 = some ⟨oc2, od2, .func (PySem.W.fnOf "written_at" "written_at" (defArgs sAt) (defBody sAt) (defScope sAt) .none kV2 dc2 pm2 an2 cd2 ct2), sl2⟩)
    (c2 : PySem.W.codeIn K cd2 "written_at" = true)
    (k2 : PySem.W.keepIn K (.ref f2) = true)
    (a3 : PySem.W.nsIn K mainGlobals "written_constructs" = some (some (.ref f3)))
    (l3 : K.lookup f3 = some ⟨oc3, od3, .func (PySem.W.fnOf "written_constructs" "written_constructs" (defArgs sWr) (defBody sWr) (defScope sWr) .none kV3 dc3 pm3 an3 cd3 ct3), sl3⟩)
    (c3 : PySem.W.codeIn K cd3 "written_constructs" = true)
    (k3 : PySem.W.keepIn K (.ref f3) = true)
    (a4 : PySem.W.nsIn K mainGlobals "constructs_of" = some (some (.ref f4)))
    (l4 : K.lookup f4 = some ⟨oc4, od4, .func (PySem.W.fnOf "constructs_of" "constructs_of" (defArgs sOf) (defBody sOf) (defScope sOf) .none kV4 dc4 pm4 an4 cd4 ct4), sl4⟩)
    (c4 : PySem.W.codeIn K cd4 "constructs_of" = true)
    (k4 : PySem.W.keepIn K (.ref f4) = true)
    (a5 : PySem.W.nsIn K mainGlobals "is_empty_capable" = some (some (.ref f5)))
    (l5 : K.lookup f5 = some ⟨oc5, od5, .func (PySem.W.fnOf "is_empty_capable" "is_empty_capable" (defArgs sCap) (defBody sCap) (defScope sCap) .none kV5 dc5 pm5 an5 cd5 ct5), sl5⟩)
    (c5 : PySem.W.codeIn K cd5 "is_empty_capable" = true)
    (k5 : PySem.W.keepIn K (.ref f5) = true)
    (a6 : PySem.W.nsIn K mainGlobals "has_loop_of_empty" = some (some (.ref f6)))
    (l6 : K.lookup f6 = some ⟨oc6, od6, .func (PySem.W.fnOf "has_loop_of_empty" "has_loop_of_empty" (defArgs sLp) (defBody sLp) (defScope sLp) .none kV6 dc6 pm6 an6 cd6 ct6), sl6⟩)
    (c6 : PySem.W.codeIn K cd6 "has_loop_of_empty" = true)
    (k6 : PySem.W.keepIn K (.ref f6) = true)
    (a7 : PySem.W.nsIn K mainGlobals "add_loop" = some (some (.ref f7)))
    (l7 : K.lookup f7 = some ⟨oc7, od7, .func (PySem.W.fnOf "add_loop" "add_loop" (defArgs sAdd) (defBody sAdd) (defScope sAdd) .none kV7 dc7 pm7 an7 cd7 ct7), sl7⟩)
    (c7 : PySem.W.codeIn K cd7 "add_loop" = true)
    (k7 : PySem.W.keepIn K (.ref f7) = true)
    (a8 : PySem.W.nsIn K mainGlobals "without_loops" = some (some (.ref f8)))
    (l8 : K.lookup f8 = some ⟨oc8, od8, .func (PySem.W.fnOf "without_loops" "without_loops" (defArgs sWl) (defBody sWl) (defScope sWl) .none kV8 dc8 pm8 an8 cd8 ct8), sl8⟩)
    (c8 : PySem.W.codeIn K cd8 "without_loops" = true)
    (k8 : PySem.W.keepIn K (.ref f8) = true)
    (a9 : PySem.W.nsIn K mainGlobals "pair_of" = some (some (.ref f9)))
    (l9 : K.lookup f9 = some ⟨oc9, od9, .func (PySem.W.fnOf "pair_of" "pair_of" (defArgs sKey) (defBody sKey) (defScope sKey) .none kV9 dc9 pm9 an9 cd9 ct9), sl9⟩)
    (c9 : PySem.W.codeIn K cd9 "pair_of" = true)
    (k9 : PySem.W.keepIn K (.ref f9) = true)
    (a10 : PySem.W.nsIn K mainGlobals "best_entries" = some (some (.ref f10)))
    (l10 : K.lookup f10 = some ⟨oc10, od10, .func (PySem.W.fnOf "best_entries" "best_entries" (defArgs sBe) (defBody sBe) (defScope sBe) .none kV10 dc10 pm10 an10 cd10 ct10), sl10⟩)
    (c10 : PySem.W.codeIn K cd10 "best_entries" = true)
    (k10 : PySem.W.keepIn K (.ref f10) = true)
    (a11 : PySem.W.nsIn K mainGlobals "joint_pair" = some (some (.ref f11)))
    (l11 : K.lookup f11 = some ⟨oc11, od11, .func (PySem.W.fnOf "joint_pair" "joint_pair" (defArgs sJoint) (defBody sJoint) (defScope sJoint) .none kV11 dc11 pm11 an11 cd11 ct11), sl11⟩)
    (c11 : PySem.W.codeIn K cd11 "joint_pair" = true)
    (k11 : PySem.W.keepIn K (.ref f11) = true)
    (a12 : PySem.W.nsIn K mainGlobals "joint_entries" = some (some (.ref f12)))
    (l12 : K.lookup f12 = some ⟨oc12, od12, .func (PySem.W.fnOf "joint_entries" "joint_entries" (defArgs sJe) (defBody sJe) (defScope sJe) .none kV12 dc12 pm12 an12 cd12 ct12), sl12⟩)
    (c12 : PySem.W.codeIn K cd12 "joint_entries" = true)
    (k12 : PySem.W.keepIn K (.ref f12) = true)
    (a13 : PySem.W.nsIn K mainGlobals "front_of_parts" = some (some (.ref f13)))
    (l13 : K.lookup f13 = some ⟨oc13, od13, .func (PySem.W.fnOf "front_of_parts" "front_of_parts" (defArgs sFp) (defBody sFp) (defScope sFp) .none kV13 dc13 pm13 an13 cd13 ct13), sl13⟩)
    (c13 : PySem.W.codeIn K cd13 "front_of_parts" = true)
    (k13 : PySem.W.keepIn K (.ref f13) = true)
    (a14 : PySem.W.nsIn K mainGlobals "pair_of_leaf" = some (some (.ref f14)))
    (l14 : K.lookup f14 = some ⟨oc14, od14, .func (PySem.W.fnOf "pair_of_leaf" "pair_of_leaf" (defArgs sLeaf) (defBody sLeaf) (defScope sLeaf) .none kV14 dc14 pm14 an14 cd14 ct14), sl14⟩)
    (c14 : PySem.W.codeIn K cd14 "pair_of_leaf" = true)
    (k14 : PySem.W.keepIn K (.ref f14) = true)
    (a15 : PySem.W.nsIn K mainGlobals "front_of" = some (some (.ref f15)))
    (l15 : K.lookup f15 = some ⟨oc15, od15, .func (PySem.W.fnOf "front_of" "front_of" (defArgs sFr) (defBody sFr) (defScope sFr) .none kV15 dc15 pm15 an15 cd15 ct15), sl15⟩)
    (c15 : PySem.W.codeIn K cd15 "front_of" = true)
    (k15 : PySem.W.keepIn K (.ref f15) = true)
    (a16 : PySem.W.nsIn K mainGlobals "worst_of_parts" = some (some (.ref f16)))
    (l16 : K.lookup f16 = some ⟨oc16, od16, .func (PySem.W.fnOf "worst_of_parts" "worst_of_parts" (defArgs sWop) (defBody sWop) (defScope sWop) .none kV16 dc16 pm16 an16 cd16 ct16), sl16⟩)
    (c16 : PySem.W.codeIn K cd16 "worst_of_parts" = true)
    (k16 : PySem.W.keepIn K (.ref f16) = true)
    (a17 : PySem.W.nsIn K mainGlobals "worst_of" = some (some (.ref f17)))
    (l17 : K.lookup f17 = some ⟨oc17, od17, .func (PySem.W.fnOf "worst_of" "worst_of" (defArgs sWo) (defBody sWo) (defScope sWo) .none kV17 dc17 pm17 an17 cd17 ct17), sl17⟩)
    (c17 : PySem.W.codeIn K cd17 "worst_of" = true)
    (k17 : PySem.W.keepIn K (.ref f17) = true)
    (a18 : PySem.W.nsIn K mainGlobals "is_run_here" = some (some (.ref f18)))
    (l18 : K.lookup f18 = some ⟨oc18, od18, .func (PySem.W.fnOf "is_run_here" "is_run_here" (defArgs sRh) (defBody sRh) (defScope sRh) .none kV18 dc18 pm18 an18 cd18 ct18), sl18⟩)
    (c18 : PySem.W.codeIn K cd18 "is_run_here" = true)
    (k18 : PySem.W.keepIn K (.ref f18) = true)
    (a19 : PySem.W.nsIn K mainGlobals "is_run" = some (some (.ref f19)))
    (l19 : K.lookup f19 = some ⟨oc19, od19, .func (PySem.W.fnOf "is_run" "is_run" (defArgs sIr) (defBody sIr) (defScope sIr) .none kV19 dc19 pm19 an19 cd19 ct19), sl19⟩)
    (c19 : PySem.W.codeIn K cd19 "is_run" = true)
    (k19 : PySem.W.keepIn K (.ref f19) = true)
    (a20 : PySem.W.nsIn K mainGlobals "has_unknown_step" = some (some (.ref f20)))
    (l20 : K.lookup f20 = some ⟨oc20, od20, .func (PySem.W.fnOf "has_unknown_step" "has_unknown_step" (defArgs sUn) (defBody sUn) (defScope sUn) .none kV20 dc20 pm20 an20 cd20 ct20), sl20⟩)
    (c20 : PySem.W.codeIn K cd20 "has_unknown_step" = true)
    (k20 : PySem.W.keepIn K (.ref f20) = true)
    (a21 : PySem.W.nsIn K mainGlobals "is_process" = some (some (.ref f21)))
    (l21 : K.lookup f21 = some ⟨oc21, od21, .func (PySem.W.fnOf "is_process" "is_process" (defArgs sPr) (defBody sPr) (defScope sPr) .none kV21 dc21 pm21 an21 cd21 ct21), sl21⟩)
    (c21 : PySem.W.codeIn K cd21 "is_process" = true)
    (k21 : PySem.W.keepIn K (.ref f21) = true)
    (a22 : PySem.W.nsIn K mainGlobals "place_after" = some (some (.ref f22)))
    (l22 : K.lookup f22 = some ⟨oc22, od22, .func (PySem.W.fnOf "place_after" "place_after" (defArgs sPa) (defBody sPa) (defScope sPa) .none kV22 dc22 pm22 an22 cd22 ct22), sl22⟩)
    (c22 : PySem.W.codeIn K cd22 "place_after" = true)
    (k22 : PySem.W.keepIn K (.ref f22) = true)
    (a23 : PySem.W.nsIn K mainGlobals "answer_of" = some (some (.ref f23)))
    (l23 : K.lookup f23 = some ⟨oc23, od23, .func (PySem.W.fnOf "answer_of" "answer_of" (defArgs sAo) (defBody sAo) (defScope sAo) .none kV23 dc23 pm23 an23 cd23 ct23), sl23⟩)
    (c23 : PySem.W.codeIn K cd23 "answer_of" = true)
    (k23 : PySem.W.keepIn K (.ref f23) = true)
    (a24 : PySem.W.nsIn K mainGlobals "answers" = some (some (.ref f24)))
    (l24 : K.lookup f24 = some ⟨oc24, od24, .func (PySem.W.fnOf "answers" "answers" (defArgs sAn) (defBody sAn) (defScope sAn) .none kV24 dc24 pm24 an24 cd24 ct24), sl24⟩)
    (c24 : PySem.W.codeIn K cd24 "answers" = true)
    (k24 : PySem.W.keepIn K (.ref f24) = true)
    (a25 : PySem.W.findIn K (.ref C) "__init__" = some (some (.ref f25)))
    (i25 : PySem.W.isFn K (.ref f25) = true)
    (l25 : K.lookup f25 = some ⟨oc25, od25, .func (PySem.W.fnOf "__init__" "Service.__init__" (defArgs sIni) (defBody sIni) (defScope sIni) .none kV25 dc25 pm25 an25 cd25 ct25), sl25⟩)
    (c25 : PySem.W.codeIn K cd25 "Service.__init__" = true)
    (k25 : PySem.W.keepIn K (.ref f25) = true)
    (a26 : PySem.W.findIn K (.ref C) "process" = some (some (.ref f26)))
    (i26 : PySem.W.isFn K (.ref f26) = true)
    (l26 : K.lookup f26 = some ⟨oc26, od26, .func (PySem.W.fnOf "process" "Service.process" (defArgs sPs) (defBody sPs) (defScope sPs) .none kV26 dc26 pm26 an26 cd26 ct26), sl26⟩)
    (c26 : PySem.W.codeIn K cd26 "Service.process" = true)
    (k26 : PySem.W.keepIn K (.ref f26) = true)
    (a27 : PySem.W.findIn K (.ref C) "step" = some (some (.ref f27)))
    (i27 : PySem.W.isFn K (.ref f27) = true)
    (l27 : K.lookup f27 = some ⟨oc27, od27, .func (PySem.W.fnOf "step" "Service.step" (defArgs sSt) (defBody sSt) (defScope sSt) .none kV27 dc27 pm27 an27 cd27 ct27), sl27⟩)
    (c27 : PySem.W.codeIn K cd27 "Service.step" = true)
    (k27 : PySem.W.keepIn K (.ref f27) = true)
    (a28 : PySem.W.findIn K (.ref C) "rounds" = some (some (.ref f28)))
    (i28 : PySem.W.isFn K (.ref f28) = true)
    (l28 : K.lookup f28 = some ⟨oc28, od28, .func (PySem.W.fnOf "rounds" "Service.rounds" (defArgs sRo) (defBody sRo) (defScope sRo) .none kV28 dc28 pm28 an28 cd28 ct28), sl28⟩)
    (c28 : PySem.W.codeIn K cd28 "Service.rounds" = true)
    (k28 : PySem.W.keepIn K (.ref f28) = true)
    (a29 : PySem.W.findIn K (.ref C) "unrolled" = some (some (.ref f29)))
    (i29 : PySem.W.isFn K (.ref f29) = true)
    (l29 : K.lookup f29 = some ⟨oc29, od29, .func (PySem.W.fnOf "unrolled" "Service.unrolled" (defArgs sUr) (defBody sUr) (defScope sUr) .none kV29 dc29 pm29 an29 cd29 ct29), sl29⟩)
    (c29 : PySem.W.codeIn K cd29 "Service.unrolled" = true)
    (k29 : PySem.W.keepIn K (.ref f29) = true)
    (a30 : PySem.W.findIn K (.ref C) "selected_runs" = some (some (.ref f30)))
    (i30 : PySem.W.isFn K (.ref f30) = true)
    (l30 : K.lookup f30 = some ⟨oc30, od30, .func (PySem.W.fnOf "selected_runs" "Service.selected_runs" (defArgs sSe) (defBody sSe) (defScope sSe) .none kV30 dc30 pm30 an30 cd30 ct30), sl30⟩)
    (c30 : PySem.W.codeIn K cd30 "Service.selected_runs" = true)
    (k30 : PySem.W.keepIn K (.ref f30) = true)
    (a31 : PySem.W.findIn K (.ref C) "front" = some (some (.ref f31)))
    (i31 : PySem.W.isFn K (.ref f31) = true)
    (l31 : K.lookup f31 = some ⟨oc31, od31, .func (PySem.W.fnOf "front" "Service.front" (defArgs sFn) (defBody sFn) (defScope sFn) .none kV31 dc31 pm31 an31 cd31 ct31), sl31⟩)
    (c31 : PySem.W.codeIn K cd31 "Service.front" = true)
    (k31 : PySem.W.keepIn K (.ref f31) = true)
    (a32 : PySem.W.findIn K (.ref C) "by" = some (some (.ref f32)))
    (i32 : PySem.W.isFn K (.ref f32) = true)
    (l32 : K.lookup f32 = some ⟨oc32, od32, .func (PySem.W.fnOf "by" "Service.by" (defArgs sBy) (defBody sBy) (defScope sBy) .none kV32 dc32 pm32 an32 cd32 ct32), sl32⟩)
    (c32 : PySem.W.codeIn K cd32 "Service.by" = true)
    (k32 : PySem.W.keepIn K (.ref f32) = true)
    (a33 : PySem.W.findIn K (.ref C) "soonest" = some (some (.ref f33)))
    (i33 : PySem.W.isFn K (.ref f33) = true)
    (l33 : K.lookup f33 = some ⟨oc33, od33, .func (PySem.W.fnOf "soonest" "Service.soonest" (defArgs sSo) (defBody sSo) (defScope sSo) .none kV33 dc33 pm33 an33 cd33 ct33), sl33⟩)
    (c33 : PySem.W.codeIn K cd33 "Service.soonest" = true)
    (k33 : PySem.W.keepIn K (.ref f33) = true)
    (a34 : PySem.W.findIn K (.ref C) "worst" = some (some (.ref f34)))
    (i34 : PySem.W.isFn K (.ref f34) = true)
    (l34 : K.lookup f34 = some ⟨oc34, od34, .func (PySem.W.fnOf "worst" "Service.worst" (defArgs sWs) (defBody sWs) (defScope sWs) .none kV34 dc34 pm34 an34 cd34 ct34), sl34⟩)
    (c34 : PySem.W.codeIn K cd34 "Service.worst" = true)
    (k34 : PySem.W.keepIn K (.ref f34) = true)
    (a35 : PySem.W.findIn K (.ref C) "judge" = some (some (.ref f35)))
    (i35 : PySem.W.isFn K (.ref f35) = true)
    (l35 : K.lookup f35 = some ⟨oc35, od35, .func (PySem.W.fnOf "judge" "Service.judge" (defArgs sJu) (defBody sJu) (defScope sJu) .none kV35 dc35 pm35 an35 cd35 ct35), sl35⟩)
    (c35 : PySem.W.codeIn K cd35 "Service.judge" = true)
    (k35 : PySem.W.keepIn K (.ref f35) = true)
    (nSTEP : PySem.W.nsIn K mainGlobals "STEP" = some (some (.int 0 tSTEP)))
    (nEMPTY : PySem.W.nsIn K mainGlobals "EMPTY" = some (some (.int 1 tEMPTY)))
    (nSEQUENCE : PySem.W.nsIn K mainGlobals "SEQUENCE" = some (some (.int 2 tSEQUENCE)))
    (nCHOICE : PySem.W.nsIn K mainGlobals "CHOICE" = some (some (.int 3 tCHOICE)))
    (nLOOP : PySem.W.nsIn K mainGlobals "LOOP" = some (some (.int 5 tLOOP)))
    (nLAST_STEP : PySem.W.nsIn K mainGlobals "LAST_STEP" = some (some (.int 5 tLAST_STEP)))
    (nGREATEST_SIZE : PySem.W.nsIn K mainGlobals "GREATEST_SIZE" = some (some (.int 11 tGREATEST_SIZE)))
    (nGREATEST_AMOUNT : PySem.W.nsIn K mainGlobals "GREATEST_AMOUNT" = some (some (.int 100 tGREATEST_AMOUNT)))
    (nMOST_ROUNDS : PySem.W.nsIn K mainGlobals "MOST_ROUNDS" = some (some (.int 3 tMOST_ROUNDS)))
    (nCALL_PROCESS : PySem.W.nsIn K mainGlobals "CALL_PROCESS" = some (some (.int 0 tCALL_PROCESS)))
    (nCALL_STEP : PySem.W.nsIn K mainGlobals "CALL_STEP" = some (some (.int 1 tCALL_STEP)))
    (nCALL_ROUNDS : PySem.W.nsIn K mainGlobals "CALL_ROUNDS" = some (some (.int 2 tCALL_ROUNDS)))
    (nCALL_FRONT : PySem.W.nsIn K mainGlobals "CALL_FRONT" = some (some (.int 3 tCALL_FRONT)))
    (nCALL_BY : PySem.W.nsIn K mainGlobals "CALL_BY" = some (some (.int 4 tCALL_BY)))
    (nCALL_SOONEST : PySem.W.nsIn K mainGlobals "CALL_SOONEST" = some (some (.int 5 tCALL_SOONEST)))
    (nCALL_WORST : PySem.W.nsIn K mainGlobals "CALL_WORST" = some (some (.int 6 tCALL_WORST)))
    (nCALL_JUDGE : PySem.W.nsIn K mainGlobals "CALL_JUDGE" = some (some (.int 7 tCALL_JUDGE)))
    (zlen : PySem.W.nsIn K mainGlobals "len" = some none)
    (ztuple : PySem.W.nsIn K mainGlobals "tuple" = some none)
    (zlist : PySem.W.nsIn K mainGlobals "list" = some none)
    (zmax : PySem.W.nsIn K mainGlobals "max" = some none)
    (zsorted : PySem.W.nsIn K mainGlobals "sorted" = some none)
    (zreversed : PySem.W.nsIn K mainGlobals "reversed" = some none)
    (zrange : PySem.W.nsIn K mainGlobals "range" = some none)
    (aC : PySem.W.nsIn K mainGlobals "Service" = some (some (.ref C)))
    (nC : PySem.W.findIn K (.ref C) "constructs" = some none)
    (nT : PySem.W.findIn K (.ref C) "times" = some none)
    (nK : PySem.W.findIn K (.ref C) "costs" = some none)
    (nR : PySem.W.findIn K (.ref C) "round_count" = some none)
    (pg : PySem.W.plainGet K C Str.empty = true)
    (hd : PySem.W.hasDictIn K C = true)
    (po : PySem.W.plainOver K C = true)
    (sa : PySem.W.findIn K (.ref C) "__setattr__" = some (some (.builtin "object.__setattr__")))
    (mk : PySem.W.makesIn K C = true)
    (kc : PySem.W.keepIn K (.ref C) = true) :
    ∃ fd : FuncData, (∀ (s : Shared) (us : List Value), us.length = (["calls"] : List Str).length → BindsTo s fd ⟨us, []⟩ ((["calls"] : List Str).zip us)) ∧ ∀ base : Heap, K.In base → base.Ns mainGlobals mg → FnOk P w K mg base CX0 10 fa fd ["calls"] (spAns K) := by
  have e := hfa.symm.trans (PySem.W.mg_of X G a24)
  cases e
  have c : Pf.Con mg := ⟨⟨_, PySem.W.mg_of X G nSTEP⟩, ⟨_, PySem.W.mg_of X G nEMPTY⟩, ⟨_, PySem.W.mg_of X G nSEQUENCE⟩, ⟨_, PySem.W.mg_of X G nCHOICE⟩, ⟨_, PySem.W.mg_of X G nLOOP⟩, ⟨_, PySem.W.mg_of X G nLAST_STEP⟩, ⟨_, PySem.W.mg_of X G nGREATEST_SIZE⟩, ⟨_, PySem.W.mg_of X G nGREATEST_AMOUNT⟩, ⟨_, PySem.W.mg_of X G nMOST_ROUNDS⟩, ⟨_, PySem.W.mg_of X G nCALL_PROCESS⟩, ⟨_, PySem.W.mg_of X G nCALL_STEP⟩, ⟨_, PySem.W.mg_of X G nCALL_ROUNDS⟩, ⟨_, PySem.W.mg_of X G nCALL_FRONT⟩, ⟨_, PySem.W.mg_of X G nCALL_BY⟩, ⟨_, PySem.W.mg_of X G nCALL_SOONEST⟩, ⟨_, PySem.W.mg_of X G nCALL_WORST⟩, ⟨_, PySem.W.mg_of X G nCALL_JUDGE⟩, PySem.W.mg_none_of X G zlen, PySem.W.mg_none_of X G ztuple, PySem.W.mg_none_of X G zlist, PySem.W.mg_none_of X G zmax, PySem.W.mg_none_of X G zsorted, PySem.W.mg_none_of X G zreversed, PySem.W.mg_none_of X G zrange⟩
  have T : Cl K mg C := ⟨⟨pg, hd, po, sa⟩, nC, nT, nK, nR, PySem.W.mg_of X G aC⟩
  have F1 := fun_mk (st := sHas) l1 c1 k1
  have b1 := F1.binds (ps := ["kind"]) fun _ _ _ _ _ _ us hl => match us, hl with | [_], _ => rfl
  have F2 := fun_mk (st := sAt) l2 c2 k2
  have b2 := F2.binds (ps := ["numbers", "place"]) fun _ _ _ _ _ _ us hl => match us, hl with | [_, _], _ => rfl
  have F3 := fun_mk (st := sWr) l3 c3 k3
  have b3 := F3.binds (ps := ["numbers"]) fun _ _ _ _ _ _ us hl => match us, hl with | [_], _ => rfl
  have F4 := fun_mk (st := sOf) l4 c4 k4
  have b4 := F4.binds (ps := ["numbers"]) fun _ _ _ _ _ _ us hl => match us, hl with | [_], _ => rfl
  have F5 := fun_mk (st := sCap) l5 c5 k5
  have b5 := F5.binds (ps := ["kind", "first", "second"]) fun _ _ _ _ _ _ us hl => match us, hl with | [_, _, _], _ => rfl
  have F6 := fun_mk (st := sLp) l6 c6 k6
  have b6 := F6.binds (ps := ["constructs"]) fun _ _ _ _ _ _ us hl => match us, hl with | [_], _ => rfl
  have F7 := fun_mk (st := sAdd) l7 c7 k7
  have b7 := F7.binds (ps := ["unrolled", "first", "second", "rounds"]) fun _ _ _ _ _ _ us hl => match us, hl with | [_, _, _, _], _ => rfl
  have F8 := fun_mk (st := sWl) l8 c8 k8
  have b8 := F8.binds (ps := ["constructs", "rounds"]) fun _ _ _ _ _ _ us hl => match us, hl with | [_, _], _ => rfl
  have F9 := fun_mk (st := sKey) l9 c9 k9
  have b9 := F9.binds (ps := ["entry"]) fun _ _ _ _ _ _ us hl => match us, hl with | [_], _ => rfl
  have F10 := fun_mk (st := sBe) l10 c10 k10
  have b10 := F10.binds (ps := ["entries"]) fun _ _ _ _ _ _ us hl => match us, hl with | [_], _ => rfl
  have F11 := fun_mk (st := sJoint) l11 c11 k11
  have b11 := F11.binds (ps := ["kind", "first", "second"]) fun _ _ _ _ _ _ us hl => match us, hl with | [_, _, _], _ => rfl
  have F12 := fun_mk (st := sJe) l12 c12 k12
  have b12 := F12.binds (ps := ["kind", "first", "second"]) fun _ _ _ _ _ _ us hl => match us, hl with | [_, _, _], _ => rfl
  have F13 := fun_mk (st := sFp) l13 c13 k13
  have b13 := F13.binds (ps := ["kind", "first", "second"]) fun _ _ _ _ _ _ us hl => match us, hl with | [_, _, _], _ => rfl
  have F14 := fun_mk (st := sLeaf) l14 c14 k14
  have b14 := F14.binds (ps := ["construct", "times", "costs"]) fun _ _ _ _ _ _ us hl => match us, hl with | [_, _, _], _ => rfl
  have F15 := fun_mk (st := sFr) l15 c15 k15
  have b15 := F15.binds (ps := ["constructs", "times", "costs"]) fun _ _ _ _ _ _ us hl => match us, hl with | [_, _, _], _ => rfl
  have F16 := fun_mk (st := sWop) l16 c16 k16
  have b16 := F16.binds (ps := ["kind", "first", "second"]) fun _ _ _ _ _ _ us hl => match us, hl with | [_, _, _], _ => rfl
  have F17 := fun_mk (st := sWo) l17 c17 k17
  have b17 := F17.binds (ps := ["constructs", "times", "costs"]) fun _ _ _ _ _ _ us hl => match us, hl with | [_, _, _], _ => rfl
  have F18 := fun_mk (st := sRh) l18 c18 k18
  have b18 := F18.binds (ps := ["part", "construct", "fits", "fits_here"]) fun _ _ _ _ _ _ us hl => match us, hl with | [_, _, _, _], _ => rfl
  have F19 := fun_mk (st := sIr) l19 c19 k19
  have b19 := F19.binds (ps := ["run", "constructs"]) fun _ _ _ _ _ _ us hl => match us, hl with | [_, _], _ => rfl
  have F20 := fun_mk (st := sUn) l20 c20 k20
  have b20 := F20.binds (ps := ["constructs"]) fun _ _ _ _ _ _ us hl => match us, hl with | [_], _ => rfl
  have F21 := fun_mk (st := sPr) l21 c21 k21
  have b21 := F21.binds (ps := ["constructs"]) fun _ _ _ _ _ _ us hl => match us, hl with | [_], _ => rfl
  have F22 := fun_mk (st := sPa) l22 c22 k22
  have b22 := F22.binds (ps := ["calls", "place"]) fun _ _ _ _ _ _ us hl => match us, hl with | [_, _], _ => rfl
  have F23 := fun_mk (st := sAo) l23 c23 k23
  have b23 := F23.binds (ps := ["service", "call", "handed"]) fun _ _ _ _ _ _ us hl => match us, hl with | [_, _, _], _ => rfl
  have F24 := fun_mk (st := sAn) l24 c24 k24
  have b24 := F24.binds (ps := ["calls"]) fun _ _ _ _ _ _ us hl => match us, hl with | [_], _ => rfl
  have F25 := fun_mk (st := sIni) l25 c25 k25
  have b25 := F25.binds (ps := ["self"]) fun _ _ _ _ _ _ us hl => match us, hl with | [_], _ => rfl
  have F26 := fun_mk (st := sPs) l26 c26 k26
  have b26 := F26.binds (ps := ["self", "numbers"]) fun _ _ _ _ _ _ us hl => match us, hl with | [_, _], _ => rfl
  have F27 := fun_mk (st := sSt) l27 c27 k27
  have b27 := F27.binds (ps := ["self", "step", "time", "cost"]) fun _ _ _ _ _ _ us hl => match us, hl with | [_, _, _, _], _ => rfl
  have F28 := fun_mk (st := sRo) l28 c28 k28
  have b28 := F28.binds (ps := ["self", "n"]) fun _ _ _ _ _ _ us hl => match us, hl with | [_, _], _ => rfl
  have F29 := fun_mk (st := sUr) l29 c29 k29
  have b29 := F29.binds (ps := ["self"]) fun _ _ _ _ _ _ us hl => match us, hl with | [_], _ => rfl
  have F30 := fun_mk (st := sSe) l30 c30 k30
  have b30 := F30.binds (ps := ["self"]) fun _ _ _ _ _ _ us hl => match us, hl with | [_], _ => rfl
  have F31 := fun_mk (st := sFn) l31 c31 k31
  have b31 := F31.binds (ps := ["self"]) fun _ _ _ _ _ _ us hl => match us, hl with | [_], _ => rfl
  have F32 := fun_mk (st := sBy) l32 c32 k32
  have b32 := F32.binds (ps := ["self", "time"]) fun _ _ _ _ _ _ us hl => match us, hl with | [_, _], _ => rfl
  have F33 := fun_mk (st := sSo) l33 c33 k33
  have b33 := F33.binds (ps := ["self"]) fun _ _ _ _ _ _ us hl => match us, hl with | [_], _ => rfl
  have F34 := fun_mk (st := sWs) l34 c34 k34
  have b34 := F34.binds (ps := ["self"]) fun _ _ _ _ _ _ us hl => match us, hl with | [_], _ => rfl
  have F35 := fun_mk (st := sJu) l35 c35 k35
  have b35 := F35.binds (ps := ["self", "numbers"]) fun _ _ _ _ _ _ us hl => match us, hl with | [_, _], _ => rfl
  have Y : Keyed K mg := ⟨_, ⟨_, _, _, _, _, _, _, _, F9, b9, scKey, rfl, rfl⟩, PySem.W.mg_of X G a9⟩
  refine ⟨PySem.W.fnOf "answers" "answers" (defArgs sAn) (defBody sAn) (defScope sAn) .none kV24 dc24 pm24 an24 cd24 ct24, fun s us hu => match us, hu with | [_], _ => .of_eq rfl, fun base _ _ => ?_⟩
  have r_has_parts : Ready P w K mg base 1 "has_parts" ["kind"] spHas := ⟨_, _, ok_has F1 c, PySem.W.mg_of X G a1, k1, b1⟩
  have r_is_empty_capable : Ready P w K mg base 1 "is_empty_capable" ["kind", "first", "second"] spCap := ⟨_, _, ok_cap F5 c, PySem.W.mg_of X G a5, k5, b5⟩
  have r_joint_pair : Ready P w K mg base 1 "joint_pair" ["kind", "first", "second"] spJoint := ⟨_, _, ok_joint F11 c, PySem.W.mg_of X G a11, k11, b11⟩
  have R1 : R1 P w K mg base := ⟨r_has_parts, r_is_empty_capable, r_joint_pair⟩
  have r_written_at : Ready P w K mg base 1 "written_at" ["numbers", "place"] spAt := ⟨_, _, ok_at F2 c, PySem.W.mg_of X G a2, k2, b2⟩
  have R2a : R2a P w K mg base := { R1 with written_at := r_written_at }
  have r_written_constructs : Ready P w K mg base 2 "written_constructs" ["numbers"] spWr := ⟨_, _, ok_wr F3 c R2a, PySem.W.mg_of X G a3, k3, b3⟩
  have R2b : R2b P w K mg base := { R2a with written_constructs := r_written_constructs }
  have r_constructs_of : Ready P w K mg base 3 "constructs_of" ["numbers"] spOf := ⟨_, _, ok_of F4 c R2b, PySem.W.mg_of X G a4, k4, b4⟩
  have r_has_loop_of_empty : Ready P w K mg base 2 "has_loop_of_empty" ["constructs"] spLp := ⟨_, _, ok_lp F6 c R1, PySem.W.mg_of X G a6, k6, b6⟩
  have r_has_unknown_step : Ready P w K mg base 1 "has_unknown_step" ["constructs"] spUn := ⟨_, _, ok_un F20 c, PySem.W.mg_of X G a20, k20, b20⟩
  have r_is_process : Ready P w K mg base 3 "is_process" ["constructs"] spPr := ⟨_, _, ok_pr F21 c ⟨r_has_unknown_step, r_has_loop_of_empty⟩, PySem.W.mg_of X G a21, k21, b21⟩
  have r_add_loop : Ready P w K mg base 1 "add_loop" ["unrolled", "first", "second", "rounds"] spAdd := ⟨_, _, ok_add F7 c, PySem.W.mg_of X G a7, k7, b7⟩
  have R2c : R2c P w K mg base := { R1 with add_loop := r_add_loop }
  have r_without_loops : Ready P w K mg base 2 "without_loops" ["constructs", "rounds"] spWl := ⟨_, _, ok_wl F8 c R2c, PySem.W.mg_of X G a8, k8, b8⟩
  have r_best_entries : Ready P w K mg base 4 "best_entries" ["entries"] spBe := ⟨_, _, ok_be F10 c Y, PySem.W.mg_of X G a10, k10, b10⟩
  have r_joint_entries : Ready P w K mg base 2 "joint_entries" ["kind", "first", "second"] spJe := ⟨_, _, ok_je F12 c R1, PySem.W.mg_of X G a12, k12, b12⟩
  have r_front_of_parts : Ready P w K mg base 5 "front_of_parts" ["kind", "first", "second"] spFp := ⟨_, _, ok_fp F13 c ⟨r_best_entries, r_joint_entries⟩, PySem.W.mg_of X G a13, k13, b13⟩
  have r_pair_of_leaf : Ready P w K mg base 1 "pair_of_leaf" ["construct", "times", "costs"] spLeaf := ⟨_, _, ok_leaf F14 c, PySem.W.mg_of X G a14, k14, b14⟩
  have R6 : R6 P w K mg base := { R1 with front_of_parts := r_front_of_parts, pair_of_leaf := r_pair_of_leaf }
  have r_front_of : Ready P w K mg base 6 "front_of" ["constructs", "times", "costs"] spFr := ⟨_, _, ok_fr F15 c R6, PySem.W.mg_of X G a15, k15, b15⟩
  have r_worst_of_parts : Ready P w K mg base 2 "worst_of_parts" ["kind", "first", "second"] spWop := ⟨_, _, ok_wop F16 c R1, PySem.W.mg_of X G a16, k16, b16⟩
  have R3b : R3b P w K mg base := { R1 with worst_of_parts := r_worst_of_parts, pair_of_leaf := r_pair_of_leaf }
  have r_worst_of : Ready P w K mg base 3 "worst_of" ["constructs", "times", "costs"] spWo := ⟨_, _, ok_wo F17 c R3b, PySem.W.mg_of X G a17, k17, b17⟩
  have r_is_run_here : Ready P w K mg base 2 "is_run_here" ["part", "construct", "fits", "fits_here"] spRh := ⟨_, _, ok_rh F18 c R1, PySem.W.mg_of X G a18, k18, b18⟩
  have r_is_run : Ready P w K mg base 3 "is_run" ["run", "constructs"] spIr := ⟨_, _, ok_ir F19 c ⟨r_is_run_here⟩, PySem.W.mg_of X G a19, k19, b19⟩
  have m_process : MReady P w K mg base C 4 "process" ["self", "numbers"] (spPs C) := ⟨_, _, ok_ps F26 c T ⟨r_constructs_of, r_is_process⟩, ⟨a26, i26, k26⟩, b26⟩
  have m_step : MReady P w K mg base C 1 "step" ["self", "step", "time", "cost"] (spSt C) := ⟨_, _, ok_st F27 c T, ⟨a27, i27, k27⟩, b27⟩
  have m_rounds : MReady P w K mg base C 1 "rounds" ["self", "n"] (spRo C) := ⟨_, _, ok_ro F28 c T, ⟨a28, i28, k28⟩, b28⟩
  have m_unrolled : MReady P w K mg base C 3 "unrolled" ["self"] (spUr C) := ⟨_, _, ok_ur F29 c T ⟨r_without_loops⟩, ⟨a29, i29, k29⟩, b29⟩
  have m_selected_runs : MReady P w K mg base C 7 "selected_runs" ["self"] (spSe C) := ⟨_, _, ok_se F30 c T ⟨r_front_of⟩ ⟨m_unrolled⟩, ⟨a30, i30, k30⟩, b30⟩
  have m_front : MReady P w K mg base C 8 "front" ["self"] (spFn C) := ⟨_, _, ok_fn F31 c T ⟨m_selected_runs⟩, ⟨a31, i31, k31⟩, b31⟩
  have m_by : MReady P w K mg base C 8 "by" ["self", "time"] (spBy C) := ⟨_, _, ok_by F32 c T ⟨m_selected_runs⟩, ⟨a32, i32, k32⟩, b32⟩
  have m_soonest : MReady P w K mg base C 8 "soonest" ["self"] (spSo C) := ⟨_, _, ok_so F33 c T ⟨m_selected_runs⟩, ⟨a33, i33, k33⟩, b33⟩
  have m_worst : MReady P w K mg base C 4 "worst" ["self"] (spWs C) := ⟨_, _, ok_ws F34 c T ⟨r_worst_of⟩ ⟨m_unrolled⟩, ⟨a34, i34, k34⟩, b34⟩
  have RJ : RJ P w K mg base := { worst_of := r_worst_of, constructs_of := r_constructs_of, is_run := r_is_run }
  have m_judge : MReady P w K mg base C 5 "judge" ["self", "numbers"] (spJu C) := ⟨_, _, ok_ju F35 c T RJ ⟨m_unrolled⟩, ⟨a35, i35, k35⟩, b35⟩
  have r_place_after : Ready P w K mg base 1 "place_after" ["calls", "place"] (spPa K) := ⟨_, _, ok_pa F22 c, PySem.W.mg_of X G a22, k22, b22⟩
  have r_answer_of : Ready P w K mg base 9 "answer_of" ["service", "call", "handed"] (spAo C) := ⟨_, _, ok_ao F23 c T ⟨m_process, m_step, m_rounds, m_front, m_by, m_soonest, m_worst, m_judge⟩, PySem.W.mg_of X G a23, k23, b23⟩
  exact ok_an F24 c T ⟨r_place_after, r_answer_of⟩ ⟨mk, a25, i25, kc⟩ (ok_ini F25 c T) b25
end Pf

set_option Elab.async false
set_option linter.all false
open PySem PySem.W PyProof.Rows
set_option maxRecDepth 100000 in
set_option maxHeartbeats 16000000 in
theorem PySem.Challenge.cw_processfronts_s01_answers_holds : PySem.Challenge.rw_processfronts_s01_answers.Holds := by
  w_on; k_headS; (case hw => exact ⟨[.list [.int 3]], by decide +kernel, by decide +kernel⟩)
  k_fillS
  refine L2.walk_specK (r := PySem.Challenge.rw_processfronts_s01_answers) (k := 10) (CX := L2.CX0) (ps := ["calls"]) (sp := Pf.spAns) (by decide +kernel) rfl rfl ⟨rfl, by decide, by decide⟩ (fun w h Y => PySem.W.kIn_of Y) ?F ?S (fun _ _ _ _ z => z)
  case F =>
    intro w mg fa h Y KX G hmg
    refine' Pf.all_mk KX G hmg ?a1 ?l1 ?c1 ?k1 ?a2 ?l2 ?c2 ?k2 ?a3 ?l3 ?c3 ?k3 ?a4 ?l4 ?c4 ?k4 ?a5 ?l5 ?c5 ?k5 ?a6 ?l6 ?c6 ?k6 ?a7 ?l7 ?c7 ?k7 ?a8 ?l8 ?c8 ?k8 ?a9 ?l9 ?c9 ?k9 ?a10 ?l10 ?c10 ?k10 ?a11 ?l11 ?c11 ?k11 ?a12 ?l12 ?c12 ?k12 ?a13 ?l13 ?c13 ?k13 ?a14 ?l14 ?c14 ?k14 ?a15 ?l15 ?c15 ?k15 ?a16 ?l16 ?c16 ?k16 ?a17 ?l17 ?c17 ?k17 ?a18 ?l18 ?c18 ?k18 ?a19 ?l19 ?c19 ?k19 ?a20 ?l20 ?c20 ?k20 ?a21 ?l21 ?c21 ?k21 ?a22 ?l22 ?c22 ?k22 ?a23 ?l23 ?c23 ?k23 ?a24 ?l24 ?c24 ?k24 ?a25 ?i25 ?l25 ?c25 ?k25 ?a26 ?i26 ?l26 ?c26 ?k26 ?a27 ?i27 ?l27 ?c27 ?k27 ?a28 ?i28 ?l28 ?c28 ?k28 ?a29 ?i29 ?l29 ?c29 ?k29 ?a30 ?i30 ?l30 ?c30 ?k30 ?a31 ?i31 ?l31 ?c31 ?k31 ?a32 ?i32 ?l32 ?c32 ?k32 ?a33 ?i33 ?l33 ?c33 ?k33 ?a34 ?i34 ?l34 ?c34 ?k34 ?a35 ?i35 ?l35 ?c35 ?k35 ?nSTEP ?nEMPTY ?nSEQUENCE ?nCHOICE ?nLOOP ?nLAST_STEP ?nGREATEST_SIZE ?nGREATEST_AMOUNT ?nMOST_ROUNDS ?nCALL_PROCESS ?nCALL_STEP ?nCALL_ROUNDS ?nCALL_FRONT ?nCALL_BY ?nCALL_SOONEST ?nCALL_WORST ?nCALL_JUDGE ?zlen ?ztuple ?zlist ?zmax ?zsorted ?zreversed ?zrange ?aC ?nC ?nT ?nK ?nR ?pg ?hd ?po ?sa ?mk ?kc
    (case aC => k_is)
    (case a1 => k_is)
    (case l1 => k_is)
    (case c1 => k_is)
    (case k1 => k_is)
    (case a2 => k_is)
    (case l2 => k_is)
    (case c2 => k_is)
    (case k2 => k_is)
    (case a3 => k_is)
    (case l3 => k_is)
    (case c3 => k_is)
    (case k3 => k_is)
    (case a4 => k_is)
    (case l4 => k_is)
    (case c4 => k_is)
    (case k4 => k_is)
    (case a5 => k_is)
    (case l5 => k_is)
    (case c5 => k_is)
    (case k5 => k_is)
    (case a6 => k_is)
    (case l6 => k_is)
    (case c6 => k_is)
    (case k6 => k_is)
    (case a7 => k_is)
    (case l7 => k_is)
    (case c7 => k_is)
    (case k7 => k_is)
    (case a8 => k_is)
    (case l8 => k_is)
    (case c8 => k_is)
    (case k8 => k_is)
    (case a9 => k_is)
    (case l9 => k_is)
    (case c9 => k_is)
    (case k9 => k_is)
    (case a10 => k_is)
    (case l10 => k_is)
    (case c10 => k_is)
    (case k10 => k_is)
    (case a11 => k_is)
    (case l11 => k_is)
    (case c11 => k_is)
    (case k11 => k_is)
    (case a12 => k_is)
    (case l12 => k_is)
    (case c12 => k_is)
    (case k12 => k_is)
    (case a13 => k_is)
    (case l13 => k_is)
    (case c13 => k_is)
    (case k13 => k_is)
    (case a14 => k_is)
    (case l14 => k_is)
    (case c14 => k_is)
    (case k14 => k_is)
    (case a15 => k_is)
    (case l15 => k_is)
    (case c15 => k_is)
    (case k15 => k_is)
    (case a16 => k_is)
    (case l16 => k_is)
    (case c16 => k_is)
    (case k16 => k_is)
    (case a17 => k_is)
    (case l17 => k_is)
    (case c17 => k_is)
    (case k17 => k_is)
    (case a18 => k_is)
    (case l18 => k_is)
    (case c18 => k_is)
    (case k18 => k_is)
    (case a19 => k_is)
    (case l19 => k_is)
    (case c19 => k_is)
    (case k19 => k_is)
    (case a20 => k_is)
    (case l20 => k_is)
    (case c20 => k_is)
    (case k20 => k_is)
    (case a21 => k_is)
    (case l21 => k_is)
    (case c21 => k_is)
    (case k21 => k_is)
    (case a22 => k_is)
    (case l22 => k_is)
    (case c22 => k_is)
    (case k22 => k_is)
    (case a23 => k_is)
    (case l23 => k_is)
    (case c23 => k_is)
    (case k23 => k_is)
    (case a24 => k_is)
    (case l24 => k_is)
    (case c24 => k_is)
    (case k24 => k_is)
    (case a25 => k_is)
    (case i25 => k_is)
    (case l25 => k_is)
    (case c25 => k_is)
    (case k25 => k_is)
    (case a26 => k_is)
    (case i26 => k_is)
    (case l26 => k_is)
    (case c26 => k_is)
    (case k26 => k_is)
    (case a27 => k_is)
    (case i27 => k_is)
    (case l27 => k_is)
    (case c27 => k_is)
    (case k27 => k_is)
    (case a28 => k_is)
    (case i28 => k_is)
    (case l28 => k_is)
    (case c28 => k_is)
    (case k28 => k_is)
    (case a29 => k_is)
    (case i29 => k_is)
    (case l29 => k_is)
    (case c29 => k_is)
    (case k29 => k_is)
    (case a30 => k_is)
    (case i30 => k_is)
    (case l30 => k_is)
    (case c30 => k_is)
    (case k30 => k_is)
    (case a31 => k_is)
    (case i31 => k_is)
    (case l31 => k_is)
    (case c31 => k_is)
    (case k31 => k_is)
    (case a32 => k_is)
    (case i32 => k_is)
    (case l32 => k_is)
    (case c32 => k_is)
    (case k32 => k_is)
    (case a33 => k_is)
    (case i33 => k_is)
    (case l33 => k_is)
    (case c33 => k_is)
    (case k33 => k_is)
    (case a34 => k_is)
    (case i34 => k_is)
    (case l34 => k_is)
    (case c34 => k_is)
    (case k34 => k_is)
    (case a35 => k_is)
    (case i35 => k_is)
    (case l35 => k_is)
    (case c35 => k_is)
    (case k35 => k_is)
    (case nSTEP => k_is)
    (case nEMPTY => k_is)
    (case nSEQUENCE => k_is)
    (case nCHOICE => k_is)
    (case nLOOP => k_is)
    (case nLAST_STEP => k_is)
    (case nGREATEST_SIZE => k_is)
    (case nGREATEST_AMOUNT => k_is)
    (case nMOST_ROUNDS => k_is)
    (case nCALL_PROCESS => k_is)
    (case nCALL_STEP => k_is)
    (case nCALL_ROUNDS => k_is)
    (case nCALL_FRONT => k_is)
    (case nCALL_BY => k_is)
    (case nCALL_SOONEST => k_is)
    (case nCALL_WORST => k_is)
    (case nCALL_JUDGE => k_is)
    (case zlen => k_is)
    (case ztuple => k_is)
    (case zlist => k_is)
    (case zmax => k_is)
    (case zsorted => k_is)
    (case zreversed => k_is)
    (case zrange => k_is)
    (case nC => k_is)
    (case nT => k_is)
    (case nK => k_is)
    (case nR => k_is)
    (case pg => k_is)
    (case hd => k_is)
    (case po => k_is)
    (case sa => k_is)
    (case mk => k_is)
    (case kc => k_is)
  case S =>
    intro K H xs a hO hwi hask hx
    cases hx with
    | cons h1 h2 =>
      cases h2
      cases h1 with
      | lst hs ha =>
        have e := L2.ints_dw a.1 _ ha
        subst e
        exact ⟨_, a.1, rfl, hs, hask, fun H' p hp => .lst (L2.SqL.of hp) (L2.dw_ints _)⟩

