import PyProof.Rows.All
import Wide.All
import OpenK.AllK
import Wide.FinOn
import Open.SpecLaws
import KE.OsGo
import HandS.ForSpec
import HandS.ForMost
import HandS.Wide
import HandS.Deep
import HandS.TupLe
import HandS.FStr
import HandS.Zip
import HandS.Walk
import HandS.Sort
import HandS.SortOrd
import HandS.SortKw
import HandS.SortInts
import HandS.Conv
import HandS.Codes
import HandS.Flow
import HandS.NoneIn
import HandS.Rev
import HandS.DictTup
import HandS.More
import HandS.Strs
import HandS.TupSets
import KE.GoesMore
import PySem.Challenge.RW_equationfollow_s03_left
set_option linter.unusedVariables false
set_option linter.unusedSimpArgs false
namespace E94
open AlBase
/-! P1: polynomials as lists; the number at a product; canonical lists -/
def co : Poly → Mono → Rat
  | [], _ => 0
  | (n, c) :: p, m => if n = m then c else co p m
theorem co_nil (m : Mono) : co [] m = 0 := rfl
theorem co_cons (x : Mono × Rat) (p : Poly) (m : Mono) : co (x :: p) m = if x.1 = m then x.2 else co p m := rfl
theorem numberAt_co (m : Mono) : ∀ p : Poly, Al04.numberAt m p = co p m
  | [] => rfl
  | (n, c) :: p => by
    have ih := numberAt_co m p
    unfold Al04.numberAt at ih ⊢
    rw [co_cons, List.find?_cons]
    by_cases h : n = m
    · simp [h]
    · simp [h]
      simpa using ih
/-! the order -/
theorem earlier_irrefl : ∀ m : Mono, earlier m m = false
  | [] => rfl
  | (a, i) :: m => by
    simp [earlier, earlier_irrefl m]
theorem earlier_trans : ∀ {m n k : Mono}, earlier m n = true → earlier n k = true → earlier m k = true
  | [], _, _, h, _ => by simp [earlier] at h
  | _ :: _, [], _, _, h => by simp [earlier] at h
  | _ :: _, _ :: _, [], _, _ => by simp [earlier]
  | (a, i) :: m, (b, j) :: n, (c, k) :: o, h1, h2 => by
    have ih := @earlier_trans m n o
    simp only [earlier] at h1 h2 ⊢
    grind
theorem earlier_total : ∀ {m n : Mono}, m ≠ n → earlier m n = false → earlier n m = true
  | [], [], h, _ => absurd rfl h
  | [], _ :: _, _, _ => by simp [earlier]
  | _ :: _, [], _, h => by simp [earlier] at h
  | (a, i) :: m, (b, j) :: n, hne, h => by
    have ih := @earlier_total m n
    simp only [earlier] at h ⊢
    grind
theorem above_irrefl (m : Mono) : above m m = false := by
  simp [above, earlier_irrefl]
theorem above_trans {m n k : Mono} (h1 : above m n = true) (h2 : above n k = true) : above m k = true := by
  have ih := @earlier_trans m n k
  simp only [above] at *
  grind
theorem above_total {m n : Mono} (h : m ≠ n) (h1 : above m n = false) : above n m = true := by
  have ih := @earlier_total m n h
  simp only [above] at *
  grind
theorem above_ne {m n : Mono} (h : above m n = true) : m ≠ n := fun e => by
  subst e
  rw [above_irrefl] at h
  cases h
theorem above_asymm {m n : Mono} (h : above m n = true) : above n m = false := by
  cases e : above n m with
  | false => rfl
  | true =>
    have := above_trans h e
    rw [above_irrefl] at this
    cases this
/-! sorted -/
def Srt (p : Poly) : Prop := p.Pairwise fun x y => above x.1 y.1 = true
def Can (p : Poly) : Prop := Srt p ∧ ∀ x ∈ p, x.2 ≠ 0
theorem Srt.nil : Srt [] := List.Pairwise.nil
theorem Can.nil : Can [] := ⟨.nil, fun _ h => nomatch h⟩
theorem Srt.tail {x : Mono × Rat} {p : Poly} (h : Srt (x :: p)) : Srt p := (List.pairwise_cons.mp h).2
theorem Can.tail {x : Mono × Rat} {p : Poly} (h : Can (x :: p)) : Can p := ⟨h.1.tail, fun y hy => h.2 y (List.mem_cons_of_mem _ hy)⟩
theorem co_not_mem : ∀ {p : Poly} {m : Mono}, (∀ x ∈ p, x.1 ≠ m) → co p m = 0
  | [], _, _ => rfl
  | x :: p, m, h => by
    rw [co_cons, if_neg (h x (List.mem_cons_self ..))]
    exact co_not_mem fun y hy => h y (List.mem_cons_of_mem _ hy)
theorem co_above {p : Poly} {m : Mono} (h : ∀ x ∈ p, above m x.1 = true) : co p m = 0 :=
  co_not_mem fun x hx e => above_ne (h x hx) e.symm
theorem Srt.co_mem : ∀ {p : Poly} {x : Mono × Rat}, Srt p → x ∈ p → co p x.1 = x.2
  | y :: p, x, h, hx => by
    rw [co_cons]
    rcases List.mem_cons.mp hx with rfl | hx
    · simp
    · have := above_ne ((List.pairwise_cons.mp h).1 x hx)
      rw [if_neg this]
      exact h.tail.co_mem hx
theorem co_mem_of_ne : ∀ {p : Poly} {m : Mono}, co p m ≠ 0 → (m, co p m) ∈ p
  | [], _, h => absurd rfl h
  | (n, c) :: p, m, h => by
    rw [co_cons] at h ⊢
    by_cases e : n = m
    · subst e
      simp
    · simp only [e, if_false] at h ⊢
      exact List.mem_cons_of_mem _ (co_mem_of_ne h)
theorem Can.mem_iff {p : Poly} (h : Can p) (m : Mono) (c : Rat) : (m, c) ∈ p ↔ co p m = c ∧ c ≠ 0 := by
  constructor
  · intro hm
    exact ⟨h.1.co_mem hm, h.2 _ hm⟩
  · rintro ⟨rfl, h2⟩
    exact co_mem_of_ne h2
/-- canonical lists with the same numbers are the same -/
theorem Can.ext : ∀ {p q : Poly}, Can p → Can q → (∀ m, co p m = co q m) → p = q
  | [], [], _, _, _ => rfl
  | [], (n, c) :: q, _, hq, h => by
    have h1 := h n
    rw [co_cons] at h1
    simp [co] at h1
    exact absurd h1.symm (hq.2 (n, c) (List.mem_cons_self ..))
  | (n, c) :: p, [], hp, _, h => by
    have h1 := h n
    rw [co_cons] at h1
    simp [co] at h1
    exact absurd h1 (hp.2 (n, c) (List.mem_cons_self ..))
  | (m, c) :: p, (n, d) :: q, hp, hq, h => by
    have hp1 := (List.pairwise_cons.mp hp.1).1
    have hq1 := (List.pairwise_cons.mp hq.1).1
    have key : m = n := by
      by_cases e : m = n
      · exact e
      · exfalso
        cases a : above m n with
        | true =>
          have h1 := h m
          rw [co_cons, co_cons] at h1
          simp only [if_true, Ne.symm e, if_false] at h1
          have : co q m = 0 := co_above fun x hx => above_trans a (hq1 x hx)
          rw [this] at h1
          exact hp.2 (m, c) (List.mem_cons_self ..) h1
        | false =>
          have a2 := above_total e a
          have h1 := h n
          rw [co_cons, co_cons] at h1
          simp only [if_true, e, if_false] at h1
          have : co p n = 0 := co_above fun x hx => above_trans a2 (hp1 x hx)
          rw [this] at h1
          exact hq.2 (n, d) (List.mem_cons_self ..) h1.symm
    subst key
    have e1 : c = d := by
      have h1 := h m
      simpa [co_cons] using h1
    subst e1
    have e2 : p = q := by
      refine Can.ext hp.tail hq.tail fun k => ?_
      have h1 := h k
      rw [co_cons, co_cons] at h1
      by_cases e : m = k
      · subst e
        rw [co_above hp1, co_above hq1]
      · simpa [e] using h1
    rw [e2]
/-! plus -/
theorem plus_mem {m : Mono} {c : Rat} : ∀ {p : Poly} {x : Mono × Rat}, x ∈ plus m c p → x.1 = m ∨ x ∈ p
  | [], x, h => by
    unfold plus at h
    split at h
    · cases h
    · simp at h; left; rw [h]
  | (n, d) :: p, x, h => by
    have ih := @plus_mem m c p x
    unfold plus at h
    grind
theorem plus_srt {m : Mono} {c : Rat} : ∀ {p : Poly}, Srt p → Srt (plus m c p)
  | [], h => by
    unfold plus
    split
    · exact .nil
    · exact List.pairwise_singleton ..
  | (n, d) :: p, h => by
    have ih := @plus_srt m c p h.tail
    have h1 := (List.pairwise_cons.mp h).1
    unfold plus
    split
    · exact h
    · split
      · split
        · exact h.tail
        · exact List.pairwise_cons.mpr ⟨h1, h.tail⟩
      · split
        · rename_i a
          refine List.pairwise_cons.mpr ⟨fun y hy => ?_, h⟩
          rcases List.mem_cons.mp hy with rfl | hy
          · exact a
          · exact above_trans a (h1 y hy)
        · rename_i ne a
          refine List.pairwise_cons.mpr ⟨fun y hy => ?_, ih⟩
          rcases plus_mem hy with e | hy
          · rw [e]
            exact above_total ne (by simpa using a)
          · exact h1 y hy
theorem plus_nz {m : Mono} {c : Rat} : ∀ {p : Poly}, (∀ x ∈ p, x.2 ≠ 0) → ∀ x ∈ plus m c p, x.2 ≠ 0
  | [], h, x, hx => by
    unfold plus at hx
    split at hx
    · cases hx
    · simp at hx; rw [hx]; assumption
  | (n, d) :: p, h, x, hx => by
    have ih := @plus_nz m c p (fun y hy => h y (List.mem_cons_of_mem _ hy)) x
    have h0 := h x
    unfold plus at hx
    grind
theorem plus_can {m : Mono} {c : Rat} {p : Poly} (h : Can p) : Can (plus m c p) := ⟨plus_srt h.1, plus_nz h.2⟩
theorem co_plus {m : Mono} {c : Rat} : ∀ {p : Poly}, Srt p → ∀ n, co (plus m c p) n = co p n + if m = n then c else 0
  | [], h, n => by
    unfold plus
    split
    · simp [co]; grind
    · simp [co]; grind
  | (k, d) :: p, h, n => by
    have ih := @co_plus m c p h.tail n
    have h1 := (List.pairwise_cons.mp h).1
    have hk : co p k = 0 := co_above h1
    unfold plus
    split
    · grind
    · split
      · split
        · simp only [co_cons]
          grind
        · simp only [co_cons]
          grind
      · split
        · rename_i a
          have hm : co p m = 0 := co_above fun y hy => above_trans a (h1 y hy)
          simp only [co_cons]
          grind
        · simp only [co_cons]
          grind
/-! sums -/
def tot (q : Poly) (n : Mono) : Rat := match q with
  | [] => 0
  | x :: q => (if x.1 = n then x.2 else 0) + tot q n
theorem tot_not_mem : ∀ {p : Poly} {m : Mono}, (∀ x ∈ p, x.1 ≠ m) → tot p m = 0
  | [], _, _ => rfl
  | x :: p, m, h => by
    unfold tot
    rw [if_neg (h x (List.mem_cons_self ..)), tot_not_mem fun y hy => h y (List.mem_cons_of_mem _ hy)]
    grind
/-- no product twice -/
def Once (p : Poly) : Prop := p.Pairwise fun x y => x.1 ≠ y.1
theorem Srt.once {p : Poly} (h : Srt p) : Once p := List.Pairwise.imp (fun a => above_ne a) h
theorem Once.tot_co : ∀ {p : Poly}, Once p → ∀ m, tot p m = co p m
  | [], _, _ => rfl
  | x :: p, h, m => by
    have hh := List.pairwise_cons.mp h
    have ih := Once.tot_co hh.2 m
    unfold tot
    rw [co_cons, ih]
    by_cases e : x.1 = m
    · have : co p m = 0 := co_not_mem fun y hy => by
        rw [← e]
        exact (hh.1 y hy).symm
      rw [this]
      simp [e]
      grind
    · simp [e]
      grind
theorem add_can : ∀ {q p : Poly}, Can p → Can (add p q)
  | [], p, h => h
  | x :: q, p, h => add_can (q := q) (plus_can h)
theorem add_srt : ∀ {q p : Poly}, Srt p → Srt (add p q)
  | [], p, h => h
  | x :: q, p, h => add_srt (q := q) (plus_srt h)
theorem co_add_tot : ∀ {q p : Poly}, Srt p → ∀ n, co (add p q) n = co p n + tot q n
  | [], p, h, n => by
    show co p n = co p n + 0
    grind
  | x :: q, p, h, n => by
    have ih := co_add_tot (q := q) (plus_srt (m := x.1) (c := x.2) h) n
    have e := co_plus (m := x.1) (c := x.2) h n
    show co (add (plus x.1 x.2 p) q) n = co p n + ((if x.1 = n then x.2 else 0) + tot q n)
    rw [ih, e]
    grind
theorem co_add {p q : Poly} (hp : Srt p) (hq : Srt q) (n : Mono) : co (add p q) n = co p n + co q n := by
  rw [co_add_tot hp, hq.once.tot_co]
theorem scale_srt {c : Rat} {p : Poly} (h : Srt p) : Srt (scale c p) := by
  unfold scale
  split
  · exact .nil
  · exact List.pairwise_map.mpr h
theorem scale_can {c : Rat} {p : Poly} (h : Can p) : Can (scale c p) := by
  refine ⟨scale_srt h.1, ?_⟩
  unfold scale
  split
  · intro x hx; cases hx
  · intro x hx
    obtain ⟨y, hy, rfl⟩ := List.mem_map.mp hx
    have := h.2 y hy
    grind
theorem co_map_scale (c : Rat) : ∀ (p : Poly) (n : Mono), co (p.map fun x => (x.1, c * x.2)) n = c * co p n
  | [], n => by simp [co]
  | x :: p, n => by
    rw [List.map_cons, co_cons, co_cons, co_map_scale c p n]
    grind
theorem co_scale (c : Rat) (p : Poly) (n : Mono) : co (scale c p) n = c * co p n := by
  unfold scale
  split
  · rename_i h
    rw [h]
    simp [co]
  · exact co_map_scale c p n
theorem add_nil_can {p : Poly} (h : Can p) : add [] p = p := by
  refine Can.ext (add_can .nil) h fun m => ?_
  rw [co_add .nil h.1]
  simp [co]
  grind
theorem neg_can {p : Poly} (h : Can p) : Can (neg p) := scale_can h
theorem co_neg (p : Poly) (n : Mono) : co (neg p) n = - co p n := by
  unfold neg
  rw [co_scale]
  grind
theorem sub_can {p q : Poly} (h : Can p) : Can (sub p q) := add_can h
theorem co_sub {p q : Poly} (hp : Srt p) (hq : Srt q) (n : Mono) : co (sub p q) n = co p n - co q n := by
  unfold sub
  rw [co_add (q := neg q) hp (scale_srt hq), co_neg]
  grind
end E94
set_option linter.unusedVariables false
set_option linter.unusedSimpArgs false
namespace E94
/-! L0: sums over a list of vectors -/
section
variable {α X : Type}
def lin (I : List α) (a : α → Rat) (V : α → X → Rat) (x : X) : Rat := match I with
  | [] => 0
  | i :: I => a i * V i x + lin I a V x
theorem lin_nil (a : α → Rat) (V : α → X → Rat) (x : X) : lin [] a V x = 0 := rfl
theorem lin_cons (i : α) (I : List α) (a : α → Rat) (V : α → X → Rat) (x : X) : lin (i :: I) a V x = a i * V i x + lin I a V x := rfl
theorem lin_append (a : α → Rat) (V : α → X → Rat) (x : X) : ∀ (I J : List α), lin (I ++ J) a V x = lin I a V x + lin J a V x
  | [], J => by rw [List.nil_append, lin_nil]; grind
  | i :: I, J => by rw [List.cons_append, lin_cons, lin_cons, lin_append a V x I J]; grind
theorem lin_add (a b : α → Rat) (V : α → X → Rat) (x : X) : ∀ I : List α, lin I (fun i => a i + b i) V x = lin I a V x + lin I b V x
  | [] => by simp only [lin_nil]; grind
  | i :: I => by rw [lin_cons, lin_cons, lin_cons, lin_add a b V x I]; grind
theorem lin_smul (c : Rat) (a : α → Rat) (V : α → X → Rat) (x : X) : ∀ I : List α, lin I (fun i => c * a i) V x = c * lin I a V x
  | [] => by simp only [lin_nil]; grind
  | i :: I => by rw [lin_cons, lin_cons, lin_smul c a V x I]; grind
theorem lin_congr {a b : α → Rat} {V : α → X → Rat} {x : X} : ∀ {I : List α}, (∀ i ∈ I, a i = b i) → lin I a V x = lin I b V x
  | [], _ => rfl
  | i :: I, h => by
    rw [lin_cons, lin_cons, h i (List.mem_cons_self ..), lin_congr fun j hj => h j (List.mem_cons_of_mem _ hj)]
theorem lin_congrV {a : α → Rat} {V W : α → X → Rat} {x : X} : ∀ {I : List α}, (∀ i ∈ I, V i x = W i x) → lin I a V x = lin I a W x
  | [], _ => rfl
  | i :: I, h => by
    rw [lin_cons, lin_cons, h i (List.mem_cons_self ..), lin_congrV fun j hj => h j (List.mem_cons_of_mem _ hj)]
theorem lin_zero {a : α → Rat} {V : α → X → Rat} {x : X} : ∀ {I : List α}, (∀ i ∈ I, a i = 0) → lin I a V x = 0
  | [], _ => rfl
  | i :: I, h => by
    rw [lin_cons, h i (List.mem_cons_self ..), lin_zero fun j hj => h j (List.mem_cons_of_mem _ hj)]
    grind
theorem lin_zeroV {a : α → Rat} {V : α → X → Rat} {x : X} : ∀ {I : List α}, (∀ i ∈ I, V i x = 0) → lin I a V x = 0
  | [], _ => rfl
  | i :: I, h => by
    rw [lin_cons, h i (List.mem_cons_self ..), lin_zeroV fun j hj => h j (List.mem_cons_of_mem _ hj)]
    grind
def InSpan (I : List α) (V : α → X → Rat) (v : X → Rat) : Prop := ∃ a : α → Rat, ∀ x, v x = lin I a V x
theorem InSpan.zero (I : List α) (V : α → X → Rat) : InSpan I V fun _ => 0 := ⟨fun _ => 0, fun x => (lin_zero fun _ _ => rfl).symm⟩
theorem InSpan.add {I : List α} {V : α → X → Rat} {v w : X → Rat} (h1 : InSpan I V v) (h2 : InSpan I V w) : InSpan I V fun x => v x + w x := by
  obtain ⟨a, ha⟩ := h1
  obtain ⟨b, hb⟩ := h2
  exact ⟨fun i => a i + b i, fun x => by rw [lin_add, ← ha, ← hb]⟩
theorem InSpan.smul {I : List α} {V : α → X → Rat} {v : X → Rat} (c : Rat) (h1 : InSpan I V v) : InSpan I V fun x => c * v x := by
  obtain ⟨a, ha⟩ := h1
  exact ⟨fun i => c * a i, fun x => by rw [lin_smul, ← ha]⟩
theorem InSpan.of_eq {I : List α} {V : α → X → Rat} {v w : X → Rat} (h1 : InSpan I V v) (h : ∀ x, w x = v x) : InSpan I V w := by
  obtain ⟨a, ha⟩ := h1
  exact ⟨a, fun x => by rw [h, ha]⟩
theorem lin_ind [DecidableEq α] (i : α) (c : Rat) (V : α → X → Rat) (x : X) : ∀ I : List α, lin I (fun k => if k = i then c else 0) V x = (I.count i : Rat) * c * V i x
  | [] => by simp [lin_nil]
  | j :: I => by
    rw [lin_cons, lin_ind i c V x I, List.count_cons]
    by_cases e : j = i
    · subst e
      simp
      grind
    · simp [e]
      grind
open Classical in
theorem InSpan.mem {I : List α} {V : α → X → Rat} {i : α} (h : i ∈ I) : InSpan I V (V i) := by
  refine ⟨fun k => if k = i then 1 / (I.count i : Rat) else 0, fun x => ?_⟩
  rw [lin_ind]
  have h0 : 0 < I.count i := List.count_pos_iff.mpr h
  have h1 : (I.count i : Rat) ≠ 0 := by
    intro e
    have : I.count i = 0 := by exact_mod_cast e
    omega
  grind
theorem InSpan.trans {β : Type} {I : List α} {J : List β} {V : α → X → Rat} {W : β → X → Rat} (hV : ∀ i ∈ I, InSpan J W (V i)) {v : X → Rat} (h : InSpan I V v) : InSpan J W v := by
  obtain ⟨a, ha⟩ := h
  have key : ∀ (I : List α), (∀ i ∈ I, InSpan J W (V i)) → InSpan J W (fun x => lin I a V x) := by
    intro I
    induction I with
    | nil => intro _; exact InSpan.zero J W
    | cons i I ih =>
      intro h
      exact ((h i (List.mem_cons_self ..)).smul (a i)).add (ih fun j hj => h j (List.mem_cons_of_mem _ hj))
  exact (key I hV).of_eq ha
theorem InSpan.sub {I J : List α} {V : α → X → Rat} {v : X → Rat} (hs : ∀ i ∈ I, i ∈ J) (h : InSpan I V v) : InSpan J V v := h.trans fun i hi => InSpan.mem (hs i hi)
/-- independent -/
def Ind (N : List α) (V : α → X → Rat) : Prop := ∀ a : α → Rat, (∀ x, lin N a V x = 0) → ∀ i ∈ N, a i = 0
theorem Ind.nil (V : α → X → Rat) : Ind [] V := fun _ _ _ h => nomatch h
theorem Ind.snoc {N : List α} {V : α → X → Rat} {i : α} (h : Ind N V) (hi : ¬ InSpan N V (V i)) : Ind (N ++ [i]) V := by
  intro a ha
  have h0 : a i = 0 := by
    refine Classical.byContradiction fun hne => hi ⟨fun j => (-(1 / a i)) * a j, fun x => ?_⟩
    have h1 := ha x
    rw [lin_append, lin_cons, lin_nil] at h1
    rw [lin_smul]
    grind
  have h1 : ∀ x, lin N a V x = 0 := fun x => by
    have h1 := ha x
    rw [lin_append, lin_cons, lin_nil, h0] at h1
    grind
  intro j hj
  rcases List.mem_append.mp hj with hj | hj
  · exact h a h1 j hj
  · rw [List.mem_singleton.mp hj]
    exact h0
theorem Ind.unique {N : List α} {V : α → X → Rat} (h : Ind N V) {a b : α → Rat} (e : ∀ x, lin N a V x = lin N b V x) : ∀ i ∈ N, a i = b i := by
  intro i hi
  have := h (fun i => a i + (-1) * b i) (fun x => by
    rw [lin_add, lin_smul, e]
    grind) i hi
  grind
/-- those that are needed -/
noncomputable def sel1 (V : α → X → Rat) (N : List α) (i : α) : List α := open Classical in if InSpan N V (V i) then N else N ++ [i]
noncomputable def sel (V : α → X → Rat) (I : List α) : List α := I.foldl (sel1 V) []
theorem sel_snoc (V : α → X → Rat) (I : List α) (i : α) : sel V (I ++ [i]) = sel1 V (sel V I) i := by
  unfold sel
  rw [List.foldl_append]
  rfl
theorem sel_nil (V : α → X → Rat) : sel V [] = [] := rfl
theorem list_rev_ind {P : List α → Prop} (h0 : P []) (h1 : ∀ l i, P l → P (l ++ [i])) (l : List α) : P l := by
  have : ∀ n (l : List α), l.length = n → P l := by
    intro n
    induction n with
    | zero => intro l hl; rw [List.length_eq_zero_iff.mp hl]; exact h0
    | succ n ih =>
      intro l hl
      have hne : l ≠ [] := by intro e; rw [e] at hl; cases hl
      rw [← List.dropLast_concat_getLast hne]
      exact h1 _ _ (ih _ (by rw [List.length_dropLast, hl]; rfl))
  exact this _ l rfl
theorem sel1_in {V : α → X → Rat} {N : List α} {i : α} (h : InSpan N V (V i)) : sel1 V N i = N := if_pos h
theorem sel1_out {V : α → X → Rat} {N : List α} {i : α} (h : ¬ InSpan N V (V i)) : sel1 V N i = N ++ [i] := if_neg h
theorem sel_ind (V : α → X → Rat) (I : List α) : Ind (sel V I) V := by
  refine list_rev_ind (P := fun I => Ind (sel V I) V) (Ind.nil V) (fun l i ih => ?_) I
  show Ind (sel V (l ++ [i])) V
  rw [sel_snoc]
  by_cases h : InSpan (sel V l) V (V i)
  · rw [sel1_in h]; exact ih
  · rw [sel1_out h]; exact ih.snoc h
theorem sel_sub (V : α → X → Rat) (I : List α) : ∀ i ∈ sel V I, i ∈ I := by
  refine list_rev_ind (P := fun I => ∀ i ∈ sel V I, i ∈ I) (fun i h => by rw [sel_nil] at h; cases h) (fun l i ih => ?_) I
  intro j hj
  rw [sel_snoc] at hj
  by_cases h : InSpan (sel V l) V (V i)
  · rw [sel1_in h] at hj
    exact List.mem_append_left _ (ih j hj)
  · rw [sel1_out h] at hj
    rcases List.mem_append.mp hj with hj | hj
    · exact List.mem_append_left _ (ih j hj)
    · exact List.mem_append_right _ hj
theorem sel_span (V : α → X → Rat) (I : List α) : ∀ i ∈ I, InSpan (sel V I) V (V i) := by
  refine list_rev_ind (P := fun I => ∀ i ∈ I, InSpan (sel V I) V (V i)) (fun i h => nomatch h) (fun l i ih => ?_) I
  intro j hj
  rw [sel_snoc]
  by_cases h : InSpan (sel V l) V (V i)
  · rw [sel1_in h]
    rcases List.mem_append.mp hj with hj | hj
    · exact ih j hj
    · rw [List.mem_singleton.mp hj]; exact h
  · rw [sel1_out h]
    rcases List.mem_append.mp hj with hj | hj
    · exact (ih j hj).sub fun k hk => List.mem_append_left _ hk
    · exact InSpan.mem (List.mem_append_right _ hj)
end
end E94
set_option linter.unusedVariables false
set_option linter.unusedSimpArgs false
namespace E94
open AlBase Al04
/-! L1: the specification's elimination -/
abbrev Ix := Nat × Mono
def hco (h : How) (i : Ix) : Rat := co (h.getD i.1 []) i.2
structure HowOk (k : Nat) (h : How) : Prop where
  len : h.length = k
  can : ∀ q ∈ h, Can q
theorem HowOk.at {k : Nat} {h : How} (H : HowOk k h) (e : Nat) : Can (h.getD e []) := by
  rw [List.getD_eq_getElem?_getD]
  by_cases he : e < h.length
  · rw [List.getElem?_eq_getElem he]
    exact H.can _ (List.getElem_mem ..)
  · rw [List.getElem?_eq_none (by omega)]
    exact .nil
theorem howNone_ok (k : Nat) : HowOk k (howNone k) := ⟨List.length_replicate .., fun q hq => by
  rw [List.eq_of_mem_replicate hq]
  exact .nil⟩
theorem hco_none (k : Nat) (i : Ix) : hco (howNone k) i = 0 := by
  unfold hco howNone
  rw [List.getD_eq_getElem?_getD, List.getElem?_replicate]
  split <;> rfl
theorem howScale_ok {k : Nat} {h : How} (H : HowOk k h) (c : Rat) : HowOk k (howScale c h) := by
  refine ⟨by unfold howScale; rw [List.length_map, H.len], fun q hq => ?_⟩
  obtain ⟨y, hy, rfl⟩ := List.mem_map.mp hq
  exact scale_can (H.can y hy)
theorem hco_scale (c : Rat) (h : How) (i : Ix) : hco (howScale c h) i = c * hco h i := by
  unfold hco howScale
  rw [List.getD_eq_getElem?_getD, List.getD_eq_getElem?_getD, List.getElem?_map]
  cases h[i.1]? with
  | none => show co [] _ = c * co [] _; rw [co_nil]; grind
  | some q => exact co_scale c q i.2
theorem howAdd_ok {k : Nat} {x y : How} (hx : HowOk k x) (hy : HowOk k y) : HowOk k (howAdd x y) := by
  refine ⟨by unfold howAdd; rw [List.length_map, List.length_zip, hx.len, hy.len, Nat.min_self], fun q hq => ?_⟩
  obtain ⟨z, hz, rfl⟩ := List.mem_map.mp hq
  exact add_can (hx.can _ (List.of_mem_zip hz).1)
theorem hco_add {k : Nat} {x y : How} (hx : HowOk k x) (hy : HowOk k y) (i : Ix) : hco (howAdd x y) i = hco x i + hco y i := by
  unfold hco howAdd
  rw [List.getD_eq_getElem?_getD, List.getD_eq_getElem?_getD, List.getD_eq_getElem?_getD, List.getElem?_map]
  by_cases h : i.1 < k
  · have h1 : i.1 < x.length := by rw [hx.len]; exact h
    have h2 : i.1 < y.length := by rw [hy.len]; exact h
    have h3 : i.1 < (x.zip y).length := by rw [List.length_zip]; omega
    rw [List.getElem?_eq_getElem h1, List.getElem?_eq_getElem h2, List.getElem?_eq_getElem h3, List.getElem_zip]
    exact co_add (hx.can _ (List.getElem_mem ..)).1 (hy.can _ (List.getElem_mem ..)).1 i.2
  · have h1 : ¬ i.1 < x.length := by rw [hx.len]; exact h
    have h2 : ¬ i.1 < y.length := by rw [hy.len]; exact h
    have h3 : ¬ i.1 < (x.zip y).length := by rw [List.length_zip]; omega
    rw [List.getElem?_eq_none (by omega), List.getElem?_eq_none (by omega), List.getElem?_eq_none (by omega)]
    show (0 : Rat) = 0 + 0
    grind
/-- made as told: base, and the needed ones by how -/
structure TrO (k : Nat) (N : List Ix) (V : Ix → Mono → Rat) (base : Mono → Rat) (x : Made) : Prop where
  can : Can x.1
  how : HowOk k x.2
  val : ∀ m, co x.1 m = base m + lin N (hco x.2) V m
  supp : ∀ i, i ∉ N → hco x.2 i = 0
theorem co_lessBy {b x : Made} (hb : Can b.1) (hx : Can x.1) (m n : Mono) : co (lessBy m b x).1 n = co x.1 n - co x.1 m * co b.1 n := by
  show co (add x.1 (scale (-(numberAt m x.1)) b.1)) n = _
  rw [co_add hx.1 (scale_srt hb.1), co_scale, numberAt_co]
  grind
theorem lessBy_can {b x : Made} (hx : Can x.1) (m : Mono) : Can (lessBy m b x).1 := add_can hx
theorem lessBy_how {k : Nat} {b x : Made} (hb : HowOk k b.2) (hx : HowOk k x.2) (m : Mono) : HowOk k (lessBy m b x).2 := howAdd_ok hx (howScale_ok hb _)
theorem hco_lessBy {k : Nat} {b x : Made} (hb : HowOk k b.2) (hx : HowOk k x.2) (m : Mono) (i : Ix) : hco (lessBy m b x).2 i = hco x.2 i - co x.1 m * hco b.2 i := by
  show hco (howAdd x.2 (howScale (-(numberAt m x.1)) b.2)) i = _
  rw [hco_add hx (howScale_ok hb _), hco_scale, numberAt_co]
  grind
theorem TrO.lessBy {k : Nat} {N : List Ix} {V : Ix → Mono → Rat} {base : Mono → Rat} {b x : Made} (hb : TrO k N V (fun _ => 0) b) (hx : TrO k N V base x) (m : Mono) : TrO k N V base (Al04.lessBy m b x) where
  can := lessBy_can hx.can m
  how := lessBy_how hb.how hx.how m
  val := fun n => by
    rw [co_lessBy hb.can hx.can, hx.val n, hb.val n]
    have e : lin N (hco (Al04.lessBy m b x).2) V n = lin N (fun i => hco x.2 i + (-co x.1 m) * hco b.2 i) V n := lin_congr fun i _ => by
      rw [hco_lessBy hb.how hx.how]
      grind
    rw [e, lin_add, lin_smul]
    grind
  supp := fun i hi => by
    rw [hco_lessBy hb.how hx.how, hx.supp i hi, hb.supp i hi]
    grind
theorem TrO.scale {k : Nat} {N : List Ix} {V : Ix → Mono → Rat} {x : Made} (hx : TrO k N V (fun _ => 0) x) (c : Rat) : TrO k N V (fun _ => 0) (AlBase.scale c x.1, howScale c x.2) where
  can := scale_can hx.can
  how := howScale_ok hx.how c
  val := fun n => by
    show co (AlBase.scale c x.1) n = 0 + lin N (hco (howScale c x.2)) V n
    rw [co_scale, hx.val n]
    have e : lin N (hco (howScale c x.2)) V n = lin N (fun i => c * hco x.2 i) V n := lin_congr fun i _ => hco_scale c x.2 i
    rw [e, lin_smul]
    grind
  supp := fun i hi => by
    show hco (howScale c x.2) i = 0
    rw [hco_scale, hx.supp i hi]
    grind
/-- one more vector in the list: what doesn't use it stays true -/
theorem TrO.snoc {k : Nat} {N : List Ix} {V : Ix → Mono → Rat} {base : Mono → Rat} {x : Made} (hx : TrO k N V base x) (i : Ix) (hi : i ∉ N) : TrO k (N ++ [i]) V base x where
  can := hx.can
  how := hx.how
  val := fun n => by
    rw [lin_append, lin_cons, lin_nil, hx.supp i hi, hx.val n]
    grind
  supp := fun j hj => hx.supp j fun h => hj (List.mem_append_left _ h)
/-! heads -/
def aboveBy (e : List Nat) (m n : Mono) : Bool := if has e m = has e n then above m n else has e m
theorem aboveBy_irrefl (e : List Nat) (m : Mono) : aboveBy e m m = false := by simp [aboveBy, above_irrefl]
theorem aboveBy_trans {e : List Nat} {m n k : Mono} (h1 : aboveBy e m n = true) (h2 : aboveBy e n k = true) : aboveBy e m k = true := by
  have ih := @above_trans m n k
  simp only [aboveBy] at *
  grind
theorem aboveBy_total {e : List Nat} {m n : Mono} (h : m ≠ n) (h1 : aboveBy e m n = false) : aboveBy e n m = true := by
  have ih := @above_total m n h
  simp only [aboveBy] at *
  grind
theorem aboveBy_ne {e : List Nat} {m n : Mono} (h : aboveBy e m n = true) : m ≠ n := fun q => by
  subst q
  rw [aboveBy_irrefl] at h
  cases h
def Lead (e : List Nat) (v : Mono → Rat) (h : Mono) : Prop := v h ≠ 0 ∧ ∀ m, v m ≠ 0 → m ≠ h → aboveBy e h m = true
theorem Lead.unique {e : List Nat} {v : Mono → Rat} {h k : Mono} (a : Lead e v h) (b : Lead e v k) : h = k := by
  refine Classical.byContradiction fun ne => ?_
  have h1 := a.2 k b.1 (Ne.symm ne)
  have h2 := b.2 h a.1 ne
  have := aboveBy_trans h1 h2
  rw [aboveBy_irrefl] at this
  cases this
theorem Lead.congr {e : List Nat} {v w : Mono → Rat} {h : Mono} (a : Lead e v h) (q : ∀ m, w m = v m) : Lead e w h :=
  ⟨by rw [q]; exact a.1, fun m hm => a.2 m (by rw [← q]; exact hm)⟩
theorem headBy_lead {e : List Nat} {p : Poly} (h : Can p) (hne : p ≠ []) : Lead e (co p) (headBy e p).1 ∧ (headBy e p).2 = co p (headBy e p).1 := by
  have main : headBy e p ∈ p ∧ ∀ y ∈ p, y.1 ≠ (headBy e p).1 → aboveBy e (headBy e p).1 y.1 = true := by
    unfold headBy
    cases hf : p.find? fun x => has e x.1 with
    | some x =>
      have hx := List.find?_some hf
      have hm := List.mem_of_find?_eq_some hf
      refine ⟨hm, fun y hy ne => ?_⟩
      show aboveBy e x.1 y.1 = true
      unfold aboveBy
      by_cases q : has e x.1 = has e y.1
      · rw [if_pos q]
        obtain ⟨_, as, bs, rfl, hno⟩ := List.find?_eq_some_iff_append.mp hf
        rcases List.mem_append.mp hy with hy | hy
        · have := hno y hy
          rw [← q] at this
          simp [hx] at this
        · rcases List.mem_cons.mp hy with rfl | hy
          · exact absurd rfl ne
          · have := List.pairwise_append.mp h.1
            exact (List.pairwise_cons.mp this.2.1).1 y hy
      · rw [if_neg q]
        exact hx
    | none =>
      have hno := List.find?_eq_none.mp hf
      cases p with
      | nil => exact absurd rfl hne
      | cons x p =>
        refine ⟨List.mem_cons_self .., fun y hy ne => ?_⟩
        show aboveBy e x.1 y.1 = true
        have a := hno x (List.mem_cons_self ..)
        have b := hno y hy
        unfold aboveBy
        rw [if_pos (by simp at a b; rw [a, b])]
        rcases List.mem_cons.mp hy with rfl | hy
        · exact absurd rfl ne
        · exact (List.pairwise_cons.mp h.1).1 y hy
  have hc := h.1.co_mem main.1
  refine ⟨⟨?_, fun m hm ne => ?_⟩, hc.symm⟩
  · rw [hc]
    exact h.2 _ main.1
  · exact main.2 _ (co_mem_of_ne hm) ne
def hd (e : List Nat) (b : Made) : Mono := (headBy e b.1).1
theorem Can.nil_of_zero {p : Poly} (h : Can p) (z : ∀ m, co p m = 0) : p = [] := Can.ext h .nil z
theorem hd_of_lead {e : List Nat} {b : Made} {h : Mono} (hb : Can b.1) (l : Lead e (co b.1) h) : hd e b = h := by
  have hne : b.1 ≠ [] := fun q => by
    have := l.1
    rw [q] at this
    exact this rfl
  exact (headBy_lead hb hne).1.unique l
/-- a basis of monic, freed ones -/
structure Bas0 (e : List Nat) (B : List Made) : Prop where
  can : ∀ b ∈ B, Can b.1
  lead : ∀ b ∈ B, Lead e (co b.1) (hd e b)
  one : ∀ b ∈ B, co b.1 (hd e b) = 1
  off : B.Pairwise fun b c => co b.1 (hd e c) = 0 ∧ co c.1 (hd e b) = 0
theorem Bas0.tail {e : List Nat} {b : Made} {B : List Made} (h : Bas0 e (b :: B)) : Bas0 e B :=
  ⟨fun c hc => h.can c (List.mem_cons_of_mem _ hc), fun c hc => h.lead c (List.mem_cons_of_mem _ hc), fun c hc => h.one c (List.mem_cons_of_mem _ hc), (List.pairwise_cons.mp h.off).2⟩
theorem reduce_cons (e : List Nat) (b : Made) (B : List Made) (x : Made) : reduce e (b :: B) x = reduce e B (lessBy (hd e b) b x) := rfl
theorem reduce_can {e : List Nat} : ∀ {B : List Made} {x : Made}, Can x.1 → Can (reduce e B x).1
  | [], _, h => h
  | b :: B, x, h => by
    rw [reduce_cons]
    exact reduce_can (lessBy_can h _)
theorem reduce_keep {e : List Nat} : ∀ {B : List Made} {x : Made} {h : Mono}, (∀ c ∈ B, Can c.1) → (∀ c ∈ B, co c.1 h = 0) → Can x.1 → co (reduce e B x).1 h = co x.1 h
  | [], _, _, _, _, _ => rfl
  | b :: B, x, h, hc, hz, hx => by
    rw [reduce_cons, reduce_keep (fun c m => hc c (List.mem_cons_of_mem _ m)) (fun c m => hz c (List.mem_cons_of_mem _ m)) (lessBy_can hx _), co_lessBy (hc b (List.mem_cons_self ..)) hx, hz b (List.mem_cons_self ..)]
    grind
theorem reduce_free {e : List Nat} : ∀ {B : List Made} {x : Made}, Bas0 e B → Can x.1 → ∀ b ∈ B, co (reduce e B x).1 (hd e b) = 0
  | [], _, _, _, b, hb => nomatch hb
  | c :: B, x, h, hx, b, hb => by
    rw [reduce_cons]
    rcases List.mem_cons.mp hb with rfl | hb
    · rw [reduce_keep (fun c m => h.can c (List.mem_cons_of_mem _ m)) (fun c m => ((List.pairwise_cons.mp h.off).1 c m).2) (lessBy_can hx _), co_lessBy (h.can b (List.mem_cons_self ..)) hx, h.one b (List.mem_cons_self ..)]
      grind
    · exact reduce_free h.tail (lessBy_can hx _) b hb
theorem reduce_span {e : List Nat} : ∀ {B : List Made} {x : Made}, (∀ c ∈ B, Can c.1) → Can x.1 → InSpan B (fun b => co b.1) fun m => co (reduce e B x).1 m - co x.1 m
  | [], x, _, _ => (InSpan.zero _ _).of_eq fun m => by show co x.1 m - co x.1 m = 0; grind
  | b :: B, x, hc, hx => by
    rw [reduce_cons]
    have ih := (reduce_span (e := e) (B := B) (x := lessBy (hd e b) b x) (fun c m => hc c (List.mem_cons_of_mem _ m)) (lessBy_can hx _)).sub (J := b :: B) fun i hi => List.mem_cons_of_mem _ hi
    have hb : InSpan (b :: B) (fun b => co b.1) (co b.1) := InSpan.mem (V := fun b : Made => co b.1) (List.mem_cons_self ..)
    refine (ih.add (hb.smul (-(co x.1 (hd e b))))).of_eq fun m => ?_
    rw [co_lessBy (hc b (List.mem_cons_self ..)) hx]
    grind
theorem reduce_tr {e : List Nat} {k : Nat} {N : List Ix} {V : Ix → Mono → Rat} {base : Mono → Rat} : ∀ {B : List Made} {x : Made}, (∀ b ∈ B, TrO k N V (fun _ => 0) b) → TrO k N V base x → TrO k N V base (reduce e B x)
  | [], _, _, h => h
  | b :: B, x, hB, h => by
    rw [reduce_cons]
    exact reduce_tr (fun c m => hB c (List.mem_cons_of_mem _ m)) ((hB b (List.mem_cons_self ..)).lessBy h _)
/-- in the span, and 0 at all heads: 0 -/
theorem lin_head {e : List Nat} (a : Made → Rat) : ∀ {B : List Made}, Bas0 e B → ∀ b ∈ B, lin B a (fun b => co b.1) (hd e b) = a b
  | [], _, b, hb => nomatch hb
  | c :: B, h, b, hb => by
    rw [lin_cons]
    have ho := (List.pairwise_cons.mp h.off).1
    rcases List.mem_cons.mp hb with rfl | hb
    · rw [lin_zeroV fun c m => (ho c m).2, h.one b (List.mem_cons_self ..)]
      grind
    · rw [lin_head a h.tail b hb, (ho b hb).1]
      grind
theorem span_zero {e : List Nat} {B : List Made} (h : Bas0 e B) {v : Mono → Rat} (hv : InSpan B (fun b => co b.1) v) (hz : ∀ b ∈ B, v (hd e b) = 0) : ∀ m, v m = 0 := by
  obtain ⟨a, ha⟩ := hv
  intro m
  rw [ha m]
  exact lin_zero fun b hb => by
    rw [← lin_head a h b hb, ← ha]
    exact hz b hb
/-- the lead of a sum: what is taken off has a lower lead, or isn't taken -/
theorem lead_less {e : List Nat} {u v : Mono → Rat} {h g : Mono} (hu : Lead e u h) (hv : Lead e v g) (hg : v h = 0) {w : Mono → Rat} (hw : ∀ m, w m = u m - u g * v m) : Lead e w h := by
  have ne : g ≠ h := fun q => hv.1 (by rw [q]; exact hg)
  refine ⟨?_, fun m hm nm => ?_⟩
  · rw [hw, hg]
    have := hu.1
    grind
  · by_cases q : u g = 0
    · refine hu.2 m ?_ nm
      rw [hw, q] at hm
      grind
    · have hgh := hu.2 g q ne
      by_cases um : u m = 0
      · have vm : v m ≠ 0 := fun z => hm (by rw [hw, um, z]; grind)
        by_cases mg : m = g
        · rw [mg]; exact hgh
        · exact aboveBy_trans hgh (hv.2 m vm mg)
      · exact hu.2 m um nm
/-- the whole invariant behind some multiples -/
structure Bas (e : List Nat) (k : Nat) (N : List Ix) (V : Ix → Mono → Rat) (B : List Made) : Prop where
  b0 : Bas0 e B
  tr : ∀ b ∈ B, TrO k N V (fun _ => 0) b
  sp : ∀ i ∈ N, InSpan B (fun b => co b.1) (V i)
theorem Bas.nil (e : List Nat) (k : Nat) (V : Ix → Mono → Rat) : Bas e k [] V [] := ⟨⟨(fun _ h => nomatch h), (fun _ h => nomatch h), (fun _ h => nomatch h), List.Pairwise.nil⟩, (fun _ h => nomatch h), (fun _ h => nomatch h)⟩
theorem Bas.span_iff {e : List Nat} {k : Nat} {N : List Ix} {V : Ix → Mono → Rat} {B : List Made} (h : Bas e k N V B) {v : Mono → Rat} : InSpan B (fun b => co b.1) v ↔ InSpan N V v := by
  constructor
  · intro hv
    refine hv.trans fun b hb => ⟨hco b.2, fun m => ?_⟩
    rw [(h.tr b hb).val m]
    grind
  · intro hv
    exact hv.trans h.sp
/-- what is reduced is 0 just if it is in the span -/
theorem Bas.reduce_nil {e : List Nat} {k : Nat} {N : List Ix} {V : Ix → Mono → Rat} {B : List Made} (h : Bas e k N V B) {x : Made} (hx : Can x.1) : (reduce e B x).1 = [] ↔ InSpan N V (co x.1) := by
  have hs := reduce_span (e := e) (B := B) (x := x) (fun b hb => h.b0.can b hb) hx
  rw [← h.span_iff]
  constructor
  · intro z
    refine (hs.smul (-1)).of_eq fun m => ?_
    rw [z, co_nil]
    grind
  · intro hv
    refine (reduce_can hx).nil_of_zero (span_zero h.b0 ?_ (reduce_free h.b0 hx))
    refine (hs.add hv).of_eq fun m => ?_
    grind
theorem Bas.put {e : List Nat} {k : Nat} {N : List Ix} {V : Ix → Mono → Rat} {B : List Made} (h : Bas e k N V B) {x : Made} {i : Ix} (hx : Can x.1) (hh : HowOk k x.2) (hv : ∀ m, co x.1 m = V i m) (hi : ∀ j, hco x.2 j = if j = i then 1 else 0) : Bas e k (sel1 V N i) V (Al04.put e B x) := by
  have hr := h.reduce_nil hx
  have hco : InSpan N V (co x.1) ↔ InSpan N V (V i) := ⟨fun q => q.of_eq fun m => (hv m).symm, fun q => q.of_eq hv⟩
  rw [hco] at hr
  unfold Al04.put
  by_cases z : (reduce e B x).1 = []
  · simp only [z, if_true]
    rw [sel1_in (hr.mp z)]
    exact h
  · simp only [z, if_false]
    have hni : ¬ InSpan N V (V i) := fun q => z (hr.mpr q)
    have hiN : i ∉ N := fun q => hni (InSpan.mem q)
    rw [sel1_out hni]
    have tx : TrO k (N ++ [i]) V (fun _ => 0) x := by
      refine ⟨hx, hh, fun m => ?_, fun j hj => ?_⟩
      · rw [lin_append, lin_cons, lin_nil, hv m, hi i, if_pos rfl, lin_zero fun j hj => by rw [hi j, if_neg (fun q : j = i => hiN (by rw [← q]; exact hj))]]
        grind
      · rw [hi j, if_neg fun q => hj (by rw [q]; exact List.mem_append_right _ (List.mem_singleton.mpr rfl))]
    have tB : ∀ b ∈ B, TrO k (N ++ [i]) V (fun _ => 0) b := fun b hb => (h.tr b hb).snoc i hiN
    have tr := reduce_tr (e := e) tB tx
    have hf := reduce_free (x := x) h.b0 hx
    have hs0 := reduce_span (e := e) (B := B) (x := x) (fun b hb => h.b0.can b hb) hx
    generalize reduce e B x = r at z tr hf hs0
    have hl := headBy_lead (e := e) tr.can z
    generalize hg : (headBy e r.1).1 = g at hl
    rw [hl.2]
    have c0 : co r.1 g ≠ 0 := hl.1.1
    have ts := tr.scale (1 / co r.1 g)
    generalize hs : ((scale (1 / co r.1 g) r.1, howScale (1 / co r.1 g) r.2) : Made) = s at ts
    have es : ∀ m, co s.1 m = (1 / co r.1 g) * co r.1 m := fun m => by rw [← hs]; exact co_scale _ _ _
    have c1 : co s.1 g = 1 := by rw [es]; grind
    have ls : Lead e (co s.1) g := by
      refine ⟨by rw [c1]; grind, fun m hm ne => hl.1.2 m (fun q => hm ?_) ne⟩
      rw [es, q]
      grind
    have hds : hd e s = g := hd_of_lead ts.can ls
    have sz : ∀ b ∈ B, co s.1 (hd e b) = 0 := fun b hb => by rw [es, hf b hb]; grind
    -- the old ones, freed
    have el : ∀ b ∈ B, ∀ m, co (lessBy g s b).1 m = co b.1 m - co b.1 g * co s.1 m := fun b hb m => co_lessBy ts.can (h.b0.can b hb) g m
    have ll : ∀ b ∈ B, Lead e (co (lessBy g s b).1) (hd e b) := fun b hb => lead_less (h.b0.lead b hb) ls (sz b hb) (el b hb)
    have lc : ∀ b ∈ B, Can (lessBy g s b).1 := fun b hb => lessBy_can (h.b0.can b hb) g
    have lh : ∀ b ∈ B, hd e (lessBy g s b) = hd e b := fun b hb => hd_of_lead (lc b hb) (ll b hb)
    have sp' : ∀ b ∈ B, InSpan (B.map (lessBy g s) ++ [s]) (fun b => co b.1) (co b.1) := fun b hb => by
      have m1 : InSpan (B.map (lessBy g s) ++ [s]) (fun b => co b.1) (co (lessBy g s b).1) := InSpan.mem (V := fun b : Made => co b.1) (List.mem_append_left _ (List.mem_map_of_mem hb))
      have m2 : InSpan (B.map (lessBy g s) ++ [s]) (fun b => co b.1) (co s.1) := InSpan.mem (V := fun b : Made => co b.1) (List.mem_append_right _ (List.mem_singleton.mpr rfl))
      refine (m1.add (m2.smul (co b.1 g))).of_eq fun m => ?_
      rw [el b hb]
      grind
    refine ⟨⟨?_, ?_, ?_, ?_⟩, ?_, ?_⟩
    · intro b hb
      rcases List.mem_append.mp hb with hb | hb
      · obtain ⟨c, hc, rfl⟩ := List.mem_map.mp hb
        exact lc c hc
      · rw [List.mem_singleton.mp hb]; exact ts.can
    · intro b hb
      rcases List.mem_append.mp hb with hb | hb
      · obtain ⟨c, hc, rfl⟩ := List.mem_map.mp hb
        rw [lh c hc]
        exact ll c hc
      · rw [List.mem_singleton.mp hb, hds]; exact ls
    · intro b hb
      rcases List.mem_append.mp hb with hb | hb
      · obtain ⟨c, hc, rfl⟩ := List.mem_map.mp hb
        rw [lh c hc, el c hc, sz c hc, h.b0.one c hc]
        grind
      · rw [List.mem_singleton.mp hb, hds]; exact c1
    · refine List.pairwise_append.mpr ⟨?_, List.pairwise_singleton .., ?_⟩
      · refine List.pairwise_map.mpr (h.b0.off.imp_of_mem ?_)
        intro b c hb hc hbc
        rw [lh b hb, lh c hc, el b hb, el c hc, sz b hb, sz c hc, hbc.1, hbc.2]
        grind
      · intro b hb c hc
        rw [List.mem_singleton.mp hc]
        obtain ⟨d, hd', rfl⟩ := List.mem_map.mp hb
        rw [hds, lh d hd', el d hd', sz d hd', c1]
        grind
    · intro b hb
      rcases List.mem_append.mp hb with hb | hb
      · obtain ⟨c, hc, rfl⟩ := List.mem_map.mp hb
        exact ts.lessBy (tB c hc) g
      · rw [List.mem_singleton.mp hb]; exact ts
    · intro j hj
      rcases List.mem_append.mp hj with hj | hj
      · exact (h.sp j hj).trans sp'
      · rw [List.mem_singleton.mp hj]
        -- x is r less what B gives
        have m2 : InSpan (B.map (lessBy g s) ++ [s]) (fun b => co b.1) (co s.1) := InSpan.mem (V := fun b : Made => co b.1) (List.mem_append_right _ (List.mem_singleton.mpr rfl))
        refine ((m2.smul (co r.1 g)).add ((hs0.trans sp').smul (-1))).of_eq fun m => ?_
        rw [← hv m, es]
        grind
/-- the multiples put one by one -/
theorem bas_fold {e : List Nat} {k : Nat} {V : Ix → Mono → Rat} : ∀ (l : List (Made × Ix)) {N : List Ix} {B : List Made}, Bas e k N V B →
    (∀ y ∈ l, Can y.1.1 ∧ HowOk k y.1.2 ∧ (∀ m, co y.1.1 m = V y.2 m) ∧ ∀ j, hco y.1.2 j = if j = y.2 then 1 else 0) →
    Bas e k ((l.map (·.2)).foldl (sel1 V) N) V ((l.map (·.1)).foldl (Al04.put e) B)
  | [], _, _, h, _ => h
  | y :: l, N, B, h, hl => by
    obtain ⟨h1, h2, h3, h4⟩ := hl y (List.mem_cons_self ..)
    exact bas_fold l (h.put h1 h2 h3 h4) fun z hz => hl z (List.mem_cons_of_mem _ hz)
/-- how something follows -/
theorem Bas.follows {k : Nat} {N : List Ix} {V : Ix → Mono → Rat} {B : List Made} (h : Bas [] k N V B) {p : Poly} (hp : Can p) :
    ((reduce [] B (p, howNone k)).1 = [] → ∃ how : How, how = howScale (-1) (reduce [] B (p, howNone k)).2 ∧ HowOk k how ∧ (∀ m, co p m = lin N (hco how) V m) ∧ ∀ i, i ∉ N → hco how i = 0) ∧
    ((reduce [] B (p, howNone k)).1 ≠ [] → ¬ InSpan N V (co p)) := by
  have tp : TrO k N V (co p) (p, howNone k) := ⟨hp, howNone_ok k, fun m => by
    rw [lin_zero fun i _ => hco_none k i]
    grind, fun i _ => hco_none k i⟩
  have tr := reduce_tr (e := []) h.tr tp
  constructor
  · intro z
    refine ⟨_, rfl, howScale_ok tr.how _, fun m => ?_, fun i hi => ?_⟩
    · have e : lin N (hco (howScale (-1) (reduce [] B (p, howNone k)).2)) V m = lin N (fun i => (-1) * hco (reduce [] B (p, howNone k)).2 i) V m := lin_congr fun i _ => hco_scale _ _ i
      rw [e, lin_smul]
      have := tr.val m
      rw [z, co_nil] at this
      grind
    · rw [hco_scale, tr.supp i hi]
      grind
  · intro z q
    exact z ((h.reduce_nil (x := (p, howNone k)) hp).mpr q)
end E94
set_option linter.unusedVariables false
set_option linter.unusedSimpArgs false
namespace E94
open AlBase Al04
/-! P2: products by their counts -/
def mon : List Nat → List Nat → Mono
  | a :: l, i :: c => if i = 0 then mon l c else (a, i) :: mon l c
  | _, _ => []
theorem mon_mem : ∀ {l c : List Nat} {x : Nat × Nat}, x ∈ mon l c → x.1 ∈ l ∧ x.2 ≠ 0
  | [], _, x, h => by simp [mon] at h
  | _ :: _, [], x, h => by simp [mon] at h
  | a :: l, i :: c, x, h => by
    unfold mon at h
    split at h
    · have := mon_mem h
      exact ⟨List.mem_cons_of_mem _ this.1, this.2⟩
    · rcases List.mem_cons.mp h with rfl | h
      · exact ⟨List.mem_cons_self .., by assumption⟩
      · have := mon_mem h
        exact ⟨List.mem_cons_of_mem _ this.1, this.2⟩
theorem mon_above {a : Nat} {l c : List Nat} (h : ∀ b ∈ l, a < b) : ∀ x ∈ mon l c, a < x.1 := fun x hx => h _ (mon_mem hx).1
theorem degree_cons (x : Nat × Nat) (m : Mono) : degree (x :: m) = x.2 + degree m := by simp [degree]
theorem mon_degree : ∀ {l c : List Nat}, c.length = l.length → degree (mon l c) = c.sum
  | [], [], _ => rfl
  | [], _ :: _, h => by cases h
  | _ :: _, [], h => by cases h
  | a :: l, i :: c, h => by
    have ih := @mon_degree l c (by simpa using h)
    unfold mon
    split
    · rename_i h0
      rw [ih, h0, List.sum_cons]
      omega
    · rw [degree_cons, ih, List.sum_cons]
/-- the first place where they differ: the first has more -/
def lexGt : List Nat → List Nat → Bool
  | i :: a, j :: b => if i = j then lexGt a b else decide (j < i)
  | _, _ => false
theorem mon_earlier : ∀ {l a b : List Nat}, l.Pairwise (· < ·) → a.length = l.length → b.length = l.length → earlier (mon l a) (mon l b) = lexGt a b
  | [], [], [], _, _, _ => rfl
  | [], _ :: _, _, _, h, _ => by cases h
  | [], [], _ :: _, _, _, h => by cases h
  | _ :: _, [], _, _, h, _ => by cases h
  | _ :: _, _ :: _, [], _, _, h => by cases h
  | x :: l, i :: a, j :: b, hl, ha, hb => by
    have hl1 := (List.pairwise_cons.mp hl).1
    have ih := @mon_earlier l a b (List.pairwise_cons.mp hl).2 (by simpa using ha) (by simpa using hb)
    have ma := mon_above (c := a) hl1
    have mb := mon_above (c := b) hl1
    unfold mon lexGt
    by_cases hi : i = 0
    · by_cases hj : j = 0
      · simp [hi, hj, ih]
      · simp only [hi, hj, if_true, if_false]
        have : (0 : Nat) ≠ j := fun q => hj q.symm
        rw [if_neg this]
        cases e : mon l a with
        | nil => simp [earlier]
        | cons y m =>
          have := ma y (by rw [e]; exact List.mem_cons_self ..)
          simp only [earlier]
          rw [if_neg (by omega), if_pos this]
          simp
    · by_cases hj : j = 0
      · simp only [hi, hj, if_true, if_false]
        cases e : mon l b with
        | nil => simp [earlier]; omega
        | cons y m =>
          have := mb y (by rw [e]; exact List.mem_cons_self ..)
          simp only [earlier]
          rw [if_pos this]
          simp
          omega
      · simp only [hi, hj, if_false]
        simp only [earlier]
        rw [if_neg (by omega), if_neg (by omega), ih]
theorem lexGt_irrefl : ∀ a : List Nat, lexGt a a = false
  | [] => rfl
  | i :: a => by simp [lexGt, lexGt_irrefl a]
theorem mon_inj {l a b : List Nat} (hl : l.Pairwise (· < ·)) (ha : a.length = l.length) (hb : b.length = l.length) (h : mon l a = mon l b) : a = b := by
  have tot : ∀ {a b : List Nat}, a.length = b.length → lexGt a b = false → lexGt b a = false → a = b := by
    intro a
    induction a with
    | nil => intro b hb _ _; cases b with
      | nil => rfl
      | cons => cases hb
    | cons i a ih =>
      intro b hb h1 h2
      cases b with
      | nil => cases hb
      | cons j b =>
        unfold lexGt at h1 h2
        by_cases e : i = j
        · subst e
          simp at h1 h2
          rw [ih (by simpa using hb) h1 h2]
        · have e' : ¬ j = i := fun q => e q.symm
          simp [e, e'] at h1 h2
          omega
  refine tot (by rw [ha, hb]) ?_ ?_
  · rw [← mon_earlier hl ha hb, h]
    exact earlier_irrefl _
  · rw [← mon_earlier hl hb ha, h]
    exact earlier_irrefl _
/-- the higher one, by counts -/
def cntGt (a b : List Nat) : Bool := if a.sum = b.sum then lexGt a b else decide (b.sum < a.sum)
theorem mon_aboveC {l a b : List Nat} (hl : l.Pairwise (· < ·)) (ha : a.length = l.length) (hb : b.length = l.length) : above (mon l a) (mon l b) = cntGt a b := by
  unfold above cntGt
  rw [mon_degree ha, mon_degree hb, mon_earlier hl ha hb]
/-! times -/
theorem put_past {x n y k : Nat} {m : Mono} (h : x < y) : put y k ((x, n) :: m) = (x, n) :: put y k m := by
  rw [AlBase.put]
  rw [if_neg (by omega), if_neg (by omega)]
theorem put_new {x j : Nat} : ∀ {m : Mono}, (∀ y ∈ m, x < y.1) → put x j m = (x, j) :: m
  | [], _ => rfl
  | (b, k) :: m, h => by
    rw [AlBase.put]
    rw [if_pos (h (b, k) (List.mem_cons_self ..))]
theorem times_past {x n : Nat} : ∀ {m t : Mono}, (∀ y ∈ t, x < y.1) → times ((x, n) :: m) t = (x, n) :: times m t
  | m, [], _ => rfl
  | m, y :: t, h => by
    show times (put y.1 y.2 ((x, n) :: m)) t = (x, n) :: times (put y.1 y.2 m) t
    rw [put_past (h y (List.mem_cons_self ..))]
    exact times_past fun z hz => h z (List.mem_cons_of_mem _ hz)
theorem times_cons (m : Mono) (y : Nat × Nat) (t : Mono) : times m (y :: t) = times (put y.1 y.2 m) t := rfl
def addC : List Nat → List Nat → List Nat
  | i :: a, j :: b => (i + j) :: addC a b
  | _, _ => []
theorem addC_len : ∀ {a b : List Nat}, a.length = b.length → (addC a b).length = a.length
  | [], [], _ => rfl
  | [], _ :: _, h => by cases h
  | _ :: _, [], h => by cases h
  | i :: a, j :: b, h => by
    simp only [addC, List.length_cons]
    rw [addC_len (by simpa using h)]
theorem addC_sum : ∀ {a b : List Nat}, a.length = b.length → (addC a b).sum = a.sum + b.sum
  | [], [], _ => rfl
  | [], _ :: _, h => by cases h
  | _ :: _, [], h => by cases h
  | i :: a, j :: b, h => by
    simp only [addC, List.sum_cons]
    rw [addC_sum (by simpa using h)]
    omega
theorem mon_times : ∀ {l a b : List Nat}, l.Pairwise (· < ·) → a.length = l.length → b.length = l.length → times (mon l a) (mon l b) = mon l (addC a b)
  | [], [], [], _, _, _ => rfl
  | [], _ :: _, _, _, h, _ => by cases h
  | [], [], _ :: _, _, _, h => by cases h
  | _ :: _, [], _, _, h, _ => by cases h
  | _ :: _, _ :: _, [], _, _, h => by cases h
  | x :: l, i :: a, j :: b, hl, ha, hb => by
    have hl1 := (List.pairwise_cons.mp hl).1
    have ih := @mon_times l a b (List.pairwise_cons.mp hl).2 (by simpa using ha) (by simpa using hb)
    have ma := mon_above (c := a) hl1
    have mb := mon_above (c := b) hl1
    unfold mon addC
    by_cases hj : j = 0
    · subst hj
      by_cases hi : i = 0
      · simp [hi]
        rw [ih]
      · simp only [hi, if_false, if_true, Nat.add_zero]
        rw [times_past mb, ih]
    · simp only [hj, if_false]
      rw [times_cons]
      by_cases hi : i = 0
      · simp only [hi, if_true]
        rw [put_new ma, times_past mb, ih]
        simp [mon, hj]
      · simp only [hi, if_false]
        have e : put x j ((x, i) :: mon l a) = (x, i + j) :: mon l a := by
          rw [AlBase.put, if_neg (by omega), if_pos rfl, Nat.add_comm]
        rw [e, times_past mb, ih]
        have : i + j ≠ 0 := by omega
        rw [if_neg this]
theorem addC_inj : ∀ {q a b : List Nat}, q.length = a.length → q.length = b.length → addC q a = addC q b → a = b
  | [], [], [], _, _, _ => rfl
  | [], _ :: _, _, h, _, _ => by cases h
  | [], [], _ :: _, _, h, _ => by cases h
  | _ :: _, [], _, h, _, _ => by cases h
  | _ :: _, _ :: _, [], _, h, _ => by cases h
  | k :: q, i :: a, j :: b, ha, hb, h => by
    simp only [addC, List.cons.injEq] at h
    rw [addC_inj (by simpa using ha) (by simpa using hb) h.2]
    congr 1
    omega
theorem addC_lexGt : ∀ {q a b : List Nat}, q.length = a.length → q.length = b.length → lexGt (addC q a) (addC q b) = lexGt a b
  | [], [], [], _, _ => rfl
  | [], _ :: _, _, h, _ => by cases h
  | [], [], _ :: _, _, h => by cases h
  | _ :: _, [], _, h, _ => by cases h
  | _ :: _, _ :: _, [], _, h => by cases h
  | k :: q, i :: a, j :: b, ha, hb => by
    simp only [addC, lexGt]
    rw [addC_lexGt (by simpa using ha) (by simpa using hb)]
    by_cases e : i = j
    · simp [e]
    · simp [e]
theorem addC_cntGt {q a b : List Nat} (ha : q.length = a.length) (hb : q.length = b.length) : cntGt (addC q a) (addC q b) = cntGt a b := by
  unfold cntGt
  rw [addC_sum ha, addC_sum hb, addC_lexGt ha hb]
  by_cases e : a.sum = b.sum
  · simp [e]
  · simp [e]
/-! polynomials over the letters -/
def Cnt (l c : List Nat) : Prop := c.length = l.length
def Over (l : List Nat) (p : Poly) : Prop := ∀ x ∈ p, ∃ c : List Nat, c.length = l.length ∧ x.1 = mon l c
theorem Over.tail {l : List Nat} {x : Mono × Rat} {p : Poly} (h : Over l (x :: p)) : Over l p := fun y hy => h y (List.mem_cons_of_mem _ hy)
theorem termTimes_one (m : Mono) (p : Poly) : termTimes (m, 1) p = p.map fun y => (times m y.1, y.2) := by
  show (scale 1 p).map (fun y => (times m y.1, y.2)) = _
  unfold scale
  rw [if_neg (by decide), List.map_map]
  apply List.map_congr_left
  intro x _
  show (times m x.1, 1 * x.2) = _
  rw [Rat.one_mul]
theorem mul_one_term (m : Mono) (p : Poly) : mul [(m, 1)] p = add [] (p.map fun y => (times m y.1, y.2)) := by
  show add [] (termTimes (m, 1) p) = _
  rw [termTimes_one]
theorem map_times_srt {l q : List Nat} {p : Poly} (hl : l.Pairwise (· < ·)) (hq : q.length = l.length) (ho : Over l p) (hp : Srt p) : Srt (p.map fun y => (times (mon l q) y.1, y.2)) := by
  refine List.pairwise_map.mpr (hp.imp_of_mem ?_)
  intro x y hx hy hxy
  obtain ⟨a, ha, ea⟩ := ho x hx
  obtain ⟨b, hb, eb⟩ := ho y hy
  show above (times (mon l q) x.1) (times (mon l q) y.1) = true
  rw [ea, eb] at hxy ⊢
  rw [mon_times hl hq ha, mon_times hl hq hb, mon_aboveC hl (by rw [addC_len (by rw [hq, ha]), hq]) (by rw [addC_len (by rw [hq, hb]), hq]), addC_cntGt (by rw [hq, ha]) (by rw [hq, hb]), ← mon_aboveC hl ha hb]
  exact hxy
theorem mul_mono {l q : List Nat} {p : Poly} (hl : l.Pairwise (· < ·)) (hq : q.length = l.length) (ho : Over l p) (hp : Can p) : mul [(mon l q, 1)] p = p.map fun y => (times (mon l q) y.1, y.2) := by
  rw [mul_one_term]
  refine add_nil_can ⟨map_times_srt hl hq ho hp.1, fun x hx => ?_⟩
  obtain ⟨y, hy, rfl⟩ := List.mem_map.mp hx
  exact hp.2 y hy
theorem mul_mono_can {l q : List Nat} {p : Poly} (hl : l.Pairwise (· < ·)) (hq : q.length = l.length) (ho : Over l p) (hp : Can p) : Can (mul [(mon l q, 1)] p) := by
  rw [mul_one_term]
  exact add_can .nil
/-! sorted lists without repeats are told by their members -/
theorem sorted_unique {α : Type} {r : α → α → Prop} (irr : ∀ a, ¬ r a a) (as : ∀ {a b c}, r a b → r b c → r a c) : ∀ {l m : List α}, l.Pairwise r → m.Pairwise r → (∀ x, x ∈ l ↔ x ∈ m) → l = m
  | [], [], _, _, _ => rfl
  | [], y :: m, _, _, h => by have := (h y).mpr (List.mem_cons_self ..); cases this
  | x :: l, [], _, _, h => by have := (h x).mp (List.mem_cons_self ..); cases this
  | x :: l, y :: m, hl, hm, h => by
    have hl1 := List.pairwise_cons.mp hl
    have hm1 := List.pairwise_cons.mp hm
    have e : x = y := by
      rcases List.mem_cons.mp ((h x).mp (List.mem_cons_self ..)) with e | h1
      · exact e
      · rcases List.mem_cons.mp ((h y).mpr (List.mem_cons_self ..)) with e | h2
        · exact e.symm
        · exact absurd (as (hl1.1 y h2) (hm1.1 x h1)) (irr x)
    subst e
    rw [sorted_unique irr as hl1.2 hm1.2 fun z => ?_]
    constructor
    · intro hz
      rcases List.mem_cons.mp ((h z).mp (List.mem_cons_of_mem _ hz)) with e | h1
      · subst e
        exact absurd (hl1.1 z hz) (irr z)
      · exact h1
    · intro hz
      rcases List.mem_cons.mp ((h z).mpr (List.mem_cons_of_mem _ hz)) with e | h1
      · subst e
        exact absurd (hm1.1 z hz) (irr z)
      · exact h1
/-! all products -/
theorem productsOf_mem : ∀ {l : List Nat} {d : Nat} {m : Mono}, m ∈ productsOf l d ↔ ∃ c : List Nat, c.length = l.length ∧ c.sum ≤ d ∧ m = mon l c
  | [], d, m => by
    unfold productsOf
    constructor
    · intro h
      exact ⟨[], rfl, Nat.zero_le _, List.mem_singleton.mp h⟩
    · rintro ⟨c, hc, _, e⟩
      rw [e]
      cases c with
      | nil => exact List.mem_singleton.mpr rfl
      | cons => cases hc
  | a :: l, d, m => by
    unfold productsOf
    rw [List.mem_flatMap]
    constructor
    · rintro ⟨i, hi, hm⟩
      obtain ⟨n, hn, e⟩ := List.mem_map.mp hm
      obtain ⟨c, hc, hs, rfl⟩ := productsOf_mem.mp hn
      have hi' := List.mem_range.mp hi
      refine ⟨i :: c, by simp [hc], by rw [List.sum_cons]; omega, ?_⟩
      rw [← e]
      rfl
    · rintro ⟨c, hc, hs, rfl⟩
      cases c with
      | nil => cases hc
      | cons i c =>
        rw [List.sum_cons] at hs
        refine ⟨i, List.mem_range.mpr (by omega), List.mem_map.mpr ⟨mon l c, productsOf_mem.mpr ⟨c, by simpa using hc, by omega, rfl⟩, rfl⟩⟩
theorem insertLow_mem {m x : Mono} : ∀ {l : List Mono}, x ∈ insertLow m l ↔ x = m ∨ x ∈ l
  | [] => by simp [insertLow]
  | n :: l => by
    unfold insertLow
    split
    · rw [List.mem_cons, insertLow_mem, List.mem_cons]
      grind
    · simp
theorem insertLow_sorted {m : Mono} : ∀ {l : List Mono}, l.Pairwise (fun a b => above b a = true) → m ∉ l → (insertLow m l).Pairwise fun a b => above b a = true
  | [], _, _ => List.pairwise_singleton ..
  | n :: l, h, hm => by
    have h1 := List.pairwise_cons.mp h
    have hne : m ≠ n := fun q => hm (by rw [q]; exact List.mem_cons_self ..)
    unfold insertLow
    split
    · rename_i a
      refine List.pairwise_cons.mpr ⟨fun y hy => ?_, insertLow_sorted h1.2 fun q => hm (List.mem_cons_of_mem _ q)⟩
      rcases insertLow_mem.mp hy with rfl | hy
      · exact a
      · exact h1.1 y hy
    · rename_i a
      have a2 := above_total hne (by simpa using a)
      refine List.pairwise_cons.mpr ⟨fun y hy => ?_, h⟩
      rcases List.mem_cons.mp hy with rfl | hy
      · exact a2
      · exact above_trans (h1.1 y hy) a2
theorem products_fold : ∀ {l s : List Mono}, s.Pairwise (fun a b => above b a = true) → l.Nodup → (∀ x ∈ l, x ∉ s) →
    (l.foldl (fun s m => insertLow m s) s).Pairwise (fun a b => above b a = true) ∧ ∀ x, x ∈ l.foldl (fun s m => insertLow m s) s ↔ x ∈ l ∨ x ∈ s
  | [], s, h, _, _ => ⟨h, fun x => by simp⟩
  | m :: l, s, h, hn, hd => by
    have hn1 := List.nodup_cons.mp hn
    have h1 := insertLow_sorted h (hd m (List.mem_cons_self ..))
    have ih := products_fold (l := l) h1 hn1.2 fun x hx q => by
      rcases insertLow_mem.mp q with rfl | q
      · exact hn1.1 hx
      · exact hd x (List.mem_cons_of_mem _ hx) q
    refine ⟨ih.1, fun x => ?_⟩
    rw [List.foldl_cons, ih.2 x, insertLow_mem, List.mem_cons]
    grind
theorem productsOf_nodup : ∀ {l : List Nat} (d : Nat), l.Pairwise (· < ·) → (productsOf l d).Nodup
  | [], d, _ => by simp [productsOf]
  | a :: l, d, hl => by
    have hl1 := List.pairwise_cons.mp hl
    unfold productsOf
    refine List.pairwise_flatMap.mpr ?_
    refine ⟨fun i hi => ?_, ?_⟩
    · refine List.Pairwise.map _ ?_ (productsOf_nodup (d - i) hl1.2)
      intro x y ne
      show (if i = 0 then x else (a, i) :: x) ≠ (if i = 0 then y else (a, i) :: y)
      split
      · exact ne
      · intro q
        exact ne (List.cons.inj q).2
    · refine List.nodup_range.imp ?_
      intro i j ne x hx y hy exy
      subst exy
      obtain ⟨m, hm, em⟩ := List.mem_map.mp hx
      obtain ⟨n, hn, en⟩ := List.mem_map.mp hy
      obtain ⟨c, hc, _, rfl⟩ := productsOf_mem.mp hm
      obtain ⟨c', hc', _, rfl⟩ := productsOf_mem.mp hn
      have e : mon (a :: l) (i :: c) = mon (a :: l) (j :: c') := by
        show (if i = 0 then mon l c else (a, i) :: mon l c) = (if j = 0 then mon l c' else (a, j) :: mon l c')
        rw [em, en]
      have := mon_inj hl (by simp [hc]) (by simp [hc']) e
      exact ne (List.cons.inj this).1
theorem products_spec {l : List Nat} (d : Nat) (hl : l.Pairwise (· < ·)) : (products l d).Pairwise (fun a b => above b a = true) ∧ ∀ m, m ∈ products l d ↔ ∃ c : List Nat, c.length = l.length ∧ c.sum ≤ d ∧ m = mon l c := by
  have h := products_fold (s := []) List.Pairwise.nil (productsOf_nodup d hl) fun x _ q => nomatch q
  refine ⟨h.1, fun m => ?_⟩
  unfold products
  rw [h.2 m, productsOf_mem]
  simp
/-- the products by counts, in order, are the specification's -/
theorem products_of_counts {l : List Nat} {d : Nat} (hl : l.Pairwise (· < ·)) {cs : List (List Nat)} (hs : cs.Pairwise fun a b => cntGt b a = true) (hm : ∀ c, c ∈ cs ↔ c.length = l.length ∧ c.sum ≤ d) : products l d = cs.map (mon l) := by
  have h := products_spec d hl
  refine sorted_unique (r := fun a b => above b a = true) (fun a => by simp [above_irrefl]) (fun h1 h2 => above_trans h2 h1) h.1 ?_ fun x => ?_
  · refine List.pairwise_map.mpr (hs.imp_of_mem ?_)
    intro a b ha hb q
    rw [mon_aboveC hl ((hm b).mp hb).1 ((hm a).mp ha).1]
    exact q
  · rw [h.2 x, List.mem_map]
    constructor
    · rintro ⟨c, h1, h2, rfl⟩
      exact ⟨c, (hm c).mpr ⟨h1, h2⟩, rfl⟩
    · rintro ⟨c, h1, rfl⟩
      exact ⟨c, ((hm c).mp h1).1, ((hm c).mp h1).2, rfl⟩
/-! degrees -/
theorem polyDegree_le {p : Poly} {d : Nat} : polyDegree p ≤ d ↔ ∀ x ∈ p, degree x.1 ≤ d := by
  have key : ∀ (p : Poly) (s : Nat), p.foldl (fun (s : Nat) (x : Mono × Rat) => max s (degree x.1)) s ≤ d ↔ s ≤ d ∧ ∀ x ∈ p, degree x.1 ≤ d := by
    intro p
    induction p with
    | nil => intro s; simp
    | cons x p ih =>
      intro s
      rw [List.foldl_cons, ih]
      simp only [List.mem_cons, forall_eq_or_imp]
      grind
  unfold polyDegree
  rw [key]
  simp
theorem above_degree {m n : Mono} (h : above m n = true) : degree n ≤ degree m := by
  unfold above at h
  split at h
  · omega
  · simp at h; omega
theorem polyDegree_head {x : Mono × Rat} {p : Poly} (h : Srt (x :: p)) : polyDegree (x :: p) = degree x.1 := by
  have h1 : polyDegree (x :: p) ≤ degree x.1 := polyDegree_le.mpr fun y hy => by
    rcases List.mem_cons.mp hy with rfl | hy
    · exact Nat.le_refl _
    · exact above_degree ((List.pairwise_cons.mp h).1 y hy)
  have h2 := (polyDegree_le (p := x :: p)).mp (Nat.le_refl _) x (List.mem_cons_self ..)
  omega
end E94
set_option linter.unusedVariables false
set_option linter.unusedSimpArgs false
namespace E94
/-! R1: rows of whole numbers, reduced -/
def gcdL (row : List Int) : Nat := row.foldl (fun g x => Nat.gcd g x.natAbs) 0
def cleared (row : List Int) : List Int := row.map fun x => x / (gcdL row : Int)
def comb (keep less : Int) (row other : List Int) : List Int := (row.zip other).map fun z => keep * z.1 - less * z.2
def withZero (place : Nat) (row other : List Int) : List Int := if row.getD place 0 = 0 then row else cleared (comb (other.getD place 0) (row.getD place 0) row other)
def firstPlace : List Int → Option Nat
  | [] => none
  | x :: r => if x ≠ 0 then some 0 else (firstPlace r).map (· + 1)
abbrev Found := List (Nat × List Int)
def restOf (found : Found) (row : List Int) : List Int := found.foldl (fun r y => withZero y.1 r y.2) (cleared row)
def redStep (found : Found) (row : List Int) : Found := match firstPlace (restOf found row) with
  | none => found
  | some f => (f, restOf found row) :: found.map fun y => (y.1, withZero f y.2 (restOf found row))
def reduced (rows : List (List Int)) : Found := rows.foldl redStep []
/-! a row's numbers -/
def rf (row : List Int) (j : Nat) : Rat := ((row.getD j 0 : Int) : Rat)
theorem rf_zero {row : List Int} {j : Nat} : rf row j = 0 ↔ row.getD j 0 = 0 := by
  unfold rf
  constructor
  · intro h; exact_mod_cast h
  · intro h; rw [h]; rfl
theorem gcdL_from : ∀ (row : List Int) (g : Nat), ((row.foldl (fun g x => Nat.gcd g x.natAbs) g) ∣ g ∧ ∀ x ∈ row, (row.foldl (fun g x => Nat.gcd g x.natAbs) g) ∣ x.natAbs) ∧ ∀ d : Nat, d ∣ g → (∀ x ∈ row, d ∣ x.natAbs) → d ∣ row.foldl (fun g x => Nat.gcd g x.natAbs) g
  | [], g => ⟨⟨Nat.dvd_refl _, fun _ h => nomatch h⟩, fun d h _ => h⟩
  | x :: r, g => by
    obtain ⟨⟨h1, h2⟩, h3⟩ := gcdL_from r (Nat.gcd g x.natAbs)
    rw [List.foldl_cons]
    refine ⟨⟨Nat.dvd_trans h1 (Nat.gcd_dvd_left ..), fun y hy => ?_⟩, fun d hd hx => h3 d (Nat.dvd_gcd hd (hx x (List.mem_cons_self ..))) fun y hy => hx y (List.mem_cons_of_mem _ hy)⟩
    rcases List.mem_cons.mp hy with rfl | hy
    · exact Nat.dvd_trans h1 (Nat.gcd_dvd_right ..)
    · exact h2 y hy
theorem gcdL_dvd {row : List Int} {x : Int} (h : x ∈ row) : (gcdL row : Int) ∣ x := Int.ofNat_dvd_left.mpr ((gcdL_from row 0).1.2 x h)
theorem dvd_gcdL {row : List Int} {d : Nat} (h : ∀ x ∈ row, d ∣ x.natAbs) : d ∣ gcdL row := (gcdL_from row 0).2 d (Nat.dvd_zero _) h
theorem gcdL_zero {row : List Int} (h : gcdL row = 0) {x : Int} (hx : x ∈ row) : x = 0 := by
  have := gcdL_dvd hx
  rw [h] at this
  simpa using this
theorem cleared_len (row : List Int) : (cleared row).length = row.length := List.length_map ..
theorem getD_map0 {f : Int → Int} (h0 : f 0 = 0) (row : List Int) (j : Nat) : (row.map f).getD j 0 = f (row.getD j 0) := by
  rw [List.getD_eq_getElem?_getD, List.getD_eq_getElem?_getD, List.getElem?_map]
  cases row[j]? with
  | none => exact h0.symm
  | some x => rfl
theorem getD_mem_or (row : List Int) (j : Nat) : row.getD j 0 ∈ row ∨ row.getD j 0 = 0 := by
  rw [List.getD_eq_getElem?_getD]
  cases h : row[j]? with
  | none => right; rfl
  | some x => left; exact List.mem_of_getElem? h
theorem gcdL_mul_cleared (row : List Int) (j : Nat) : (gcdL row : Int) * (cleared row).getD j 0 = row.getD j 0 := by
  unfold cleared
  rw [getD_map0 (by simp)]
  have h : (gcdL row : Int) ∣ row.getD j 0 := by
    rcases getD_mem_or row j with h | h
    · exact gcdL_dvd h
    · rw [h]; exact Int.dvd_zero _
  exact Int.mul_ediv_cancel' h
theorem cleared_id_of_zero {row : List Int} (h : gcdL row = 0) : cleared row = row := by
  unfold cleared
  rw [h]
  have : ∀ x ∈ row, x / ((0 : Nat) : Int) = x := fun x hx => by rw [gcdL_zero h hx]; rfl
  calc row.map (fun x => x / ((0 : Nat) : Int)) = row.map id := List.map_congr_left this
    _ = row := List.map_id _
theorem cleared_rel (row : List Int) : ∃ c : Rat, c ≠ 0 ∧ ∀ j, rf (cleared row) j = c * rf row j := by
  by_cases h : gcdL row = 0
  · exact ⟨1, by decide, fun j => by rw [cleared_id_of_zero h]; grind⟩
  · have h0 : ((gcdL row : Int) : Rat) ≠ 0 := by
      intro q
      have : (gcdL row : Int) = 0 := by exact_mod_cast q
      omega
    refine ⟨1 / ((gcdL row : Int) : Rat), by grind, fun j => ?_⟩
    have := gcdL_mul_cleared row j
    unfold rf
    rw [← this, Rat.intCast_mul]
    grind
/-- nothing above 1 goes into all its numbers -/
def Prim (row : List Int) : Prop := ∀ d : Nat, (∀ x ∈ row, d ∣ x.natAbs) → d = 1
def AllZero (row : List Int) : Prop := ∀ x ∈ row, x = 0
theorem cleared_prim (row : List Int) : AllZero (cleared row) ∨ Prim (cleared row) := by
  by_cases h : gcdL row = 0
  · left
    rw [cleared_id_of_zero h]
    exact fun x hx => gcdL_zero h hx
  · right
    intro d hd
    have : d * gcdL row ∣ gcdL row := dvd_gcdL fun x hx => by
      have h1 := hd (x / (gcdL row : Int)) (List.mem_map_of_mem hx)
      obtain ⟨k, hk⟩ := h1
      have h2 : x.natAbs = gcdL row * (x / (gcdL row : Int)).natAbs := by
        have := Int.mul_ediv_cancel' (gcdL_dvd hx)
        calc x.natAbs = ((gcdL row : Int) * (x / (gcdL row : Int))).natAbs := by rw [this]
          _ = _ := by rw [Int.natAbs_mul]; rfl
      exact ⟨k, by rw [h2, hk]; grind⟩
    have hp : 0 < gcdL row := by omega
    have := Nat.le_of_dvd hp this
    rcases Nat.lt_or_ge d 2 with hlt | hge
    · rcases Nat.lt_or_ge d 1 with h0 | h1
      · have : d = 0 := by omega
        subst this
        exfalso
        have : ∀ x ∈ row, x = 0 := fun x hx => by
          have h1 := hd (x / (gcdL row : Int)) (List.mem_map_of_mem hx)
          have h2 := Int.mul_ediv_cancel' (gcdL_dvd hx)
          have h3 : x / (gcdL row : Int) = 0 := by
            have := Nat.eq_zero_of_zero_dvd h1
            omega
          rw [h3] at h2
          omega
        have : (0 : Nat) ∣ gcdL row := dvd_gcdL fun x hx => by rw [this x hx]; exact Nat.dvd_refl _
        exact h (Nat.eq_zero_of_zero_dvd this)
      · omega
    · exfalso
      have : gcdL row * 2 ≤ d * gcdL row := by rw [Nat.mul_comm d]; exact Nat.mul_le_mul_left _ hge
      omega
theorem comb_len {keep less : Int} {row other : List Int} (h : row.length = other.length) : (comb keep less row other).length = row.length := by
  unfold comb
  rw [List.length_map, List.length_zip, h, Nat.min_self]
theorem comb_get {keep less : Int} {row other : List Int} (h : row.length = other.length) (j : Nat) : (comb keep less row other).getD j 0 = keep * row.getD j 0 - less * other.getD j 0 := by
  unfold comb
  rw [List.getD_eq_getElem?_getD, List.getD_eq_getElem?_getD, List.getD_eq_getElem?_getD, List.getElem?_map]
  by_cases hj : j < row.length
  · have h2 : j < other.length := by omega
    have h3 : j < (row.zip other).length := by rw [List.length_zip]; omega
    rw [List.getElem?_eq_getElem hj, List.getElem?_eq_getElem h2, List.getElem?_eq_getElem h3, List.getElem_zip]
    rfl
  · have h3 : (row.zip other).length ≤ j := by rw [List.length_zip]; omega
    rw [List.getElem?_eq_none h3, List.getElem?_eq_none (show row.length ≤ j by omega), List.getElem?_eq_none (show other.length ≤ j by omega)]
    simp
theorem withZero_len {place : Nat} {row other : List Int} (h : row.length = other.length) : (withZero place row other).length = row.length := by
  unfold withZero
  split
  · rfl
  · rw [cleared_len, comb_len h]
theorem withZero_rel {place : Nat} {row other : List Int} (h : row.length = other.length) (ho : rf other place ≠ 0) :
    ∃ c1 c2 : Rat, c1 ≠ 0 ∧ (∀ j, rf (withZero place row other) j = c1 * rf row j + c2 * rf other j) ∧ rf (withZero place row other) place = 0 := by
  unfold withZero
  split
  · rename_i h0
    exact ⟨1, 0, by decide, fun j => by grind, rf_zero.mpr h0⟩
  · obtain ⟨c, hc, e⟩ := cleared_rel (comb (other.getD place 0) (row.getD place 0) row other)
    have e2 : ∀ j, rf (comb (other.getD place 0) (row.getD place 0) row other) j = rf other place * rf row j - rf row place * rf other j := fun j => by
      unfold rf
      rw [comb_get h]
      push_cast
      rfl
    refine ⟨c * rf other place, -(c * rf row place), by grind, fun j => ?_, ?_⟩
    · rw [e, e2]; grind
    · rw [e, e2]; grind
theorem withZero_same {place : Nat} {row other : List Int} (h : rf row place = 0) : withZero place row other = row := if_pos (rf_zero.mp h)
theorem withZero_prim {place : Nat} {row other : List Int} (h : AllZero row ∨ Prim row) : AllZero (withZero place row other) ∨ Prim (withZero place row other) := by
  unfold withZero
  split
  · exact h
  · exact cleared_prim _
theorem firstPlace_none : ∀ {row : List Int}, firstPlace row = none → ∀ j, rf row j = 0
  | [], _, j => by simp [rf]
  | x :: r, h, j => by
    unfold firstPlace at h
    split at h
    · cases h
    · rename_i hx
      have ih := @firstPlace_none r (by simpa using h)
      cases j with
      | zero => exact rf_zero.mpr (by simpa using hx)
      | succ j => exact ih j
theorem firstPlace_some : ∀ {row : List Int} {f : Nat}, firstPlace row = some f → f < row.length ∧ rf row f ≠ 0 ∧ ∀ j, j < f → rf row j = 0
  | [], f, h => by cases h
  | x :: r, f, h => by
    unfold firstPlace at h
    split at h
    · rename_i hx
      have : f = 0 := (Option.some.inj h).symm
      subst this
      exact ⟨Nat.zero_lt_succ _, fun q => hx (rf_zero.mp q), fun j hj => absurd hj (Nat.not_lt_zero _)⟩
    · rename_i hx
      cases hf : firstPlace r with
      | none => rw [hf] at h; cases h
      | some g =>
        rw [hf] at h
        have e : f = g + 1 := (Option.some.inj h).symm
        subst e
        obtain ⟨h1, h2, h3⟩ := firstPlace_some hf
        refine ⟨Nat.succ_lt_succ h1, h2, fun j hj => ?_⟩
        cases j with
        | zero => exact rf_zero.mpr (by simpa using hx)
        | succ j => exact h3 j (Nat.lt_of_succ_lt_succ hj)
/-! what holds between rows -/
abbrev fv (y : Nat × List Int) : Nat → Rat := rf y.2
structure Red (w : Nat) (done U : List (List Int)) (F : Found) : Prop where
  len : ∀ y ∈ F, y.2.length = w
  lt : ∀ y ∈ F, y.1 < w
  piv : ∀ y ∈ F, rf y.2 y.1 ≠ 0
  low : ∀ y ∈ F, ∀ j, j < y.1 → rf y.2 j = 0
  off : F.Pairwise fun y z => rf y.2 z.1 = 0 ∧ rf z.2 y.1 = 0
  prim : ∀ y ∈ F, Prim y.2
  cnt : U.length = F.length
  used : ∀ u ∈ U, u ∈ done
  spU : ∀ y ∈ F, InSpan U rf (rf y.2)
  spF : ∀ r ∈ done, InSpan F fv (rf r)
theorem Red.nil (w : Nat) : Red w [] [] [] := ⟨(fun _ h => nomatch h), (fun _ h => nomatch h), (fun _ h => nomatch h), (fun _ h => nomatch h), List.Pairwise.nil, (fun _ h => nomatch h), rfl, (fun _ h => nomatch h), (fun _ h => nomatch h), (fun _ h => nomatch h)⟩
structure Fok (w : Nat) (F : Found) : Prop where
  len : ∀ y ∈ F, y.2.length = w
  piv : ∀ y ∈ F, rf y.2 y.1 ≠ 0
  off : F.Pairwise fun y z => rf y.2 z.1 = 0 ∧ rf z.2 y.1 = 0
theorem rest_fold {w : Nat} : ∀ {F : Found} {r : List Int}, Fok w F → r.length = w → (AllZero r ∨ Prim r) →
    let R := F.foldl (fun r y => withZero y.1 r y.2) r
    R.length = w ∧ (AllZero R ∨ Prim R) ∧ (∀ y ∈ F, rf R y.1 = 0) ∧ (∀ k, (∀ y ∈ F, rf y.2 k = 0) → rf r k = 0 → rf R k = 0) ∧ ∃ c : Rat, c ≠ 0 ∧ InSpan F fv fun j => rf R j - c * rf r j
  | [], r, _, hr, hp => ⟨hr, hp, (fun _ h => nomatch h), (fun k _ h => h), 1, by decide, (InSpan.zero _ _).of_eq fun j => by show rf r j - 1 * rf r j = 0; grind⟩
  | y :: F, r, h, hr, hp => by
    have hy : y.2.length = w := h.len y (List.mem_cons_self ..)
    have hyp := h.piv y (List.mem_cons_self ..)
    have ho := List.pairwise_cons.mp h.off
    obtain ⟨c1, c2, hc, e, ez⟩ := withZero_rel (row := r) (by rw [hr, hy]) hyp
    have ih := rest_fold (F := F) (r := withZero y.1 r y.2) ⟨fun z hz => h.len z (List.mem_cons_of_mem _ hz), fun z hz => h.piv z (List.mem_cons_of_mem _ hz), ho.2⟩ (by rw [withZero_len (by rw [hr, hy]), hr]) (withZero_prim hp)
    dsimp only at ih ⊢
    rw [List.foldl_cons]
    obtain ⟨i1, i2, i3, i4, c, hc', i5⟩ := ih
    refine ⟨i1, i2, fun z hz => ?_, fun k hk hrk => i4 k (fun z hz => hk z (List.mem_cons_of_mem _ hz)) ?_, c * c1, by grind, ?_⟩
    · rcases List.mem_cons.mp hz with rfl | hz
      · exact i4 _ (fun z hz => (ho.1 z hz).2) ez
      · exact i3 z hz
    · rw [e, hrk, hk y (List.mem_cons_self ..)]; grind
    · have m1 := i5.sub (J := y :: F) fun i hi => List.mem_cons_of_mem _ hi
      have m2 : InSpan (y :: F) fv (fv y) := InSpan.mem (List.mem_cons_self ..)
      refine (m1.add (m2.smul (c * c2))).of_eq fun j => ?_
      rw [e j]
      show _ = _ + c * c2 * rf y.2 j
      grind
theorem not_allZero {row : List Int} {j : Nat} (h : rf row j ≠ 0) : ¬ AllZero row := fun q => h (rf_zero.mpr (by
  rcases getD_mem_or row j with h | h
  · exact q _ h
  · exact h))
theorem Red.step {w : Nat} {done U : List (List Int)} {F : Found} (h : Red w done U F) {row : List Int} (hw : row.length = w) : ∃ U', Red w (done ++ [row]) U' (redStep F row) := by
  have h0 := rest_fold (F := F) (r := cleared row) ⟨h.len, h.piv, h.off⟩ (by rw [cleared_len, hw]) (cleared_prim row)
  dsimp only at h0
  have er : F.foldl (fun r y => withZero y.1 r y.2) (cleared row) = restOf F row := rfl
  rw [er] at h0
  unfold redStep
  generalize restOf F row = R at h0
  obtain ⟨rl, rp, rz, -, c, hc, rs⟩ := h0
  obtain ⟨c', hc', ec⟩ := cleared_rel row
  cases hf : firstPlace R with
  | none =>
    have z := firstPlace_none hf
    refine ⟨U, h.len, h.lt, h.piv, h.low, h.off, h.prim, h.cnt, fun u hu => List.mem_append_left _ (h.used u hu), h.spU, fun r hr => ?_⟩
    rcases List.mem_append.mp hr with hr | hr
    · exact h.spF r hr
    · rw [List.mem_singleton.mp hr]
      refine (rs.smul (-(1 / (c * c')))).of_eq fun j => ?_
      rw [z j, ec j]
      grind
  | some f =>
    obtain ⟨fl, fn, fz⟩ := firstPlace_some hf
    rw [rl] at fl
    -- the old ones
    have hwz : ∀ y ∈ F, ∃ c1 c2 : Rat, c1 ≠ 0 ∧ (∀ j, rf (withZero f y.2 R) j = c1 * rf y.2 j + c2 * rf R j) ∧ rf (withZero f y.2 R) f = 0 := fun y hy => withZero_rel (by rw [h.len y hy, rl]) fn
    have lowz : ∀ y ∈ F, ∀ j, j < y.1 → rf (withZero f y.2 R) j = 0 := fun y hy j hj => by
      by_cases q : f < y.1
      · rw [withZero_same (h.low y hy f q)]
        exact h.low y hy j hj
      · obtain ⟨c1, c2, _, e, _⟩ := hwz y hy
        rw [e, h.low y hy j hj, fz j (by omega)]
        grind
    have offz : ∀ y ∈ F, ∀ z ∈ F, rf y.2 z.1 = 0 → rf (withZero f y.2 R) z.1 = 0 := fun y hy z hz q => by
      obtain ⟨c1, c2, _, e, _⟩ := hwz y hy
      rw [e, q, rz z hz]
      grind
    have spUr : InSpan (U ++ [row]) rf (rf R) := by
      have m1 : InSpan (U ++ [row]) rf (fun j => rf R j - c * rf (cleared row) j) := rs.trans fun y hy => (h.spU y hy).sub fun i hi => List.mem_append_left _ hi
      have m2 : InSpan (U ++ [row]) rf (rf row) := InSpan.mem (List.mem_append_right _ (List.mem_singleton.mpr rfl))
      refine (m1.add (m2.smul (c * c'))).of_eq fun j => ?_
      rw [ec j]
      grind
    let F' : Found := (f, R) :: F.map fun y => (y.1, withZero f y.2 R)
    have inR : InSpan F' fv (rf R) := InSpan.mem (V := fv) (i := (f, R)) (List.mem_cons_self ..)
    have inOld : ∀ y ∈ F, InSpan F' fv (fv y) := fun y hy => by
      obtain ⟨c1, c2, hc1, e, _⟩ := hwz y hy
      have m1 : InSpan F' fv (rf (withZero f y.2 R)) := InSpan.mem (V := fv) (i := (y.1, withZero f y.2 R)) (List.mem_cons_of_mem _ (List.mem_map_of_mem hy))
      refine ((m1.smul (1 / c1)).add (inR.smul (-(c2 / c1)))).of_eq fun j => ?_
      show rf y.2 j = _
      rw [e j]
      grind
    have each : ∀ {P : Nat × List Int → Prop}, P (f, R) → (∀ y ∈ F, P (y.1, withZero f y.2 R)) → ∀ y ∈ F', P y := by
      intro P h1 h2 y hy
      rcases List.mem_cons.mp hy with rfl | hy
      · exact h1
      · obtain ⟨z, hz, rfl⟩ := List.mem_map.mp hy
        exact h2 z hz
    refine ⟨U ++ [row], each rl fun y hy => ?_, each fl fun y hy => h.lt y hy, each fn fun y hy => ?_, each fz lowz, ?_, each ?_ fun y hy => ?_, ?_, fun u hu => ?_, each spUr fun y hy => ?_, fun r hr => ?_⟩
    · rw [withZero_len (by rw [h.len y hy, rl]), h.len y hy]
    · obtain ⟨c1, c2, hc1, e, _⟩ := hwz y hy
      show rf (withZero f y.2 R) y.1 ≠ 0
      rw [e, rz y hy]
      have := h.piv y hy
      grind
    · refine List.pairwise_cons.mpr ⟨fun z hz => ?_, List.pairwise_map.mpr (h.off.imp_of_mem ?_)⟩
      · obtain ⟨y, hy, rfl⟩ := List.mem_map.mp hz
        obtain ⟨c1, c2, _, _, e0⟩ := hwz y hy
        exact ⟨rz y hy, e0⟩
      · intro y z hy hz q
        exact ⟨offz y hy z hz q.1, offz z hz y hy q.2⟩
    · rcases rp with q | q
      · exact absurd q (not_allZero fn)
      · exact q
    · rcases withZero_prim (place := f) (other := R) (Or.inr (h.prim y hy)) with q | q
      · exfalso
        obtain ⟨c1, c2, hc1, e, _⟩ := hwz y hy
        refine not_allZero (j := y.1) ?_ q
        rw [e, rz y hy]
        have := h.piv y hy
        grind
      · exact q
    · show (U ++ [row]).length = (F.map _).length + 1
      rw [List.length_append, List.length_map, h.cnt]
      rfl
    · rcases List.mem_append.mp hu with hu | hu
      · exact List.mem_append_left _ (h.used u hu)
      · exact List.mem_append_right _ hu
    · obtain ⟨c1, c2, _, e, _⟩ := hwz y hy
      refine ((((h.spU y hy).sub fun i hi => List.mem_append_left _ hi).smul c1).add (spUr.smul c2)).of_eq fun j => ?_
      exact e j
    · rcases List.mem_append.mp hr with hr | hr
      · exact (h.spF r hr).trans inOld
      · rw [List.mem_singleton.mp hr]
        have m1 := rs.trans inOld
        refine ((inR.smul (1 / (c * c'))).add (m1.smul (-(1 / (c * c'))))).of_eq fun j => ?_
        rw [ec j]
        grind
theorem red_fold {w : Nat} : ∀ (rows : List (List Int)) {done U : List (List Int)} {F : Found}, Red w done U F → (∀ r ∈ rows, r.length = w) → ∃ U', Red w (done ++ rows) U' (rows.foldl redStep F)
  | [], done, U, F, h, _ => ⟨U, by rw [List.append_nil]; exact h⟩
  | r :: rows, done, U, F, h, hr => by
    obtain ⟨U', h'⟩ := h.step (hr r (List.mem_cons_self ..))
    obtain ⟨U2, h2⟩ := red_fold rows h' fun x hx => hr x (List.mem_cons_of_mem _ hx)
    exact ⟨U2, by rw [List.append_assoc] at h2; exact h2⟩
theorem red_all {w : Nat} {rows : List (List Int)} (hr : ∀ r ∈ rows, r.length = w) : ∃ U, Red w rows U (reduced rows) := red_fold rows (Red.nil w) hr
/-! sums along a row -/
def dot (w : Nat) (x : Nat → Rat) (v : Nat → Rat) : Rat := lin (List.range w) x (fun j (v : Nat → Rat) => v j) v
theorem dot_span {α : Type} {w : Nat} {x : Nat → Rat} {I : List α} {V : α → Nat → Rat} {v : Nat → Rat} (hz : ∀ i ∈ I, dot w x (V i) = 0) (h : InSpan I V v) : dot w x v = 0 := by
  obtain ⟨a, ha⟩ := h
  have add : ∀ (L : List Nat) (u t : Nat → Rat) (c : Rat), lin L x (fun j (v : Nat → Rat) => v j) (fun j => c * u j + t j) = c * lin L x (fun j (v : Nat → Rat) => v j) u + lin L x (fun j (v : Nat → Rat) => v j) t := by
    intro L u t c
    induction L with
    | nil => simp only [lin_nil]; grind
    | cons k L ih => rw [lin_cons, lin_cons, lin_cons, ih]; grind
  have key : ∀ (I : List α), (∀ i ∈ I, dot w x (V i) = 0) → dot w x (fun j => lin I a V j) = 0 := by
    intro I
    induction I with
    | nil => intro _; exact lin_zeroV fun j _ => rfl
    | cons i I ih =>
      intro hz
      have := add (List.range w) (V i) (fun j => lin I a V j) (a i)
      have h1 := hz i (List.mem_cons_self ..)
      have h2 := ih fun k hk => hz k (List.mem_cons_of_mem _ hk)
      unfold dot at h1 h2 ⊢
      rw [h1, h2] at this
      exact this.trans (by grind)
  have : v = fun j => lin I a V j := funext ha
  rw [this]
  exact key I hz
theorem Red.dot_iff {w : Nat} {rows U : List (List Int)} {F : Found} (h : Red w rows U F) (x : Nat → Rat) : (∀ r ∈ rows, dot w x (rf r) = 0) ↔ ∀ y ∈ F, dot w x (rf y.2) = 0 := by
  constructor
  · intro hz y hy
    exact dot_span (fun u hu => hz u (h.used u hu)) (h.spU y hy)
  · intro hz r hr
    exact dot_span (V := fv) (fun y hy => hz y hy) (h.spF r hr)
end E94
set_option linter.unusedVariables false
set_option linter.unusedSimpArgs false
namespace E94
open AlBase Al04
/-! L2: the multiples -/
def ixs (l : List Nat) (d : Nat) (eqs : List Poly) : List Ix := (eqs.zip (List.range eqs.length)).flatMap fun x => if x.1 = [] ∨ d < polyDegree x.1 then [] else (products l (d - polyDegree x.1)).map fun m => (x.2, m)
def vec (eqs : List Poly) (i : Ix) (m : Mono) : Rat := co (mul [(i.2, 1)] (eqs.getD i.1 [])) m
structure EqsOk (l : List Nat) (eqs : List Poly) : Prop where
  can : ∀ q ∈ eqs, Can q
  over : ∀ q ∈ eqs, Over l q
theorem mem_zip_range {α : Type} {l : List α} {x : α × Nat} (h : x ∈ l.zip (List.range l.length)) : x.2 < l.length ∧ l[x.2]? = some x.1 := by
  obtain ⟨n, hn, e⟩ := List.mem_iff_getElem.mp h
  rw [List.getElem_zip] at e
  rw [List.length_zip, List.length_range, Nat.min_self] at hn
  rw [← e]
  simp [hn]
theorem hco_set {k i : Nat} {m : Mono} (hi : i < k) (j : Ix) : hco ((howNone k).set i [(m, 1)]) j = if j = (i, m) then 1 else 0 := by
  unfold hco howNone
  rw [List.getD_eq_getElem?_getD, List.getElem?_set, List.length_replicate]
  by_cases e : i = j.1
  · rw [if_pos e, if_pos hi]
    show co [(m, 1)] j.2 = _
    rw [co_cons, co_nil]
    by_cases q : m = j.2
    · rw [if_pos q, if_pos (by rw [e, q])]
    · rw [if_neg q, if_neg (fun z => q (by rw [z]))]
  · rw [if_neg e, if_neg (fun z => e (by rw [z])), List.getElem?_replicate]
    split <;> rfl
theorem howSet_ok {k i : Nat} {m : Mono} : HowOk k ((howNone k).set i [(m, 1)]) := by
  refine ⟨by rw [List.length_set]; exact (howNone_ok k).len, fun q hq => ?_⟩
  rcases List.mem_or_eq_of_mem_set hq with h | h
  · exact (howNone_ok k).can q h
  · rw [h]
    exact ⟨List.pairwise_singleton .., fun x hx => by rw [List.mem_singleton.mp hx]; show (1 : Rat) ≠ 0; decide⟩
theorem basisOf_bas {l : List Nat} {d : Nat} {eqs : List Poly} (hl : l.Pairwise (· < ·)) (he : EqsOk l eqs) (e : List Nat) : Bas e eqs.length (sel (vec eqs) (ixs l d eqs)) (vec eqs) (basisOf e l d eqs) := by
  have h := bas_fold (e := e) (k := eqs.length) (V := vec eqs) ((eqs.zip (List.range eqs.length)).flatMap fun x => if x.1 = [] ∨ d < polyDegree x.1 then [] else (products l (d - polyDegree x.1)).map fun m => (((mul [(m, 1)] x.1, (howNone eqs.length).set x.2 [(m, 1)]) : Made), ((x.2, m) : Ix))) (Bas.nil e eqs.length (vec eqs)) ?_
  · rw [List.map_flatMap, List.map_flatMap] at h
    have e1 : (eqs.zip (List.range eqs.length)).flatMap (fun x => (if x.1 = [] ∨ d < polyDegree x.1 then [] else (products l (d - polyDegree x.1)).map fun m => (((mul [(m, 1)] x.1, (howNone eqs.length).set x.2 [(m, 1)]) : Made), ((x.2, m) : Ix))).map (·.2)) = ixs l d eqs := by
      unfold ixs
      congr 1
      funext x
      split
      · rfl
      · rw [List.map_map]; rfl
    have e2 : (eqs.zip (List.range eqs.length)).flatMap (fun x => (if x.1 = [] ∨ d < polyDegree x.1 then [] else (products l (d - polyDegree x.1)).map fun m => (((mul [(m, 1)] x.1, (howNone eqs.length).set x.2 [(m, 1)]) : Made), ((x.2, m) : Ix))).map (·.1)) = multiples l d eqs := by
      unfold multiples
      congr 1
      funext x
      split
      · rfl
      · rw [List.map_map]; rfl
    rw [e1, e2] at h
    exact h
  · intro y hy
    obtain ⟨x, hx, hy⟩ := List.mem_flatMap.mp hy
    have hx2 := mem_zip_range hx
    have hm : x.1 ∈ eqs := List.mem_of_getElem? hx2.2
    split at hy
    · cases hy
    · obtain ⟨m, hm2, rfl⟩ := List.mem_map.mp hy
      obtain ⟨c, hc, _, rfl⟩ := ((products_spec (d - polyDegree x.1) hl).2 m).mp hm2
      refine ⟨mul_mono_can hl hc (he.over _ hm) (he.can _ hm), howSet_ok, fun n => ?_, fun j => hco_set hx2.1 j⟩
      show _ = co (mul [(mon l c, 1)] (eqs.getD x.2 [])) n
      rw [List.getD_eq_getElem?_getD, hx2.2]
      rfl
/-- the specification's word on what follows -/
theorem spec_follows {l : List Nat} {d : Nat} {eqs : List Poly} (hl : l.Pairwise (· < ·)) (he : EqsOk l eqs) {p : Poly} (hp : Can p) :
    (InSpan (ixs l d eqs) (vec eqs) (co p) → ∃ how, Al04.follows l d eqs p = some how ∧ HowOk eqs.length how ∧ (∀ m, co p m = lin (sel (vec eqs) (ixs l d eqs)) (hco how) (vec eqs) m) ∧ ∀ i, i ∉ sel (vec eqs) (ixs l d eqs) → hco how i = 0) ∧
    (¬ InSpan (ixs l d eqs) (vec eqs) (co p) → Al04.follows l d eqs p = none) := by
  have hb := basisOf_bas (d := d) hl he []
  have hf := hb.follows hp
  have hr := hb.reduce_nil (x := (p, howNone eqs.length)) hp
  have hs : InSpan (sel (vec eqs) (ixs l d eqs)) (vec eqs) (co p) ↔ InSpan (ixs l d eqs) (vec eqs) (co p) := ⟨fun q => q.sub (sel_sub _ _), fun q => q.trans (sel_span _ _)⟩
  rw [hs] at hr
  unfold Al04.follows leftOf
  constructor
  · intro q
    have z := hr.mpr q
    obtain ⟨how, e, h1, h2, h3⟩ := hf.1 z
    refine ⟨how, ?_, h1, h2, h3⟩
    show (if (reduce [] (basisOf [] l d eqs) (p, howNone eqs.length)).1 = [] then _ else _) = _
    rw [if_pos z, e]
  · intro q
    show (if (reduce [] (basisOf [] l d eqs) (p, howNone eqs.length)).1 = [] then _ else _) = _
    rw [if_neg fun z => q (hr.mp z)]
end E94
set_option linter.unusedVariables false
set_option linter.unusedSimpArgs false
namespace E94
open AlBase Al04
/-! M1: the program's polynomials and matrix, as plain lists -/
/-- a term: counts of the letters, top, bottom -/
abbrev MT := List Nat × Int × Nat
abbrev MP := List MT
def ratT (t : MT) : Rat := (t.2.1 : Rat) / ((t.2.2 : Int) : Rat)
def toPoly (l : List Nat) (p : MP) : Poly := p.map fun t => (mon l t.1, ratT t)
structure GoodP (k : Nat) (p : MP) : Prop where
  len : ∀ t ∈ p, t.1.length = k
  pos : ∀ t ∈ p, 0 < t.2.2
  top : ∀ t ∈ p, t.2.1 ≠ 0
  srt : p.Pairwise fun t u => cntGt t.1 u.1 = true
def degM (p : MP) : Nat := match p with
  | [] => 0
  | t :: _ => t.1.sum
theorem GoodP.tail {k : Nat} {t : MT} {p : MP} (h : GoodP k (t :: p)) : GoodP k p := ⟨fun u hu => h.len u (List.mem_cons_of_mem _ hu), fun u hu => h.pos u (List.mem_cons_of_mem _ hu), fun u hu => h.top u (List.mem_cons_of_mem _ hu), (List.pairwise_cons.mp h.srt).2⟩
theorem natCast_ne {n : Nat} (h : 0 < n) : ((n : Int) : Rat) ≠ 0 := by
  intro q
  have : (n : Int) = 0 := by exact_mod_cast q
  omega
theorem ratT_ne {t : MT} (h1 : 0 < t.2.2) (h2 : t.2.1 ≠ 0) : ratT t ≠ 0 := by
  unfold ratT
  have a := natCast_ne h1
  have b : (t.2.1 : Rat) ≠ 0 := fun q => h2 (by exact_mod_cast q)
  grind
theorem toPoly_can {l : List Nat} {p : MP} (hl : l.Pairwise (· < ·)) (h : GoodP l.length p) : Can (toPoly l p) := by
  refine ⟨List.pairwise_map.mpr (h.srt.imp_of_mem ?_), fun x hx => ?_⟩
  · intro t u ht hu q
    show above (mon l t.1) (mon l u.1) = true
    rw [mon_aboveC hl (h.len t ht) (h.len u hu)]
    exact q
  · obtain ⟨t, ht, rfl⟩ := List.mem_map.mp hx
    exact ratT_ne (h.pos t ht) (h.top t ht)
theorem toPoly_over {l : List Nat} {p : MP} (h : GoodP l.length p) : Over l (toPoly l p) := fun x hx => by
  obtain ⟨t, ht, rfl⟩ := List.mem_map.mp hx
  exact ⟨t.1, h.len t ht, rfl⟩
theorem toPoly_degree {l : List Nat} {p : MP} (hl : l.Pairwise (· < ·)) (h : GoodP l.length p) : polyDegree (toPoly l p) = degM p := by
  cases p with
  | nil => rfl
  | cons t p =>
    have := toPoly_can hl h
    show polyDegree ((mon l t.1, ratT t) :: toPoly l p) = t.1.sum
    rw [polyDegree_head (x := (mon l t.1, ratT t)) (p := toPoly l p) this.1]
    exact mon_degree (h.len t (List.mem_cons_self ..))
theorem toPoly_nil {l : List Nat} {p : MP} : toPoly l p = [] ↔ p = [] := List.map_eq_nil_iff
theorem degM_le {k : Nat} {p : MP} (h : GoodP k p) {d : Nat} (hd : degM p ≤ d) : ∀ t ∈ p, t.1.sum ≤ d := by
  intro t ht
  cases p with
  | nil => cases ht
  | cons u p =>
    have hu : u.1.sum ≤ d := hd
    rcases List.mem_cons.mp ht with rfl | ht
    · exact hu
    · have := (List.pairwise_cons.mp h.srt).1 t ht
      unfold cntGt at this
      split at this
      · omega
      · simp at this; omega
/-! all counts, the lower first -/
def cnts (d : Int) : Nat → List (List Nat)
  | 0 => [[]]
  | k + 1 => (cnts d k).flatMap fun c => (List.range (d - (c.sum : Int) + 1).toNat).map fun o => c ++ [o]
theorem cnts_mem {d : Int} : ∀ {k : Nat} {c : List Nat}, c ∈ cnts d (k + 1) ↔ c.length = k + 1 ∧ (c.sum : Int) ≤ d
  | k, c => by
    unfold cnts
    rw [List.mem_flatMap]
    have hk : ∀ {a : List Nat}, a ∈ cnts d k ↔ a.length = k ∧ (k = 0 ∨ (a.sum : Int) ≤ d) := by
      intro a
      cases k with
      | zero => unfold cnts; simp
      | succ k => rw [cnts_mem]; simp
    constructor
    · rintro ⟨a, ha, hc⟩
      obtain ⟨o, ho, rfl⟩ := List.mem_map.mp hc
      have := List.mem_range.mp ho
      have ha := hk.mp ha
      rw [List.length_append, List.sum_append]
      simp
      constructor
      · exact ha.1
      · omega
    · rintro ⟨hc, hs⟩
      have hne : c ≠ [] := by intro e; rw [e] at hc; cases hc
      have e := List.dropLast_concat_getLast hne
      refine ⟨c.dropLast, hk.mpr ⟨by rw [List.length_dropLast, hc]; rfl, ?_⟩, List.mem_map.mpr ⟨c.getLast hne, List.mem_range.mpr ?_, e⟩⟩
      · right
        rw [← e, List.sum_append] at hs
        omega
      · rw [← e, List.sum_append] at hs
        simp at hs
        omega
theorem cnts_nodup (d : Int) : ∀ k, (cnts d k).Nodup
  | 0 => by unfold cnts; simp
  | k + 1 => by
    unfold cnts
    refine List.pairwise_flatMap.mpr ⟨fun c _ => ?_, ?_⟩
    · refine List.Pairwise.map _ ?_ List.nodup_range
      intro a b ne q
      have := List.append_inj_right q rfl
      exact ne (List.cons.inj this).1
    · refine (cnts_nodup d k).imp ?_
      intro a b ne x hx y hy q
      obtain ⟨o, _, rfl⟩ := List.mem_map.mp hx
      obtain ⟨o', _, rfl⟩ := List.mem_map.mp hy
      exact ne (List.append_inj_left' q rfl)
def insCnt (c : List Nat) : List (List Nat) → List (List Nat)
  | [] => [c]
  | b :: l => if cntGt c b = true then b :: insCnt c l else c :: b :: l
def prodsW (d : Int) (k : Nat) : List (List Nat) := (cnts d k).foldl (fun s c => insCnt c s) []
theorem lexGt_trans : ∀ {a b c : List Nat}, lexGt a b = true → lexGt b c = true → lexGt a c = true
  | i :: a, j :: b, k :: c, h1, h2 => by
    have ih := @lexGt_trans a b c
    simp only [lexGt] at *
    grind
  | [], _, _, h, _ => by simp [lexGt] at h
  | _ :: _, [], _, h, _ => by simp [lexGt] at h
  | _ :: _, _ :: _, [], _, h => by simp [lexGt] at h
theorem lexGt_total : ∀ {a b : List Nat}, a.length = b.length → a ≠ b → lexGt a b = false → lexGt b a = true
  | [], [], _, h, _ => absurd rfl h
  | [], _ :: _, h, _, _ => by cases h
  | _ :: _, [], h, _, _ => by cases h
  | i :: a, j :: b, hl, hne, h => by
    have ih := @lexGt_total a b (by simpa using hl)
    simp only [lexGt] at *
    grind
theorem cntGt_irrefl (a : List Nat) : cntGt a a = false := by simp [cntGt, lexGt_irrefl]
theorem cntGt_trans {a b c : List Nat} (h1 : cntGt a b = true) (h2 : cntGt b c = true) : cntGt a c = true := by
  have := @lexGt_trans a b c
  simp only [cntGt] at *
  grind
theorem cntGt_total {a b : List Nat} (hl : a.length = b.length) (hne : a ≠ b) (h : cntGt a b = false) : cntGt b a = true := by
  have := @lexGt_total a b hl hne
  simp only [cntGt] at *
  grind
theorem insCnt_mem {c x : List Nat} : ∀ {l : List (List Nat)}, x ∈ insCnt c l ↔ x = c ∨ x ∈ l
  | [] => by simp [insCnt]
  | n :: l => by
    unfold insCnt
    split
    · rw [List.mem_cons, insCnt_mem, List.mem_cons]; grind
    · simp
theorem insCnt_sorted {k : Nat} {c : List Nat} (hc : c.length = k) : ∀ {l : List (List Nat)}, (∀ b ∈ l, b.length = k) → l.Pairwise (fun a b => cntGt b a = true) → c ∉ l → (insCnt c l).Pairwise fun a b => cntGt b a = true
  | [], _, _, _ => List.pairwise_singleton ..
  | n :: l, hk, h, hm => by
    have h1 := List.pairwise_cons.mp h
    have hne : c ≠ n := fun q => hm (by rw [q]; exact List.mem_cons_self ..)
    unfold insCnt
    split
    · rename_i a
      refine List.pairwise_cons.mpr ⟨fun y hy => ?_, insCnt_sorted hc (fun b hb => hk b (List.mem_cons_of_mem _ hb)) h1.2 fun q => hm (List.mem_cons_of_mem _ q)⟩
      rcases insCnt_mem.mp hy with rfl | hy
      · exact a
      · exact h1.1 y hy
    · rename_i a
      have a2 := cntGt_total (by rw [hc, hk n (List.mem_cons_self ..)]) hne (by simpa using a)
      refine List.pairwise_cons.mpr ⟨fun y hy => ?_, h⟩
      rcases List.mem_cons.mp hy with rfl | hy
      · exact a2
      · exact cntGt_trans (h1.1 y hy) a2
theorem insCnt_fold {k : Nat} : ∀ {l s : List (List Nat)}, (∀ b ∈ l, b.length = k) → (∀ b ∈ s, b.length = k) → s.Pairwise (fun a b => cntGt b a = true) → l.Nodup → (∀ x ∈ l, x ∉ s) →
    (l.foldl (fun s m => insCnt m s) s).Pairwise (fun a b => cntGt b a = true) ∧ ∀ x, x ∈ l.foldl (fun s m => insCnt m s) s ↔ x ∈ l ∨ x ∈ s
  | [], s, _, _, h, _, _ => ⟨h, fun x => by simp⟩
  | m :: l, s, hk, hs, h, hn, hd => by
    have hn1 := List.nodup_cons.mp hn
    have h1 := insCnt_sorted (hk m (List.mem_cons_self ..)) hs h (hd m (List.mem_cons_self ..))
    have ih := insCnt_fold (k := k) (l := l) (s := insCnt m s) (fun b hb => hk b (List.mem_cons_of_mem _ hb)) (fun b hb => by
      rcases insCnt_mem.mp hb with rfl | hb
      · exact hk _ (List.mem_cons_self ..)
      · exact hs b hb) h1 hn1.2 fun x hx q => by
      rcases insCnt_mem.mp q with rfl | q
      · exact hn1.1 hx
      · exact hd x (List.mem_cons_of_mem _ hx) q
    refine ⟨ih.1, fun x => ?_⟩
    rw [List.foldl_cons, ih.2 x, insCnt_mem, List.mem_cons]
    grind
theorem prodsW_spec (d : Int) {k : Nat} (hk : 0 < k) : (prodsW d k).Pairwise (fun a b => cntGt b a = true) ∧ ∀ c, c ∈ prodsW d k ↔ c.length = k ∧ (c.sum : Int) ≤ d := by
  obtain ⟨j, rfl⟩ : ∃ j, k = j + 1 := ⟨k - 1, by omega⟩
  have h := insCnt_fold (k := j + 1) (l := cnts d (j + 1)) (s := []) (fun b hb => (cnts_mem.mp hb).1) (fun _ h => nomatch h) List.Pairwise.nil (cnts_nodup d _) fun x _ q => nomatch q
  refine ⟨h.1, fun c => ?_⟩
  unfold prodsW
  rw [h.2 c, cnts_mem]
  simp
theorem prodsW_products {l : List Nat} (hl : l.Pairwise (· < ·)) (hk : 0 < l.length) (d : Nat) : products l d = (prodsW d l.length).map (mon l) := by
  have h := prodsW_spec (d : Int) hk
  refine products_of_counts hl h.1 fun c => ?_
  rw [h.2 c]
  omega
theorem prodsW_neg {d : Int} (hd : d < 0) {k : Nat} (hk : 0 < k) : prodsW d k = [] := by
  have h := prodsW_spec d hk
  refine List.eq_nil_iff_forall_not_mem.mpr fun c hc => ?_
  have := (h.2 c).mp hc
  omega
theorem prodsW_zero (d : Nat) {k : Nat} (hk : 0 < k) : (prodsW d k)[0]? = some (List.replicate k 0) := by
  have h := prodsW_spec (d : Int) hk
  have hz : List.replicate k 0 ∈ prodsW d k := (h.2 _).mpr ⟨List.length_replicate .., by
    have : (List.replicate k 0).sum = 0 := by simp
    omega⟩
  cases e : prodsW d k with
  | nil => rw [e] at hz; cases hz
  | cons c cs =>
    rw [e] at hz h
    rcases List.mem_cons.mp hz with q | q
    · rw [q]; rfl
    · exfalso
      have h1 := (List.pairwise_cons.mp h.1).1 _ q
      have hs : (List.replicate k 0).sum = 0 := by simp
      unfold cntGt at h1
      rw [hs] at h1
      have noGt : ∀ (k : Nat) (c : List Nat), lexGt (List.replicate k 0) c = false := by
        intro k
        induction k with
        | zero => intro c; cases c <;> rfl
        | succ k ih =>
          intro c
          cases c with
          | nil => rfl
          | cons j c =>
            rw [List.replicate_succ]
            simp only [lexGt]
            rw [ih]
            simp
      rw [noGt] at h1
      simp at h1
/-! the matrix -/
def multiplesM (d : Nat) (k : Nat) (eqs : List MP) : List (Nat × List Nat) := (eqs.zip (List.range eqs.length)).flatMap fun x => if x.1 = [] then [] else (prodsW ((d : Int) - (degM x.1 : Int)) k).map fun c => (x.2, c)
theorem ixs_multiplesM {l : List Nat} (hl : l.Pairwise (· < ·)) (hk : 0 < l.length) (d : Nat) {eqs : List MP} (he : ∀ q ∈ eqs, GoodP l.length q) : ixs l d (eqs.map (toPoly l)) = (multiplesM d l.length eqs).map fun i => (i.1, mon l i.2) := by
  unfold ixs multiplesM
  rw [List.length_map, List.zip_map_left, List.flatMap_map, List.map_flatMap]
  have : ∀ x ∈ eqs.zip (List.range eqs.length), (if toPoly l x.1 = [] ∨ d < polyDegree (toPoly l x.1) then [] else (products l (d - polyDegree (toPoly l x.1))).map fun m => (x.2, m)) = ((if x.1 = [] then [] else (prodsW ((d : Int) - (degM x.1 : Int)) l.length).map fun c => (x.2, c)).map fun i => (i.1, mon l i.2)) := by
    intro x hx
    have hg := he x.1 (List.of_mem_zip hx).1
    rw [toPoly_degree hl hg]
    by_cases h0 : x.1 = []
    · rw [if_pos (Or.inl (toPoly_nil.mpr h0)), if_pos h0]
      rfl
    · rw [if_neg h0]
      by_cases h1 : d < degM x.1
      · rw [if_pos (Or.inr h1), prodsW_neg (by omega) hk]
        rfl
      · rw [if_neg (by rintro (q | q); exact h0 (toPoly_nil.mp q); exact h1 q), prodsW_products hl hk, List.map_map, List.map_map]
        have : ((d - degM x.1 : Nat) : Int) = (d : Int) - (degM x.1 : Int) := by omega
        rw [this]
        rfl
  rw [List.flatMap_def, List.flatMap_def]
  congr 1
  exact List.map_congr_left this
def scaleOf (p : MP) : Nat := p.foldl (fun s t => Nat.lcm s t.2.2) 1
theorem scaleOf_from : ∀ (p : MP) (s : Nat), 0 < s → (∀ t ∈ p, 0 < t.2.2) → 0 < p.foldl (fun s t => Nat.lcm s t.2.2) s ∧ s ∣ p.foldl (fun s t => Nat.lcm s t.2.2) s ∧ ∀ t ∈ p, t.2.2 ∣ p.foldl (fun s t => Nat.lcm s t.2.2) s
  | [], s, h, _ => ⟨h, Nat.dvd_refl _, fun _ h => nomatch h⟩
  | t :: p, s, h, hp => by
    have h1 := scaleOf_from p (Nat.lcm s t.2.2) (Nat.lcm_pos h (hp t (List.mem_cons_self ..))) fun u hu => hp u (List.mem_cons_of_mem _ hu)
    rw [List.foldl_cons]
    refine ⟨h1.1, Nat.dvd_trans (Nat.dvd_lcm_left ..) h1.2.1, fun u hu => ?_⟩
    rcases List.mem_cons.mp hu with rfl | hu
    · exact Nat.dvd_trans (Nat.dvd_lcm_right ..) h1.2.1
    · exact h1.2.2 u hu
theorem scaleOf_pos {p : MP} (h : ∀ t ∈ p, 0 < t.2.2) : 0 < scaleOf p := (scaleOf_from p 1 Nat.one_pos h).1
theorem scaleOf_dvd {p : MP} (h : ∀ t ∈ p, 0 < t.2.2) {t : MT} (ht : t ∈ p) : t.2.2 ∣ scaleOf p := (scaleOf_from p 1 Nat.one_pos h).2.2 t ht
def scaledMul (q : List Nat) (p : MP) : List (List Nat × Int) := p.map fun t => (addC q t.1, t.2.1 * ((scaleOf p / t.2.2 : Nat) : Int))
def colGet (col : List (List Nat × Int)) (c : List Nat) : Int := (col.lookup c).getD 0
theorem colGet_co {l q c : List Nat} {p : MP} (hl : l.Pairwise (· < ·)) (hp : GoodP l.length p) (hq : q.length = l.length) (hc : c.length = l.length) :
    ((colGet (scaledMul q p) c : Int) : Rat) = (scaleOf p : Int) * co (mul [(mon l q, 1)] (toPoly l p)) (mon l c) := by
  rw [mul_mono hl hq (toPoly_over hp) (toPoly_can hl hp)]
  unfold colGet scaledMul toPoly
  have hd : ∀ t ∈ p, t.2.2 ∣ scaleOf p := fun t ht => scaleOf_dvd hp.pos ht
  have hpos := hp.pos
  have hlen := hp.len
  clear hp
  generalize scaleOf p = S at hd
  induction p with
  | nil =>
    show ((0 : Int) : Rat) = _
    rw [List.map_nil, List.map_nil, co_nil]
    grind
  | cons t p ih =>
    have ih := ih (fun u hu => hpos u (List.mem_cons_of_mem _ hu)) (fun u hu => hlen u (List.mem_cons_of_mem _ hu)) (fun u hu => hd u (List.mem_cons_of_mem _ hu))
    have ht := hlen t (List.mem_cons_self ..)
    simp only [List.map_cons]
    rw [List.lookup_cons, co_cons]
    show ((Option.getD (match c == addC q t.1 with | true => some _ | false => _) 0 : Int) : Rat) = _ * (if times (mon l q) (mon l t.1) = mon l c then ratT t else _)
    rw [mon_times hl hq ht]
    by_cases e : c = addC q t.1
    · have e1 : (c == addC q t.1) = true := by simp [e]
      rw [e1, if_pos (by rw [e])]
      show ((t.2.1 * ((S / t.2.2 : Nat) : Int) : Int) : Rat) = _
      obtain ⟨z, hz⟩ := hd t (List.mem_cons_self ..)
      have h0 := hpos t (List.mem_cons_self ..)
      have e2 : S / t.2.2 = z := by rw [hz]; exact Nat.mul_div_cancel_left _ h0
      rw [e2, hz]
      unfold ratT
      have n0 := natCast_ne h0
      rw [Rat.intCast_mul, Int.natCast_mul, Rat.intCast_mul]
      grind
    · have e1 : (c == addC q t.1) = false := by simp [e]
      rw [e1, if_neg fun z => e ?_]
      · exact ih
      · exact (mon_inj hl (by rw [addC_len (by rw [hq, ht]), hq]) hc z).symm
theorem addC_zero : ∀ (c : List Nat), addC (List.replicate c.length 0) c = c
  | [] => rfl
  | i :: c => by
    show (0 + i) :: addC (List.replicate c.length 0) c = _
    rw [addC_zero c, Nat.zero_add]
theorem mon_zero : ∀ (l : List Nat), mon l (List.replicate l.length 0) = []
  | [] => rfl
  | a :: l => by
    show (if 0 = 0 then mon l (List.replicate l.length 0) else _) = []
    rw [if_pos rfl, mon_zero l]
theorem mul_unit {l : List Nat} {p : MP} (hl : l.Pairwise (· < ·)) (hp : GoodP l.length p) : mul [(mon l (List.replicate l.length 0), 1)] (toPoly l p) = toPoly l p := by
  rw [mul_mono hl (List.length_replicate ..) (toPoly_over hp) (toPoly_can hl hp)]
  unfold toPoly
  rw [List.map_map]
  refine List.map_congr_left fun t ht => ?_
  show (times (mon l _) (mon l t.1), ratT t) = (mon l t.1, ratT t)
  rw [mon_times hl (List.length_replicate ..) (hp.len t ht), ← hp.len t ht, addC_zero]
def rowOfM (eqs : List MP) (p : MP) (I : List (Nat × List Nat)) (z c : List Nat) : List Int := I.map (fun i => colGet (scaledMul i.2 (eqs.getD i.1 [])) c) ++ [colGet (scaledMul z p) c]
def rowsM (d k : Nat) (p : MP) (eqs : List MP) : List (List Int) := (prodsW d k).reverse.map (rowOfM eqs p (multiplesM d k eqs) ((prodsW d k).getD 0 []))
end E94
set_option linter.unusedVariables false
set_option linter.unusedSimpArgs false
namespace E94
/-! F1: columns, by the reduced rows -/
theorem lin_map {α β X : Type} (f : β → α) (a : α → Rat) (V : α → X → Rat) (x : X) : ∀ L : List β, lin (L.map f) a V x = lin L (fun b => a (f b)) (fun b => V (f b)) x
  | [] => rfl
  | b :: L => by rw [List.map_cons, lin_cons, lin_cons, lin_map f a V x L]
theorem lin_single {α X : Type} {a : α → Rat} {V : α → X → Rat} {x : X} {c : α} : ∀ {L : List α}, L.Nodup → c ∈ L → (∀ j ∈ L, j ≠ c → a j * V j x = 0) → lin L a V x = a c * V c x
  | [], _, h, _ => nomatch h
  | k :: L, hn, hc, hz => by
    have hn1 := List.nodup_cons.mp hn
    rw [lin_cons]
    have zero : ∀ {M : List α}, (∀ j ∈ M, a j * V j x = 0) → lin M a V x = 0 := by
      intro M
      induction M with
      | nil => intro _; rfl
      | cons b M ih =>
        intro h
        rw [lin_cons, h b (List.mem_cons_self ..), ih fun j hj => h j (List.mem_cons_of_mem _ hj)]
        grind
    rcases List.mem_cons.mp hc with rfl | hc
    · rw [zero fun j hj => hz j (List.mem_cons_of_mem _ hj) fun q => hn1.1 (q ▸ hj)]
      grind
    · rw [lin_single hn1.2 hc fun j hj => hz j (List.mem_cons_of_mem _ hj), hz k (List.mem_cons_self ..) fun q => hn1.1 (by rw [q]; exact hc)]
      grind
theorem lin_congr2 {α X Y : Type} {a b : α → Rat} {V : α → X → Rat} {W : α → Y → Rat} {x : X} {y : Y} : ∀ {L : List α}, (∀ i ∈ L, a i * V i x = b i * W i y) → lin L a V x = lin L b W y
  | [], _ => rfl
  | i :: L, h => by
    rw [lin_cons, lin_cons, h i (List.mem_cons_self ..), lin_congr2 fun j hj => h j (List.mem_cons_of_mem _ hj)]
structure Mat {X : Type} (n : Nat) (rows : List (List Int)) (W : Nat → X → Rat) (s : Nat → Rat) (P : X → Prop) : Prop where
  len : ∀ r ∈ rows, r.length = n + 1
  row : ∀ r ∈ rows, ∃ m, ∀ j, j < n + 1 → rf r j = s j * W j m
  all : ∀ m, P m → ∃ r ∈ rows, ∀ j, j < n + 1 → rf r j = s j * W j m
  out : ∀ m, ¬ P m → ∀ j, j < n + 1 → W j m = 0
  s0 : ∀ j, j < n + 1 → s j ≠ 0
section
variable {X : Type} {n : Nat} {rows U : List (List Int)} {W : Nat → X → Rat} {s : Nat → Rat} {P : X → Prop} {F : Found}
theorem Mat.rel (M : Mat n rows W s P) (a : Nat → Rat) : (∀ m, lin (List.range (n + 1)) a W m = 0) ↔ ∀ r ∈ rows, dot (n + 1) (fun j => a j / s j) (rf r) = 0 := by
  have eq : ∀ r m, (∀ j, j < n + 1 → rf r j = s j * W j m) → dot (n + 1) (fun j => a j / s j) (rf r) = lin (List.range (n + 1)) a W m := fun r m h => by
    unfold dot
    refine lin_congr2 fun j hj => ?_
    have hj' := List.mem_range.mp hj
    rw [h j hj']
    have := M.s0 j hj'
    grind
  constructor
  · intro h r hr
    obtain ⟨m, hm⟩ := M.row r hr
    rw [eq r m hm, h m]
  · intro h m
    by_cases hm : P m
    · obtain ⟨r, hr, e⟩ := M.all m hm
      rw [← eq r m e]
      exact h r hr
    · exact lin_zeroV fun j hj => M.out m hm j (List.mem_range.mp hj)
theorem Red.same {w : Nat} {done U : List (List Int)} {F : Found} (h : Red w done U F) {y z : Nat × List Int} (hy : y ∈ F) (hz : z ∈ F) (e : y.1 = z.1) : y = z := by
  have hp := h.off
  have hv := h.piv
  clear h
  induction F with
  | nil => cases hy
  | cons x F ih =>
    have hc := List.pairwise_cons.mp hp
    rcases List.mem_cons.mp hy with rfl | hy'
    · rcases List.mem_cons.mp hz with rfl | hz
      · rfl
      · have := (hc.1 z hz).1
        rw [← e] at this
        exact absurd this (hv y (List.mem_cons_self ..))
    · rcases List.mem_cons.mp hz with rfl | hz
      · have := (hc.1 y hy').1
        rw [e] at this
        exact absurd this (hv z (List.mem_cons_self ..))
      · exact ih hy' hz hc.2 fun x hx => hv x (List.mem_cons_of_mem _ hx)
theorem Red.offOf {w : Nat} {done U : List (List Int)} {F : Found} (h : Red w done U F) {y z : Nat × List Int} (hy : y ∈ F) (hz : z ∈ F) (e : y.1 ≠ z.1) : rf y.2 z.1 = 0 := by
  have hp := h.off
  clear h
  induction F with
  | nil => cases hy
  | cons x F ih =>
    have hc := List.pairwise_cons.mp hp
    rcases List.mem_cons.mp hy with rfl | hy'
    · rcases List.mem_cons.mp hz with rfl | hz
      · exact absurd rfl e
      · exact (hc.1 z hz).1
    · rcases List.mem_cons.mp hz with rfl | hz
      · exact (hc.1 y hy').2
      · exact ih hy' hz hc.2
/-- the row at a place -/
def rowAt (F : Found) (j : Nat) : Option (List Int) := F.lookup j
theorem rowAt_some {F : Found} {j : Nat} {o : List Int} (h : rowAt F j = some o) : (j, o) ∈ F := by
  induction F with
  | nil => cases h
  | cons y F ih =>
    unfold rowAt at h
    rw [List.lookup_cons] at h
    by_cases e : j = y.1
    · subst e
      simp at h
      subst h
      exact List.mem_cons_self ..
    · have : (j == y.1) = false := by simp [e]
      rw [this] at h
      exact List.mem_cons_of_mem _ (ih h)
theorem rowAt_none {F : Found} {j : Nat} (h : rowAt F j = none) : ∀ y ∈ F, y.1 ≠ j := by
  induction F with
  | nil => intro y hy; cases hy
  | cons z F ih =>
    unfold rowAt at h
    rw [List.lookup_cons] at h
    by_cases e : j = z.1
    · subst e
      simp at h
    · have : (j == z.1) = false := by simp [e]
      rw [this] at h
      intro y hy
      rcases List.mem_cons.mp hy with rfl | hy
      · exact fun q => e q.symm
      · exact ih h y hy
theorem Red.rowAt_mem {w : Nat} {done U : List (List Int)} {F : Found} (h : Red w done U F) {y : Nat × List Int} (hy : y ∈ F) : rowAt F y.1 = some y.2 := by
  cases e : rowAt F y.1 with
  | none => exact absurd rfl (rowAt_none e y hy)
  | some o =>
    have := h.same (rowAt_some e) hy rfl
    rw [← this]
/-- by how much a place is taken for the column t -/
def part (F : Found) (t j : Nat) : Rat := match rowAt F j with
  | some o => rf o t / rf o j
  | none => 0
theorem Red.part_low {w : Nat} {done U : List (List Int)} {F : Found} (h : Red w done U F) {t j : Nat} (hp : rowAt F t = none) (hj : t ≤ j) : part F t j = 0 := by
  unfold part
  cases e : rowAt F j with
  | none => rfl
  | some o =>
    have hm := rowAt_some e
    have : t ≠ j := fun q => by rw [q, e] at hp; cases hp
    show rf o t / rf o j = 0
    rw [h.low _ hm t (by show t < j; omega)]
    grind
/-- a column that is at no place is the sum of those before it -/
theorem Red.column (R : Red (n + 1) rows U F) (M : Mat n rows W s P) {t : Nat} (ht : t < n + 1) (hp : rowAt F t = none) : ∀ m, W t m = lin (List.range t) (fun j => part F t j * (s j / s t)) W m := by
  have hz : ∀ r ∈ rows, dot (n + 1) (fun j => (if j = t then -(s t) else part F t j * s j) / s j) (rf r) = 0 := by
    rw [R.dot_iff]
    intro y hy
    have yw := R.lt y hy
    have yp := R.piv y hy
    have yt : y.1 ≠ t := fun q => rowAt_none hp y hy q
    -- the terms at t and at y's place
    have e : dot (n + 1) (fun j => (if j = t then -(s t) else part F t j * s j) / s j) (rf y.2) = dot (n + 1) (fun j => if j = t then -1 else 0) (rf y.2) + dot (n + 1) (fun j => if j = y.1 then rf y.2 t / rf y.2 y.1 else 0) (rf y.2) := by
      unfold dot
      rw [← lin_add]
      refine lin_congr2 fun j hj => ?_
      have hj' := List.mem_range.mp hj
      have s0 := M.s0 j hj'
      by_cases j1 : j = t
      · subst j1
        have : j ≠ y.1 := fun q => yt q.symm
        simp only [if_true, this, if_false]
        grind
      · simp only [j1, if_false]
        by_cases j2 : j = y.1
        · subst j2
          have : part F t y.1 = rf y.2 t / rf y.2 y.1 := by
            unfold part
            rw [R.rowAt_mem hy]
          rw [this]
          simp
          grind
        · simp only [j2, if_false]
          cases e : rowAt F j with
          | none =>
            have : part F t j = 0 := by unfold part; rw [e]
            rw [this]
            grind
          | some o =>
            have := R.offOf hy (rowAt_some e) (fun q => j2 q.symm)
            rw [this]
            grind
    rw [e]
    unfold dot
    rw [lin_single (c := t) List.nodup_range (List.mem_range.mpr ht) (fun j _ q => by rw [if_neg q]; grind), lin_single (c := y.1) List.nodup_range (List.mem_range.mpr yw) (fun j _ q => by rw [if_neg q]; grind)]
    simp
    grind
  have hr := (M.rel fun j => if j = t then -(s t) else part F t j * s j).mpr hz
  intro m
  have h1 := hr m
  have st := M.s0 t ht
  -- the range is cut at t
  have cut : List.range (n + 1) = List.range t ++ (t :: (List.range (n - t)).map fun j => t + 1 + j) := by
    have : n + 1 = t + ((n - t) + 1) := by omega
    rw [this, List.range_add, List.range_succ_eq_map, List.map_cons, List.map_map]
    simp
    intro a _
    omega
  rw [cut, lin_append, lin_cons, lin_map] at h1
  have z1 : lin (List.range (n - t)) (fun b => if t + 1 + b = t then -(s t) else part F t (t + 1 + b) * s (t + 1 + b)) (fun b => W (t + 1 + b)) m = 0 := lin_zero fun b _ => by
    rw [if_neg (by omega), R.part_low hp (by omega)]
    grind
  rw [z1, if_pos rfl] at h1
  have z2 : lin (List.range t) (fun j => if j = t then -(s t) else part F t j * s j) W m = s t * lin (List.range t) (fun j => part F t j * (s j / s t)) W m := by
    rw [← lin_smul]
    refine lin_congr fun j hj => ?_
    have := List.mem_range.mp hj
    rw [if_neg (by omega)]
    grind
  rw [z2] at h1
  grind
/-- what is at a place isn't a sum of those before it -/
theorem Red.place_out (R : Red (n + 1) rows U F) (M : Mat n rows W s P) {t : Nat} {o : List Int} (ht : t < n + 1) (hp : rowAt F t = some o) : ¬ InSpan (List.range t) W (W t) := by
  rintro ⟨a, ha⟩
  have hm := rowAt_some hp
  have hr : ∀ m, lin (List.range (n + 1)) (fun j => if j < t then a j else if j = t then -1 else 0) W m = 0 := by
    intro m
    have cut : List.range (n + 1) = List.range t ++ (t :: (List.range (n - t)).map fun j => t + 1 + j) := by
      have : n + 1 = t + ((n - t) + 1) := by omega
      rw [this, List.range_add, List.range_succ_eq_map, List.map_cons, List.map_map]
      simp
      intro a _
      omega
    rw [cut, lin_append, lin_cons, lin_map, lin_zero (I := List.range (n - t)) fun b _ => by rw [if_neg (by omega), if_neg (by omega)], if_neg (Nat.lt_irrefl _), if_pos rfl]
    have e : lin (List.range t) (fun j => if j < t then a j else if j = t then -1 else 0) W m = lin (List.range t) a W m := lin_congr fun j hj => by rw [if_pos (List.mem_range.mp hj)]
    rw [e, ← ha m]
    grind
  have h1 := (R.dot_iff _).mp ((M.rel _).mp hr) _ hm
  have s0 := M.s0 t ht
  unfold dot at h1
  rw [lin_single (c := t) List.nodup_range (List.mem_range.mpr ht) (fun j hj q => ?_)] at h1
  · have := R.piv _ hm
    simp at h1 this
    grind
  · by_cases j1 : j < t
    · have := R.low _ hm j j1
      simp only at this
      rw [this]
      grind
    · rw [if_neg j1, if_neg q]
      grind
/-- the places' columns are independent -/
theorem Red.places_ind (R : Red (n + 1) rows U F) (M : Mat n rows W s P) {a : Nat → Rat} (hs : ∀ j, j < n + 1 → rowAt F j = none → a j = 0) (h0 : ∀ m, lin (List.range (n + 1)) a W m = 0) : ∀ j, j < n + 1 → a j = 0 := by
  intro t ht
  cases e : rowAt F t with
  | none => exact hs t ht e
  | some o =>
    have hm := rowAt_some e
    have h1 := (R.dot_iff _).mp ((M.rel a).mp h0) _ hm
    have s0 := M.s0 t ht
    unfold dot at h1
    rw [lin_single (c := t) List.nodup_range (List.mem_range.mpr ht) (fun j hj q => ?_)] at h1
    · have := R.piv _ hm
      simp only at h1 this
      grind
    · cases e2 : rowAt F j with
      | none =>
        rw [hs j (List.mem_range.mp hj) e2]
        grind
      | some o2 =>
        have := R.offOf hm (rowAt_some e2) (fun z => q z.symm)
        simp only at this
        rw [this]
        grind
end
/-! the needed ones of a list -/
theorem sel_prefix {α X : Type} {V : α → X → Rat} : ∀ (post : List α) {pre : List α} {i : α}, (pre ++ i :: post).Nodup → i ∈ sel V (pre ++ i :: post) → ¬ InSpan pre V (V i) := by
  intro post
  refine list_rev_ind (P := fun post => ∀ {pre : List α} {i : α}, (pre ++ i :: post).Nodup → i ∈ sel V (pre ++ i :: post) → ¬ InSpan pre V (V i)) ?_ ?_ post
  · intro pre i hn hi hs
    rw [sel_snoc] at hi
    have hs' : InSpan (sel V pre) V (V i) := hs.trans (sel_span V pre)
    rw [sel1_in hs'] at hi
    have := sel_sub V pre i hi
    exact (List.nodup_append.mp hn).2.2 i this i (List.mem_singleton.mpr rfl) rfl
  · intro l k ih pre i hn hi hs
    have e : pre ++ i :: (l ++ [k]) = (pre ++ i :: l) ++ [k] := by simp
    rw [e] at hn hi
    have hn2 := List.nodup_append.mp hn
    refine ih hn2.1 ?_ hs
    rw [sel_snoc] at hi
    by_cases q : InSpan (sel V (pre ++ i :: l)) V (V k)
    · rw [sel1_in q] at hi; exact hi
    · rw [sel1_out q] at hi
      rcases List.mem_append.mp hi with hi | hi
      · exact hi
      · exfalso
        exact hn2.2.2 i (by simp) k (List.mem_singleton.mpr rfl) (List.mem_singleton.mp hi)
end E94
set_option linter.unusedVariables false
set_option linter.unusedSimpArgs false
namespace E94
open AlBase Al04
/-! F2: how something follows, by the program's way, is the specification's -/
def low (top bottom : Int) : Int × Nat := (((top : Rat) / (bottom : Rat)).num, ((top : Rat) / (bottom : Rat)).den)
def placesDesc (w : Nat) (F : Found) : List (Nat × List Int) := (List.range w).reverse.filterMap fun j => (rowAt F j).map fun o => (j, o)
def ansOf (eqs : List MP) (p : MP) (I : List (Nat × List Nat)) (e : Nat) (y : Nat × List Int) : Option MT :=
  if (I.getD y.1 (0, [])).1 = e ∧ y.2.getD I.length 0 ≠ 0 then some ((I.getD y.1 (0, [])).2, low (y.2.getD I.length 0 * (scaleOf (eqs.getD (I.getD y.1 (0, [])).1 []) : Int)) (y.2.getD y.1 0 * (scaleOf p : Int))) else none
def ansM (eqs : List MP) (p : MP) (I : List (Nat × List Nat)) (F : Found) (e : Nat) : MP := (placesDesc I.length F).filterMap (ansOf eqs p I e)
def howM (d k : Nat) (p : MP) (eqs : List MP) : Option (List MP) :=
  if (rowAt (reduced (rowsM d k p eqs)) (multiplesM d k eqs).length).isSome then none else some ((List.range eqs.length).map (ansM eqs p (multiplesM d k eqs) (reduced (rowsM d k p eqs))))
/-- a term whose top and bottom are its number's own -/
def NormT (t : MT) : Prop := (ratT t).num = t.2.1 ∧ (ratT t).den = t.2.2
theorem low_rat (c : List Nat) (top bottom : Int) : ratT (c, low top bottom) = (top : Rat) / (bottom : Rat) := by
  unfold ratT low
  generalize (top : Rat) / (bottom : Rat) = q
  show ((q.num : Int) : Rat) / ((q.den : Int) : Rat) = q
  rw [← Rat.divInt_eq_div, Rat.num_divInt_den]
theorem low_norm (c : List Nat) (top bottom : Int) : NormT (c, low top bottom) := by
  unfold NormT
  rw [low_rat]
  exact ⟨rfl, rfl⟩
/-! the list of multiples -/
theorem mulM_mem {d k : Nat} (hk : 0 < k) {eqs : List MP} {i : Nat × List Nat} (h : i ∈ multiplesM d k eqs) : i.1 < eqs.length ∧ eqs.getD i.1 [] ∈ eqs ∧ i.2.length = k ∧ i.2.sum + degM (eqs.getD i.1 []) ≤ d := by
  obtain ⟨x, hx, hi⟩ := List.mem_flatMap.mp h
  have hx2 := mem_zip_range hx
  have hm : x.1 ∈ eqs := List.mem_of_getElem? hx2.2
  split at hi
  · cases hi
  · obtain ⟨c, hc, rfl⟩ := List.mem_map.mp hi
    have := ((prodsW_spec _ hk).2 c).mp hc
    have e : eqs.getD x.2 [] = x.1 := by rw [List.getD_eq_getElem?_getD, hx2.2]; rfl
    refine ⟨hx2.1, ?_, this.1, ?_⟩
    · show eqs.getD x.2 [] ∈ eqs
      rw [e]; exact hm
    · show c.sum + degM (eqs.getD x.2 []) ≤ d
      rw [e]; omega
theorem mulM_pair {d k : Nat} (hk : 0 < k) (eqs : List MP) : (multiplesM d k eqs).Pairwise fun a b => a ≠ b ∧ (a.1 = b.1 → cntGt b.2 a.2 = true) := by
  refine List.pairwise_flatMap.mpr ⟨fun x hx => ?_, ?_⟩
  · split
    · exact List.Pairwise.nil
    · refine List.pairwise_map.mpr ((prodsW_spec _ hk).1.imp ?_)
      intro a b q
      refine ⟨fun z => ?_, fun _ => q⟩
      have : a = b := (Prod.mk.inj z).2
      rw [this, cntGt_irrefl] at q
      cases q
  · have hn : (eqs.zip (List.range eqs.length)).Pairwise fun x y => x.2 ≠ y.2 := by
      have : ((eqs.zip (List.range eqs.length)).map (·.2)).Nodup := by
        rw [List.map_snd_zip (by rw [List.length_range]; exact Nat.le_refl _)]
        exact List.nodup_range
      exact List.pairwise_map.mp this
    refine hn.imp ?_
    intro x y ne a ha b hb
    have e1 : a.1 = x.2 := by
      split at ha
      · cases ha
      · obtain ⟨c, _, rfl⟩ := List.mem_map.mp ha; rfl
    have e2 : b.1 = y.2 := by
      split at hb
      · cases hb
      · obtain ⟨c, _, rfl⟩ := List.mem_map.mp hb; rfl
    refine ⟨fun z => ne ?_, fun z => absurd ?_ ne⟩
    · rw [← e1, ← e2, z]
    · rw [← e1, ← e2, z]
theorem sel_sublist {α X : Type} (V : α → X → Rat) (I : List α) : (sel V I).Sublist I := by
  refine list_rev_ind (P := fun I => (sel V I).Sublist I) (List.Sublist.refl _) (fun l i ih => ?_) I
  show (sel V (l ++ [i])).Sublist (l ++ [i])
  rw [sel_snoc]
  by_cases h : InSpan (sel V l) V (V i)
  · rw [sel1_in h]
    exact ih.trans (List.sublist_append_left ..)
  · rw [sel1_out h]
    exact ih.append (List.Sublist.refl _)
theorem lin_sublist {α X : Type} {V : α → X → Rat} {a : α → Rat} {x : X} : ∀ {N I : List α}, N.Sublist I → I.Nodup → (∀ i ∈ I, i ∉ N → a i = 0) → lin N a V x = lin I a V x := by
  intro N I h
  induction h with
  | slnil => intro _ _; rfl
  | cons i h ih =>
    intro hn hz
    have hn1 := List.nodup_cons.mp hn
    rw [lin_cons, hz i (List.mem_cons_self ..) (fun q => hn1.1 (h.subset q)), ih hn1.2 fun j hj => hz j (List.mem_cons_of_mem _ hj)]
    grind
  | cons_cons i h ih =>
    intro hn hz
    have hn1 := List.nodup_cons.mp hn
    rw [lin_cons, lin_cons, ih hn1.2 fun j hj q => hz j (List.mem_cons_of_mem _ hj) fun z => by
      rcases List.mem_cons.mp z with rfl | z
      · exact hn1.1 hj
      · exact q z]
theorem map_getD_range {α : Type} (d : α) : ∀ I : List α, (List.range I.length).map (fun j => I.getD j d) = I := fun I => by
  refine List.ext_getElem (by simp) fun i h1 h2 => ?_
  simp [h2]
section
variable {l : List Nat} {d : Nat} {eqs : List MP} {p : MP}
/-- the columns as vectors -/
def colW (l : List Nat) (d : Nat) (eqs : List MP) (p : MP) (j : Nat) (m : Mono) : Rat :=
  if j < (multiplesM d l.length eqs).length then vec (eqs.map (toPoly l)) ((ixs l d (eqs.map (toPoly l))).getD j (0, [])) m else co (toPoly l p) m
def colS (d k : Nat) (eqs : List MP) (p : MP) (j : Nat) : Rat :=
  if j < (multiplesM d k eqs).length then ((scaleOf (eqs.getD ((multiplesM d k eqs).getD j (0, [])).1 []) : Int) : Rat) else ((scaleOf p : Int) : Rat)
structure Hyp (l : List Nat) (d : Nat) (eqs : List MP) (p : MP) : Prop where
  hl : l.Pairwise (· < ·)
  hk : 0 < l.length
  he : ∀ q ∈ eqs, GoodP l.length q
  hp : GoodP l.length p
  hd : degM p ≤ d
theorem getD_toPoly (l : List Nat) (eqs : List MP) (e : Nat) : (eqs.map (toPoly l)).getD e [] = toPoly l (eqs.getD e []) := by
  rw [List.getD_eq_getElem?_getD, List.getD_eq_getElem?_getD, List.getElem?_map]
  cases eqs[e]? <;> rfl
theorem ixs_getD (H : Hyp l d eqs p) {j : Nat} (hj : j < (multiplesM d l.length eqs).length) : (ixs l d (eqs.map (toPoly l))).getD j (0, []) = (((multiplesM d l.length eqs).getD j (0, [])).1, mon l ((multiplesM d l.length eqs).getD j (0, [])).2) := by
  rw [ixs_multiplesM H.hl H.hk d H.he, List.getD_eq_getElem?_getD, List.getD_eq_getElem?_getD, List.getElem?_map, List.getElem?_eq_getElem hj]
  rfl
theorem ixs_len (H : Hyp l d eqs p) : (ixs l d (eqs.map (toPoly l))).length = (multiplesM d l.length eqs).length := by
  rw [ixs_multiplesM H.hl H.hk d H.he, List.length_map]
theorem mul_out (H : Hyp l d eqs p) {q : List Nat} {r : MP} (hr : GoodP l.length r) (hq : q.length = l.length) (hs : q.sum + degM r ≤ d) {m : Mono} (hm : m ∉ products l d) : co (mul [(mon l q, 1)] (toPoly l r)) m = 0 := by
  rw [mul_mono H.hl hq (toPoly_over hr) (toPoly_can H.hl hr)]
  refine co_not_mem fun x hx e => hm ?_
  obtain ⟨y, hy, rfl⟩ := List.mem_map.mp hx
  obtain ⟨t, ht, rfl⟩ := List.mem_map.mp hy
  rw [← e]
  have ht1 := hr.len t ht
  have ht2 := degM_le hr (Nat.le_refl _) t ht
  refine ((products_spec d H.hl).2 _).mpr ⟨addC q t.1, by rw [addC_len (by rw [hq, ht1]), hq], by rw [addC_sum (by rw [hq, ht1])]; omega, ?_⟩
  exact mon_times H.hl hq ht1
theorem colW_lt (H : Hyp l d eqs p) {j : Nat} (hj : j < (multiplesM d l.length eqs).length) (m : Mono) : colW l d eqs p j m = co (mul [(mon l ((multiplesM d l.length eqs).getD j (0, [])).2, 1)] (toPoly l (eqs.getD ((multiplesM d l.length eqs).getD j (0, [])).1 []))) m := by
  unfold colW vec
  rw [if_pos hj, ixs_getD H hj, getD_toPoly]
theorem getD_mem' {α : Type} {I : List α} {j : Nat} {z : α} (h : j < I.length) : I.getD j z ∈ I := by
  rw [List.getD_eq_getElem?_getD, List.getElem?_eq_getElem h]
  exact List.getElem_mem ..
theorem row_ok (H : Hyp l d eqs p) {c : List Nat} (hc : c.length = l.length) (j : Nat) (hj : j < (multiplesM d l.length eqs).length + 1) :
    rf (rowOfM eqs p (multiplesM d l.length eqs) ((prodsW d l.length).getD 0 []) c) j = colS d l.length eqs p j * colW l d eqs p j (mon l c) := by
  unfold rf rowOfM
  by_cases h : j < (multiplesM d l.length eqs).length
  · have hm := mulM_mem H.hk (getD_mem' (z := (0, [])) h)
    rw [colW_lt H h]
    unfold colS
    rw [if_pos h, ← colGet_co H.hl (H.he _ hm.2.1) hm.2.2.1 hc]
    congr 1
    rw [List.getD_eq_getElem?_getD, List.getElem?_append_left (by rw [List.length_map]; exact h), List.getElem?_map, List.getD_eq_getElem?_getD, List.getElem?_eq_getElem h]
    rfl
  · have e : j = (multiplesM d l.length eqs).length := by omega
    subst e
    unfold colS colW
    rw [if_neg (Nat.lt_irrefl _), if_neg (Nat.lt_irrefl _)]
    have z0 : (prodsW d l.length).getD 0 [] = List.replicate l.length 0 := by rw [List.getD_eq_getElem?_getD, prodsW_zero d H.hk]; rfl
    have := colGet_co (q := List.replicate l.length 0) H.hl H.hp (List.length_replicate ..) hc
    rw [mul_unit H.hl H.hp] at this
    rw [← this, z0]
    congr 1
    rw [List.getD_eq_getElem?_getD, List.getElem?_append_right (by rw [List.length_map]; exact Nat.le_refl _), List.length_map, Nat.sub_self]
    rfl
theorem mat (H : Hyp l d eqs p) : Mat (multiplesM d l.length eqs).length (rowsM d l.length p eqs) (colW l d eqs p) (colS d l.length eqs p) (fun m => m ∈ products l d) where
  len := fun r hr => by
    obtain ⟨c, _, rfl⟩ := List.mem_map.mp hr
    unfold rowOfM
    rw [List.length_append, List.length_map]
    rfl
  row := fun r hr => by
    obtain ⟨c, hc, rfl⟩ := List.mem_map.mp hr
    have := ((prodsW_spec (d : Int) H.hk).2 c).mp (List.mem_reverse.mp hc)
    exact ⟨mon l c, row_ok H this.1⟩
  all := fun m hm => by
    rw [prodsW_products H.hl H.hk] at hm
    obtain ⟨c, hc, rfl⟩ := List.mem_map.mp hm
    have := ((prodsW_spec (d : Int) H.hk).2 c).mp hc
    exact ⟨_, List.mem_map_of_mem (List.mem_reverse.mpr hc), row_ok H this.1⟩
  out := fun m hm j hj => by
    by_cases h : j < (multiplesM d l.length eqs).length
    · have hi := mulM_mem H.hk (getD_mem' (z := (0, [])) h)
      rw [colW_lt H h]
      exact mul_out H (H.he _ hi.2.1) hi.2.2.1 hi.2.2.2 hm
    · unfold colW
      rw [if_neg h, ← mul_unit H.hl H.hp]
      exact mul_out H H.hp (List.length_replicate ..) (by simp; exact H.hd) hm
  s0 := fun j hj => by
    unfold colS
    split
    · rename_i h
      have hi := mulM_mem H.hk (getD_mem' (z := (0, [])) h)
      exact natCast_ne (scaleOf_pos (H.he _ hi.2.1).pos)
    · exact natCast_ne (scaleOf_pos H.hp.pos)
theorem ixs_nodup (H : Hyp l d eqs p) : (ixs l d (eqs.map (toPoly l))).Nodup := by
  rw [ixs_multiplesM H.hl H.hk d H.he]
  refine List.pairwise_map.mpr ((mulM_pair H.hk eqs).imp_of_mem ?_)
  intro a b ha hb q z
  have e1 := (Prod.mk.inj z).1
  have e2 := mon_inj H.hl (mulM_mem H.hk ha).2.2.1 (mulM_mem H.hk hb).2.2.1 (Prod.mk.inj z).2
  exact q.1 (Prod.ext e1 e2)
theorem placesDesc_mem {w : Nat} {F : Found} {y : Nat × List Int} : y ∈ placesDesc w F ↔ y.1 < w ∧ rowAt F y.1 = some y.2 := by
  unfold placesDesc
  rw [List.mem_filterMap]
  constructor
  · rintro ⟨j, hj, e⟩
    cases q : rowAt F j with
    | none => rw [q] at e; cases e
    | some o =>
      rw [q] at e
      have : (j, o) = y := Option.some.inj e
      rw [← this]
      exact ⟨by simpa using hj, q⟩
  · rintro ⟨h1, h2⟩
    exact ⟨y.1, by simpa using h1, by rw [h2]; rfl⟩
theorem placesDesc_sorted (w : Nat) (F : Found) : (placesDesc w F).Pairwise fun y z => z.1 < y.1 := by
  unfold placesDesc
  refine List.pairwise_filterMap.mpr ?_
  have : (List.range w).reverse.Pairwise fun a b => b < a := by
    rw [List.pairwise_reverse]
    exact List.pairwise_lt_range
  refine this.imp ?_
  intro a b q y hy z hz
  cases q1 : rowAt F a with
  | none => rw [q1] at hy; cases hy
  | some o =>
    cases q2 : rowAt F b with
    | none => rw [q2] at hz; cases hz
    | some o' =>
      rw [q1] at hy
      rw [q2] at hz
      have e1 : (a, o) = y := Option.some.inj hy
      have e2 : (b, o') = z := Option.some.inj hz
      rw [← e1, ← e2]
      exact q
theorem pair_get {α : Type} {R : α → α → Prop} {I : List α} (h : I.Pairwise R) {z : α} {i j : Nat} (hij : i < j) (hj : j < I.length) : R (I.getD i z) (I.getD j z) := by
  rw [List.getD_eq_getElem?_getD, List.getD_eq_getElem?_getD, List.getElem?_eq_getElem hj, List.getElem?_eq_getElem (Nat.lt_trans hij hj)]
  exact List.pairwise_iff_getElem.mp h i j _ _ hij
theorem ansOf_some {I : List (Nat × List Nat)} {e : Nat} {y : Nat × List Int} {t : MT} (h : ansOf eqs p I e y = some t) : (I.getD y.1 (0, [])).1 = e ∧ y.2.getD I.length 0 ≠ 0 ∧ t = ((I.getD y.1 (0, [])).2, low (y.2.getD I.length 0 * (scaleOf (eqs.getD e []) : Int)) (y.2.getD y.1 0 * (scaleOf p : Int))) := by
  unfold ansOf at h
  split at h
  · rename_i q
    refine ⟨q.1, q.2, ?_⟩
    rw [← q.1]
    exact (Option.some.inj h).symm
  · cases h
theorem ansM_rat (H : Hyp l d eqs p) {U : List (List Int)} {F : Found} (R : Red ((multiplesM d l.length eqs).length + 1) (rowsM d l.length p eqs) U F) {y : Nat × List Int} (hy : rowAt F y.1 = some y.2) (hj : y.1 < (multiplesM d l.length eqs).length) (c : List Nat) :
    ratT (c, low (y.2.getD (multiplesM d l.length eqs).length 0 * (scaleOf (eqs.getD ((multiplesM d l.length eqs).getD y.1 (0, [])).1 []) : Int)) (y.2.getD y.1 0 * (scaleOf p : Int))) = part F (multiplesM d l.length eqs).length y.1 * (colS d l.length eqs p y.1 / colS d l.length eqs p (multiplesM d l.length eqs).length) := by
  rw [low_rat]
  unfold part
  rw [hy]
  have h0 := R.piv _ (rowAt_some hy)
  simp only at h0 ⊢
  have h1 : colS d l.length eqs p y.1 = ((scaleOf (eqs.getD ((multiplesM d l.length eqs).getD y.1 (0, [])).1 []) : Int) : Rat) := if_pos hj
  have h2 : colS d l.length eqs p (multiplesM d l.length eqs).length = ((scaleOf p : Int) : Rat) := if_neg (Nat.lt_irrefl _)
  have h3 := (mat H).s0 _ (Nat.lt_succ_self (multiplesM d l.length eqs).length)
  rw [h2] at h3
  rw [h1, h2, Rat.intCast_mul, Rat.intCast_mul]
  show rf y.2 _ * _ / (rf y.2 _ * _) = _
  grind
theorem ansM_good (H : Hyp l d eqs p) {U : List (List Int)} {F : Found} (R : Red ((multiplesM d l.length eqs).length + 1) (rowsM d l.length p eqs) U F) (e : Nat) : GoodP l.length (ansM eqs p (multiplesM d l.length eqs) F e) ∧ ∀ t ∈ ansM eqs p (multiplesM d l.length eqs) F e, NormT t := by
  have each : ∀ t ∈ ansM eqs p (multiplesM d l.length eqs) F e, t.1.length = l.length ∧ 0 < t.2.2 ∧ t.2.1 ≠ 0 ∧ NormT t := by
    intro t ht
    obtain ⟨y, hy, e1⟩ := List.mem_filterMap.mp ht
    obtain ⟨q1, q2, rfl⟩ := ansOf_some e1
    have hy' := placesDesc_mem.mp hy
    have hi := mulM_mem H.hk (getD_mem' (z := (0, [])) hy'.1)
    refine ⟨hi.2.2.1, Rat.den_pos _, ?_, low_norm ..⟩
    show ((_ : Rat) / _).num ≠ 0
    intro z
    have z1 := Rat.num_eq_zero.mp z
    have p0 := R.piv _ (rowAt_some hy'.2)
    have p1 : rf y.2 (multiplesM d l.length eqs).length ≠ 0 := fun w => q2 (rf_zero.mp w)
    rw [q1] at hi
    have s1 := natCast_ne (scaleOf_pos (H.he _ hi.2.1).pos)
    have s2 := natCast_ne (scaleOf_pos H.hp.pos)
    rw [Rat.intCast_mul, Rat.intCast_mul] at z1
    have z2 : rf y.2 (multiplesM d l.length eqs).length * ((scaleOf (eqs.getD e []) : Int) : Rat) / (rf y.2 y.1 * ((scaleOf p : Int) : Rat)) = 0 := z1
    simp only at p0
    grind
  refine ⟨⟨fun t ht => (each t ht).1, fun t ht => (each t ht).2.1, fun t ht => (each t ht).2.2.1, ?_⟩, fun t ht => (each t ht).2.2.2⟩
  unfold ansM
  refine List.pairwise_filterMap.mpr ((placesDesc_sorted _ F).imp_of_mem ?_)
  intro y z hy hz q t ht u hu
  obtain ⟨a1, a2, rfl⟩ := ansOf_some ht
  obtain ⟨b1, b2, rfl⟩ := ansOf_some hu
  have hy' := placesDesc_mem.mp hy
  exact (pair_get (mulM_pair H.hk eqs) q hy'.1).2 (by rw [a1, b1])
theorem how_spec (H : Hyp l d eqs p) : (howM d l.length p eqs).map (fun h => h.map (toPoly l)) = Al04.follows l d (eqs.map (toPoly l)) (toPoly l p) := by
  obtain ⟨U, R⟩ := red_all (mat H).len
  have M := mat H
  have hE : EqsOk l (eqs.map (toPoly l)) := ⟨fun q hq => by
    obtain ⟨r, hr, rfl⟩ := List.mem_map.mp hq
    exact toPoly_can H.hl (H.he r hr), fun q hq => by
    obtain ⟨r, hr, rfl⟩ := List.mem_map.mp hq
    exact toPoly_over (H.he r hr)⟩
  have S := spec_follows (d := d) H.hl hE (toPoly_can H.hl H.hp)
  have nd := ixs_nodup H
  have il := ixs_len H
  unfold howM
  generalize hF : reduced (rowsM d l.length p eqs) = F at R
  generalize hn : (multiplesM d l.length eqs).length = n at *
  have Wn : ∀ m, colW l d eqs p n m = co (toPoly l p) m := fun m => by
    unfold colW
    rw [hn, if_neg (Nat.lt_irrefl _)]
  have Wlt : ∀ j, j < n → colW l d eqs p j = vec (eqs.map (toPoly l)) ((ixs l d (eqs.map (toPoly l))).getD j (0, [])) := fun j hj => by
    funext m
    unfold colW
    rw [hn, if_pos hj]
  cases hp : rowAt F n with
  | some o =>
    have h1 := R.place_out M (Nat.lt_succ_self n) hp
    have h2 : ¬ InSpan (ixs l d (eqs.map (toPoly l))) (vec (eqs.map (toPoly l))) (co (toPoly l p)) := by
      intro q
      refine h1 ((q.trans fun i hi => ?_).of_eq Wn)
      obtain ⟨j, hj, rfl⟩ := List.mem_iff_getElem.mp hi
      rw [il] at hj
      have : vec (eqs.map (toPoly l)) (ixs l d (eqs.map (toPoly l)))[j] = colW l d eqs p j := by
        rw [Wlt j hj, List.getD_eq_getElem?_getD, List.getElem?_eq_getElem (by rw [il]; exact hj)]
        rfl
      rw [this]
      exact InSpan.mem (List.mem_range.mpr hj)
    rw [S.2 h2]
    rfl
  | none =>
    have hc := R.column M (Nat.lt_succ_self n) hp
    let mu : Nat → Rat := fun j => part F n j * (colS d l.length eqs p j / colS d l.length eqs p n)
    have hspan : InSpan (ixs l d (eqs.map (toPoly l))) (vec (eqs.map (toPoly l))) (co (toPoly l p)) := by
      have : InSpan (List.range n) (colW l d eqs p) (co (toPoly l p)) := ⟨mu, fun m => by rw [← Wn m]; exact hc m⟩
      refine this.trans fun j hj => ?_
      have hj' := List.mem_range.mp hj
      rw [Wlt j hj']
      exact InSpan.mem (getD_mem' (by rw [il]; exact hj'))
    obtain ⟨how, ef, hok, hval, hsup⟩ := S.1 hspan
    rw [ef]
    show some (((List.range eqs.length).map _).map (toPoly l)) = some how
    congr 1
    -- the numbers agree at each column
    have hval2 : ∀ m, co (toPoly l p) m = lin (List.range n) (fun j => hco how ((ixs l d (eqs.map (toPoly l))).getD j (0, []))) (colW l d eqs p) m := fun m => by
      rw [hval m, lin_sublist (sel_sublist _ _) nd fun i _ hi => hsup i hi]
      conv => lhs; rw [← map_getD_range (0, []) (ixs l d (eqs.map (toPoly l)))]
      rw [lin_map, il]
      exact lin_congrV fun j hj => by rw [Wlt j (List.mem_range.mp hj)]
    have hmu : ∀ j, j < n → hco how ((ixs l d (eqs.map (toPoly l))).getD j (0, [])) = mu j := by
      have := R.places_ind M (a := fun j => if j < n then hco how ((ixs l d (eqs.map (toPoly l))).getD j (0, [])) - mu j else 0) ?_ ?_
      · intro j hj
        have h1 := this j (Nat.lt_succ_of_lt hj)
        simp only [hj, if_true] at h1
        grind
      · intro j hj hz
        by_cases hj' : j < n
        · simp only [hj', if_true]
          have m0 : mu j = 0 := by
            show part F n j * _ = 0
            unfold part
            rw [hz]
            grind
          have h0 : hco how ((ixs l d (eqs.map (toPoly l))).getD j (0, [])) = 0 := by
            refine hsup _ fun q => ?_
            have hcut : ixs l d (eqs.map (toPoly l)) = (ixs l d (eqs.map (toPoly l))).take j ++ (ixs l d (eqs.map (toPoly l))).getD j (0, []) :: (ixs l d (eqs.map (toPoly l))).drop (j + 1) := by
              rw [List.getD_eq_getElem?_getD, List.getElem?_eq_getElem (by rw [il]; exact hj')]
              exact (List.take_append_drop j _).symm.trans (by rw [List.drop_eq_getElem_cons (by rw [il]; exact hj')]; rfl)
            have nd2 := nd
            rw [hcut] at nd2
            have q2 : (ixs l d (eqs.map (toPoly l))).getD j (0, []) ∈ sel (vec (eqs.map (toPoly l))) ((ixs l d (eqs.map (toPoly l))).take j ++ (ixs l d (eqs.map (toPoly l))).getD j (0, []) :: (ixs l d (eqs.map (toPoly l))).drop (j + 1)) := by
              rw [← hcut]
              exact q
            refine sel_prefix _ nd2 q2 ?_
            have hcj := R.column M hj hz
            have sp : InSpan (List.range j) (colW l d eqs p) (colW l d eqs p j) := ⟨_, hcj⟩
            rw [Wlt j hj'] at sp
            refine sp.trans fun i hi => ?_
            have hi' := List.mem_range.mp hi
            rw [Wlt i (by omega)]
            refine InSpan.mem ?_
            rw [List.getD_eq_getElem?_getD, List.getElem?_eq_getElem (by rw [il]; omega)]
            exact List.mem_take_iff_getElem.mpr ⟨i, by rw [il]; omega, rfl⟩
          rw [h0, m0]
          grind
        · simp only [hj', if_false]
      · intro m
        rw [List.range_succ, lin_append, lin_cons, lin_nil]
        have e1 : lin (List.range n) (fun j => if j < n then hco how ((ixs l d (eqs.map (toPoly l))).getD j (0, [])) - mu j else 0) (colW l d eqs p) m = lin (List.range n) (fun j => hco how ((ixs l d (eqs.map (toPoly l))).getD j (0, [])) + (-1) * mu j) (colW l d eqs p) m := lin_congr fun j hj => by
          rw [if_pos (List.mem_range.mp hj)]
          grind
        rw [e1, lin_add, lin_smul, ← hval2 m, if_neg (Nat.lt_irrefl _)]
        have : lin (List.range n) mu (colW l d eqs p) m = co (toPoly l p) m := by rw [← Wn m]; exact (hc m).symm
        rw [this]
        grind
    have R' : Red ((multiplesM d l.length eqs).length + 1) (rowsM d l.length p eqs) U F := by rw [hn]; exact R
    -- list by list
    refine List.ext_getElem (by simp [hok.len]) fun e h1 h2 => ?_
    rw [List.getElem_map, List.getElem_map, List.getElem_range]
    have hg := ansM_good H R' e
    have c1 := toPoly_can H.hl hg.1
    have c2 : Can how[e] := hok.can _ (List.getElem_mem ..)
    have hh : ∀ m, hco how (e, m) = co how[e] m := fun m => by
      unfold hco
      rw [List.getD_eq_getElem?_getD, List.getElem?_eq_getElem h2]
      rfl
    -- what stands there comes from a place
    have fromPlace : ∀ m, co (toPoly l (ansM eqs p (multiplesM d l.length eqs) F e)) m ≠ 0 → ∃ j, j < n ∧ (ixs l d (eqs.map (toPoly l))).getD j (0, []) = (e, m) ∧ co (toPoly l (ansM eqs p (multiplesM d l.length eqs) F e)) m = mu j := by
      intro m hm
      have hmem := co_mem_of_ne hm
      obtain ⟨t, ht, et⟩ := List.mem_map.mp hmem
      obtain ⟨y, hy, e1⟩ := List.mem_filterMap.mp ht
      obtain ⟨q1, q2, q3⟩ := ansOf_some e1
      have hy' := placesDesc_mem.mp hy
      refine ⟨y.1, by rw [← hn]; exact hy'.1, ?_, ?_⟩
      · rw [ixs_getD H hy'.1, q1]
        congr 1
        have := (Prod.mk.inj et).1
        rw [q3] at this
        exact this
      · have := (Prod.mk.inj et).2
        rw [← this, q3, ← q1, ansM_rat H R' hy'.2 hy'.1, hn]
    have toPlace : ∀ j, j < n → ∀ m, (ixs l d (eqs.map (toPoly l))).getD j (0, []) = (e, m) → mu j ≠ 0 → co (toPoly l (ansM eqs p (multiplesM d l.length eqs) F e)) m = mu j := by
      intro j hj m hjm hne
      rw [← hn] at hj
      rw [ixs_getD H hj] at hjm
      obtain ⟨q1, q2⟩ := Prod.mk.inj hjm
      cases hr : rowAt F j with
      | none =>
        exfalso
        refine hne ?_
        show part F n j * _ = 0
        unfold part
        rw [hr]
        grind
      | some o =>
        have on : o.getD (multiplesM d l.length eqs).length 0 ≠ 0 := by
          intro z
          refine hne ?_
          show part F n j * _ = 0
          unfold part
          rw [hr]
          have : rf o n = 0 := rf_zero.mpr (by rw [← hn]; exact z)
          simp only
          rw [this]
          grind
        have ht : ((multiplesM d l.length eqs).getD j (0, [])).1 = e ∧ o.getD (multiplesM d l.length eqs).length 0 ≠ 0 := ⟨q1, on⟩
        have hin : (((multiplesM d l.length eqs).getD j (0, [])).2, low (o.getD (multiplesM d l.length eqs).length 0 * (scaleOf (eqs.getD ((multiplesM d l.length eqs).getD j (0, [])).1 []) : Int)) (o.getD j 0 * (scaleOf p : Int))) ∈ ansM eqs p (multiplesM d l.length eqs) F e := by
          refine List.mem_filterMap.mpr ⟨(j, o), placesDesc_mem.mpr ⟨hj, hr⟩, ?_⟩
          unfold ansOf
          rw [if_pos ht]
        have hin2 := List.mem_map_of_mem (f := fun t : MT => (mon l t.1, ratT t)) hin
        have := c1.1.co_mem hin2
        simp only at this
        rw [q2] at this
        rw [this, ansM_rat H R' (y := (j, o)) hr hj, hn]
    refine Can.ext c1 c2 fun m => ?_
    rw [← hh m]
    by_cases z : co (toPoly l (ansM eqs p (multiplesM d l.length eqs) F e)) m = 0
    · rw [z]
      refine Classical.byContradiction fun ne => ?_
      have ne' : hco how (e, m) ≠ 0 := fun q => ne q.symm
      have hsel : (e, m) ∈ sel (vec (eqs.map (toPoly l))) (ixs l d (eqs.map (toPoly l))) := Classical.byContradiction fun q => ne' (hsup _ q)
      obtain ⟨j, hj, ej⟩ := List.mem_iff_getElem.mp (sel_sub _ _ _ hsel)
      have hj' : j < n := by rw [← il]; exact hj
      have ej2 : (ixs l d (eqs.map (toPoly l))).getD j (0, []) = (e, m) := by
        rw [List.getD_eq_getElem?_getD, List.getElem?_eq_getElem hj]
        exact ej
      have h3 := hmu j hj'
      rw [ej2] at h3
      have h4 := toPlace j hj' m ej2 (by rw [← h3]; exact ne')
      rw [z] at h4
      rw [← h4] at h3
      exact ne' h3
    · obtain ⟨j, hj, ej, ev⟩ := fromPlace m z
      have h3 := hmu j hj
      rw [ej] at h3
      rw [ev, h3]
end
end E94
set_option linter.unusedVariables false
set_option linter.unusedSimpArgs false
namespace E94
open AlBase Al04
/-! T1: texts read -/
/-! digits -/
theorem digitsFrom_app : ∀ (f n : Nat) (l : Bytes), digitsFrom f n l = digitsFrom f n [] ++ l
  | 0, _, l => rfl
  | f + 1, n, l => by
    unfold digitsFrom
    split
    · rfl
    · rw [digitsFrom_app f (n / 10) ((48 + n % 10) :: l), digitsFrom_app f (n / 10) [48 + n % 10], List.append_assoc]
      rfl
theorem digitsFrom_fuel : ∀ (f g n : Nat) (l : Bytes), n < f → n < g → digitsFrom f n l = digitsFrom g n l
  | 0, _, _, _, h, _ => absurd h (Nat.not_lt_zero _)
  | _ + 1, 0, _, _, _, h => absurd h (Nat.not_lt_zero _)
  | f + 1, g + 1, n, l, hf, hg => by
    unfold digitsFrom
    split
    · rfl
    · rename_i h
      have : n / 10 < n := Nat.div_lt_self (by omega) (by omega)
      exact digitsFrom_fuel f g (n / 10) _ (by omega) (by omega)
theorem digits_lt {n : Nat} (h : n < 10) : digits n = [48 + n] := by
  unfold digits digitsFrom
  rw [if_pos h]
theorem digits_ge {n : Nat} (h : ¬ n < 10) : digits n = digits (n / 10) ++ [48 + n % 10] := by
  have hlt : n / 10 < n := Nat.div_lt_self (by omega) (by omega)
  have e : digits n = digitsFrom n (n / 10) [48 + n % 10] := by
    show digitsFrom (n + 1) n [] = _
    rw [digitsFrom, if_neg h]
  rw [e, digitsFrom_app]
  congr 1
  exact digitsFrom_fuel _ _ _ _ hlt (Nat.lt_succ_self _)
def isDig (b : Nat) : Bool := decide (48 ≤ b) && decide (b ≤ 57)
def valOf (w : Bytes) : Nat := w.foldl (fun n b => 10 * n + (b - 48)) 0
theorem valOf_snoc (w : Bytes) (b : Nat) : valOf (w ++ [b]) = 10 * valOf w + (b - 48) := by
  unfold valOf
  rw [List.foldl_append]
  rfl
structure DigOk (w : Bytes) (n : Nat) : Prop where
  ne : w ≠ []
  all : w.all isDig = true
  lead : w.headD 0 = 48 → w.length = 1
  val : valOf w = n
theorem headD_append {w : Bytes} (h : w ≠ []) (v : Bytes) : (w ++ v).headD 0 = w.headD 0 := by
  cases w with
  | nil => exact absurd rfl h
  | cons a w => rfl
theorem digits_ok : ∀ n : Nat, DigOk (digits n) n := by
  intro n
  induction n using Nat.strongRecOn with
  | _ n ih =>
    by_cases h : n < 10
    · rw [digits_lt h]
      refine ⟨by simp, by simp [isDig]; omega, fun _ => rfl, by simp [valOf]⟩
    · have ih := ih (n / 10) (Nat.div_lt_self (by omega) (by omega))
      rw [digits_ge h]
      refine ⟨by simp, ?_, fun q => ?_, ?_⟩
      · rw [List.all_append, ih.all]
        simp [isDig]
        omega
      · rw [headD_append ih.ne] at q
        have := ih.lead q
        exfalso
        have hl : ∃ b, digits (n / 10) = [b] := by
          cases hd : digits (n / 10) with
          | nil => exact absurd hd ih.ne
          | cons b r =>
            rw [hd] at this
            have : r = [] := by simpa using this
            rw [this]
            exact ⟨b, rfl⟩
        obtain ⟨b, hb⟩ := hl
        have v := ih.val
        rw [hb] at v q
        simp [valOf] at v q
        omega
      · rw [valOf_snoc, ih.val]
        omega
theorem digok_eq : ∀ {w : Bytes} {n : Nat}, DigOk w n → w = digits n := by
  intro w
  refine list_rev_ind (P := fun w => ∀ {n : Nat}, DigOk w n → w = digits n) (fun h => absurd rfl h.ne) (fun w b ih => ?_) w
  intro n h
  have hb : isDig b = true := by
    have := h.all
    rw [List.all_append] at this
    simpa using (Bool.and_eq_true_iff.mp this).2
  unfold isDig at hb
  simp at hb
  have hv := h.val
  rw [valOf_snoc] at hv
  cases w with
  | nil =>
    simp [valOf] at hv
    rw [digits_lt (by omega)]
    simp
    omega
  | cons a w =>
    have hal := h.all
    rw [List.all_append] at hal
    have hal1 := (Bool.and_eq_true_iff.mp hal).1
    have ha : isDig a = true := by
      rw [List.all_cons] at hal1
      exact (Bool.and_eq_true_iff.mp hal1).1
    unfold isDig at ha
    simp at ha
    have hne : a ≠ 48 := fun q => by
      have := h.lead (by simp [q])
      simp at this
    have ok : DigOk (a :: w) (valOf (a :: w)) := ⟨by simp, hal1, fun q => absurd (by simpa using q) hne, rfl⟩
    have e := ih ok
    have v1 : 1 ≤ valOf (a :: w) := by
      have mono : ∀ (w : Bytes) (k : Nat), 1 ≤ k → 1 ≤ w.foldl (fun n b => 10 * n + (b - 48)) k := by
        intro w
        induction w with
        | nil => intro k hk; exact hk
        | cons c w ih2 =>
          intro k hk
          exact ih2 _ (by show 1 ≤ 10 * k + (c - 48); omega)
      unfold valOf
      rw [List.foldl_cons]
      exact mono w _ (by omega)
    have hn : ¬ n < 10 := by omega
    rw [digits_ge hn]
    have e1 : n / 10 = valOf (a :: w) := by omega
    have e2 : 48 + n % 10 = b := by omega
    rw [e1, e2, ← e]
def readWhole (w : Bytes) : Option Nat := if w = [] ∨ (w.headD 0 = 48 ∧ 1 < w.length) then none else if w.all isDig = true then some (valOf w) else none
theorem readWhole_iff {w : Bytes} {n : Nat} : readWhole w = some n ↔ w = digits n := by
  constructor
  · intro h
    unfold readWhole at h
    split at h
    · cases h
    · rename_i h1
      split at h
      · rename_i h2
        refine digok_eq ⟨fun q => h1 (.inl q), h2, fun q => ?_, Option.some.inj h⟩
        have : 0 < w.length := by
          cases w with
          | nil => exact absurd (.inl rfl) h1
          | cons => simp
        rcases Nat.lt_or_ge 1 w.length with g | g
        · exact absurd (.inr ⟨q, g⟩) h1
        · omega
      · cases h
  · rintro rfl
    have h := digits_ok n
    unfold readWhole
    rw [if_neg, if_pos h.all, h.val]
    rintro (q | ⟨q1, q2⟩)
    · exact h.ne q
    · have := h.lead q1
      omega
theorem isDig_iff {b : Nat} : isDig b = true ↔ 48 ≤ b ∧ b ≤ 57 := by unfold isDig; simp
theorem digits_mem {n b : Nat} (h : b ∈ digits n) : 48 ≤ b ∧ b ≤ 57 := isDig_iff.mp (List.all_eq_true.mp (digits_ok n).all b h)
/-! cutting -/
theorem split_ne (sep : Nat) : ∀ t : Bytes, split sep t ≠ []
  | [] => by simp [split]
  | b :: l => by
    unfold split
    split
    · simp
    · split <;> simp
theorem split_no {sep : Nat} : ∀ {t : Bytes}, sep ∉ t → split sep t = [t]
  | [], _ => rfl
  | b :: l, h => by
    unfold split
    rw [if_neg (fun q => h (by rw [q]; exact List.mem_cons_self ..)), split_no fun q => h (List.mem_cons_of_mem _ q)]
theorem split_sep {sep : Nat} : ∀ {w : Bytes}, sep ∉ w → ∀ t : Bytes, split sep (w ++ sep :: t) = w :: split sep t
  | [], _, t => by
    show split sep (sep :: t) = _
    rw [split, if_pos rfl]
  | b :: w, h, t => by
    show split sep (b :: (w ++ sep :: t)) = _
    rw [split, if_neg (fun q => h (by rw [q]; exact List.mem_cons_self ..)), split_sep fun q => h (List.mem_cons_of_mem _ q)]
theorem split_parts (sep : Nat) : ∀ (t : Bytes), ∀ w ∈ split sep t, sep ∉ w
  | [], w, h => by
    have : w = [] := by simpa [split] using h
    rw [this]
    simp
  | b :: l, w, h => by
    have ih := split_parts sep l
    unfold split at h
    split at h
    · rcases List.mem_cons.mp h with rfl | h
      · simp
      · exact ih w h
    · rename_i hb
      split at h
      · rename_i e
        exact absurd e (split_ne sep l)
      · rename_i v r e
        rcases List.mem_cons.mp h with rfl | h
        · intro q
          rcases List.mem_cons.mp q with q | q
          · exact hb q.symm
          · exact ih v (by rw [e]; exact List.mem_cons_self ..) q
        · exact ih w (by rw [e]; exact List.mem_cons_of_mem _ h)
/-- joined again it's the text -/
theorem join_split (sep : Nat) : ∀ t : Bytes, join [sep] (split sep t) = t
  | [] => rfl
  | b :: l => by
    have ih := join_split sep l
    have ne := split_ne sep l
    unfold split
    split
    · rename_i hb
      cases e : split sep l with
      | nil => exact absurd e ne
      | cons v r =>
        rw [e] at ih
        show [] ++ [sep] ++ join [sep] (v :: r) = _
        rw [ih, hb]
        rfl
    · cases e : split sep l with
      | nil => exact absurd e ne
      | cons v r =>
        rw [e] at ih
        cases r with
        | nil =>
          show b :: v = b :: l
          have : v = l := ih
          rw [this]
        | cons u r =>
          show (b :: v) ++ [sep] ++ join [sep] (u :: r) = b :: l
          have : v ++ [sep] ++ join [sep] (u :: r) = l := ih
          rw [List.cons_append, List.cons_append, this]
theorem split_join {sep : Nat} : ∀ {ws : List Bytes}, ws ≠ [] → (∀ w ∈ ws, sep ∉ w) → split sep (join [sep] ws) = ws
  | [], h, _ => absurd rfl h
  | [w], _, h => split_no (h w (List.mem_cons_self ..))
  | w :: v :: r, _, h => by
    show split sep (w ++ [sep] ++ join [sep] (v :: r)) = _
    rw [List.append_assoc]
    show split sep (w ++ sep :: join [sep] (v :: r)) = _
    rw [split_sep (h w (List.mem_cons_self ..)), split_join (by simp) fun u hu => h u (List.mem_cons_of_mem _ hu)]
/-! numbers -/
def readNumberM (w : Bytes) : Option (Nat × Nat) := match (split 47 w).map readWhole with
  | [some a] => some (a, 1)
  | [some a, some b] => if b ≤ 1 ∨ 1 < Nat.gcd a b then none else some (a, b)
  | _ => none
def numText (a b : Nat) : Bytes := digits a ++ (if b = 1 then [] else 47 :: digits b)
theorem digits_no {n b : Nat} (h : b < 48 ∨ 57 < b) : b ∉ digits n := fun q => by
  have := digits_mem q
  omega
theorem readNumberM_iff {w : Bytes} {a b : Nat} : readNumberM w = some (a, b) ↔ (0 < b ∧ (b = 1 ∨ Nat.gcd a b = 1)) ∧ w = numText a b := by
  constructor
  · intro h
    have hj := join_split 47 w
    unfold readNumberM at h
    split at h
    · rename_i a' e
      cases h
      cases hs : split 47 w with
      | nil => rw [hs] at e; cases e
      | cons v r =>
        rw [hs] at e hj
        obtain ⟨e1, e2⟩ := List.cons.inj e
        have r0 : r = [] := List.map_eq_nil_iff.mp e2
        subst r0
        refine ⟨⟨by decide, .inl rfl⟩, ?_⟩
        rw [← hj]
        show v = digits a ++ []
        rw [List.append_nil]
        exact readWhole_iff.mp e1
    · rename_i a' b' e
      split at h
      · cases h
      · rename_i hc
        cases h
        cases hs : split 47 w with
        | nil => rw [hs] at e; cases e
        | cons v r =>
          rw [hs] at e hj
          obtain ⟨e1, e2⟩ := List.cons.inj e
          cases r with
          | nil => cases e2
          | cons u r =>
            obtain ⟨e3, e4⟩ := List.cons.inj e2
            have r0 : r = [] := List.map_eq_nil_iff.mp e4
            subst r0
            have hb : 1 < b := by omega
            have hg : Nat.gcd a b = 1 := by
              have : 0 < Nat.gcd a b := Nat.gcd_pos_of_pos_right _ (by omega)
              omega
            refine ⟨⟨by omega, .inr hg⟩, ?_⟩
            rw [← hj]
            show v ++ [47] ++ u = digits a ++ _
            rw [if_neg (by omega), readWhole_iff.mp e1, readWhole_iff.mp e3, List.append_assoc]
            rfl
    · cases h
  · rintro ⟨⟨hb, hc⟩, rfl⟩
    unfold readNumberM numText
    by_cases b1 : b = 1
    · subst b1
      rw [if_pos rfl, List.append_nil, split_no (digits_no (by omega))]
      show (match [readWhole (digits a)] with | [some a] => some (a, 1) | [some a, some b] => _ | _ => none) = _
      rw [readWhole_iff.mpr rfl]
    · rw [if_neg b1, split_sep (digits_no (by omega)), split_no (digits_no (by omega))]
      show (match [readWhole (digits a), readWhole (digits b)] with | [some a] => some (a, 1) | [some a, some b] => _ | _ => none) = _
      rw [readWhole_iff.mpr rfl, readWhole_iff.mpr rfl]
      show (if b ≤ 1 ∨ 1 < Nat.gcd a b then none else some (a, b)) = _
      rw [if_neg]
      omega
/-! powers -/
def readPowerM (w : Bytes) : Option (Nat × Nat) := match split 94 w with
  | [[c]] => if c < 97 ∨ 122 < c then none else some (c - 97, 1)
  | [[c], e] => if c < 97 ∨ 122 < c then none else (match readWhole e with
    | none => none
    | some n => if n ≤ 1 then none else some (c - 97, n))
  | _ => none
def powText (x : Nat × Nat) : Bytes := (97 + x.1) :: (if x.2 = 1 then [] else 94 :: digits x.2)
theorem readPowerM_iff {w : Bytes} {x : Nat × Nat} : readPowerM w = some x ↔ (x.1 < 26 ∧ 0 < x.2) ∧ w = powText x := by
  constructor
  · intro h
    have hj := join_split 94 w
    unfold readPowerM at h
    split at h
    · rename_i c e
      rw [e] at hj
      split at h
      · cases h
      · cases h
        refine ⟨⟨by show c - 97 < 26; omega, by show 0 < 1; decide⟩, ?_⟩
        rw [← hj]
        show [c] = [97 + (c - 97)]
        congr 1
        omega
    · rename_i c v e
      rw [e] at hj
      split at h
      · cases h
      · split at h
        · cases h
        · rename_i n hn
          split at h
          · cases h
          · cases h
            refine ⟨⟨by show c - 97 < 26; omega, by show 0 < n; omega⟩, ?_⟩
            rw [← hj]
            show [c] ++ [94] ++ v = (97 + (c - 97)) :: (if n = 1 then [] else 94 :: digits n)
            rw [if_neg (by omega), readWhole_iff.mp hn]
            show c :: 94 :: digits n = _
            congr 1
            omega
    · cases h
  · rintro ⟨⟨h1, h2⟩, rfl⟩
    unfold readPowerM powText
    by_cases e : x.2 = 1
    · rw [if_pos e, split_no (by simp; omega)]
      show (if 97 + x.1 < 97 ∨ 122 < 97 + x.1 then none else some (97 + x.1 - 97, 1)) = some x
      rw [if_neg (by omega)]
      congr 1
      exact Prod.ext (by show 97 + x.1 - 97 = x.1; omega) e.symm
    · rw [if_neg e]
      have := split_sep (sep := 94) (w := [97 + x.1]) (by simp; omega) (digits x.2)
      rw [show (97 + x.1) :: 94 :: digits x.2 = [97 + x.1] ++ 94 :: digits x.2 from rfl, this, split_no (digits_no (by omega))]
      show (if 97 + x.1 < 97 ∨ 122 < 97 + x.1 then none else (match readWhole (digits x.2) with | none => none | some n => if n ≤ 1 then none else some (97 + x.1 - 97, n))) = some x
      rw [if_neg (by omega), readWhole_iff.mpr rfl]
      show (if x.2 ≤ 1 then none else some (97 + x.1 - 97, x.2)) = some x
      rw [if_neg (by omega)]
      congr 1
      exact Prod.ext (by show 97 + x.1 - 97 = x.1; omega) rfl
/-! products -/
abbrev az : List Nat := List.range 26
theorem az_sorted : az.Pairwise (· < ·) := List.pairwise_lt_range
/-- the powers one by one: counts so far, the letters below which nothing more comes -/
def readFrom : Nat → List Nat → List Bytes → Option (List Nat)
  | _, c, [] => some c
  | lo, c, w :: ws => match readPowerM w with
    | none => none
    | some x => if x.1 < lo then none else readFrom (x.1 + 1) (c.set x.1 x.2) ws
def readProductM (ws : List Bytes) : Option (List Nat) := readFrom 0 (List.replicate 26 0) ws
/-- the part of a product from the letter lo on -/
theorem mon_drop : ∀ (l c : List Nat), mon l c = (l.zip c).filter fun x => decide (x.2 ≠ 0)
  | [], _ => by simp [mon]
  | _ :: _, [] => by simp [mon]
  | a :: l, i :: c => by
    rw [List.zip_cons_cons, List.filter_cons]
    unfold mon
    rw [mon_drop l c]
    by_cases h : i = 0
    · simp [h]
    · simp [h]
theorem mem_mon {k : Nat} {c : List Nat} (hc : c.length = k) {x : Nat × Nat} : x ∈ mon (List.range k) c ↔ x.1 < k ∧ c.getD x.1 0 = x.2 ∧ x.2 ≠ 0 := by
  rw [mon_drop, List.mem_filter]
  have e : (List.range k).zip c = (List.range k).map fun j => (j, c.getD j 0) := by
    refine List.ext_getElem (by simp [hc]) fun i h1 h2 => ?_
    rw [List.getElem_zip, List.getElem_map, List.getElem_range]
    have : i < c.length := by simp at h2; omega
    rw [List.getD_eq_getElem?_getD, List.getElem?_eq_getElem this]
    rfl
  rw [e, List.mem_map]
  constructor
  · rintro ⟨⟨j, hj, rfl⟩, h2⟩
    exact ⟨List.mem_range.mp hj, rfl, by simpa using h2⟩
  · rintro ⟨h1, h2, h3⟩
    exact ⟨⟨x.1, List.mem_range.mpr h1, Prod.ext rfl h2⟩, by simpa using h3⟩
theorem mon_asc {k : Nat} {c : List Nat} (hc : c.length = k) : (mon (List.range k) c).Pairwise fun x y => x.1 < y.1 := by
  rw [mon_drop]
  refine List.Pairwise.filter _ ?_
  have : (((List.range k).zip c).map (·.1)).Pairwise (· < ·) := by
    rw [List.map_fst_zip (by simp [hc])]
    exact List.pairwise_lt_range
  exact List.pairwise_map.mp this
/-- powers in order, from a letter on -/
structure Asc (lo : Nat) (m : Mono) : Prop where
  ord : m.Pairwise fun x y => x.1 < y.1
  low : ∀ x ∈ m, lo ≤ x.1
  hi : ∀ x ∈ m, x.1 < 26
  pos : ∀ x ∈ m, 0 < x.2
theorem readFrom_iff : ∀ {ws : List Bytes} {lo : Nat} {c c' : List Nat}, readFrom lo c ws = some c' ↔ ∃ m : Mono, Asc lo m ∧ ws = m.map powText ∧ c' = m.foldl (fun c x => c.set x.1 x.2) c
  | [], lo, c, c' => by
    unfold readFrom
    constructor
    · intro h
      exact ⟨[], ⟨List.Pairwise.nil, (fun _ h => nomatch h), (fun _ h => nomatch h), (fun _ h => nomatch h)⟩, rfl, (Option.some.inj h).symm⟩
    · rintro ⟨m, hm, e, rfl⟩
      have : m = [] := List.map_eq_nil_iff.mp e.symm
      rw [this]
      rfl
  | w :: ws, lo, c, c' => by
    constructor
    · intro h
      unfold readFrom at h
      split at h
      · cases h
      · rename_i x hx
        split at h
        · cases h
        · rename_i hlo
          obtain ⟨m, hm, e, e2⟩ := readFrom_iff.mp h
          have hp := readPowerM_iff.mp hx
          refine ⟨x :: m, ⟨List.pairwise_cons.mpr ⟨fun y hy => hm.low y hy, hm.ord⟩, ?_, ?_, ?_⟩, by rw [List.map_cons, ← hp.2, ← e], by rw [List.foldl_cons]; exact e2⟩
          · intro y hy
            rcases List.mem_cons.mp hy with rfl | hy
            · omega
            · have := hm.low y hy; omega
          · intro y hy
            rcases List.mem_cons.mp hy with rfl | hy
            · exact hp.1.1
            · exact hm.hi y hy
          · intro y hy
            rcases List.mem_cons.mp hy with rfl | hy
            · exact hp.1.2
            · exact hm.pos y hy
    · rintro ⟨m, hm, e, rfl⟩
      cases m with
      | nil => cases e
      | cons x m =>
        obtain ⟨e1, e2⟩ := List.cons.inj e
        have hx : readPowerM w = some x := readPowerM_iff.mpr ⟨⟨hm.hi x (List.mem_cons_self ..), hm.pos x (List.mem_cons_self ..)⟩, e1⟩
        unfold readFrom
        rw [hx]
        show (if x.1 < lo then none else readFrom (x.1 + 1) (c.set x.1 x.2) ws) = _
        have := hm.low x (List.mem_cons_self ..)
        rw [if_neg (by omega)]
        exact readFrom_iff.mpr ⟨m, ⟨(List.pairwise_cons.mp hm.ord).2, fun y hy => (List.pairwise_cons.mp hm.ord).1 y hy, fun y hy => hm.hi y (List.mem_cons_of_mem _ hy), fun y hy => hm.pos y (List.mem_cons_of_mem _ hy)⟩, e2, rfl⟩
theorem foldSet_len : ∀ (m : Mono) (c : List Nat), (m.foldl (fun c x => c.set x.1 x.2) c).length = c.length
  | [], c => rfl
  | x :: m, c => by rw [List.foldl_cons, foldSet_len m, List.length_set]
theorem foldSet_get : ∀ {m : Mono} {c : List Nat}, m.Pairwise (fun x y => x.1 < y.1) → (∀ x ∈ m, x.1 < c.length) → (∀ x ∈ m, (m.foldl (fun c x => c.set x.1 x.2) c).getD x.1 0 = x.2) ∧ ∀ j, (∀ x ∈ m, x.1 ≠ j) → (m.foldl (fun c x => c.set x.1 x.2) c).getD j 0 = c.getD j 0
  | [], c, _, _ => ⟨(fun _ h => nomatch h), (fun _ _ => rfl)⟩
  | x :: m, c, h, hl => by
    have h1 := List.pairwise_cons.mp h
    have ih := foldSet_get (m := m) (c := c.set x.1 x.2) h1.2 (fun y hy => by rw [List.length_set]; exact hl y (List.mem_cons_of_mem _ hy))
    have hx := hl x (List.mem_cons_self ..)
    rw [List.foldl_cons]
    refine ⟨fun y hy => ?_, fun j hj => ?_⟩
    · rcases List.mem_cons.mp hy with rfl | hy
      · rw [ih.2 _ fun z hz => Nat.ne_of_gt (h1.1 z hz), List.getD_eq_getElem?_getD, List.getElem?_set, if_pos rfl, if_pos hx]
        rfl
      · exact ih.1 y hy
    · rw [ih.2 j fun z hz => hj z (List.mem_cons_of_mem _ hz), List.getD_eq_getElem?_getD, List.getElem?_set, if_neg (hj x (List.mem_cons_self ..))]
      rfl
theorem getD_replicate0 (k j : Nat) : (List.replicate k 0).getD j 0 = 0 := by
  rw [List.getD_eq_getElem?_getD, List.getElem?_replicate]
  split <;> rfl
theorem asc_mon {m : Mono} (h : Asc 0 m) : mon az (m.foldl (fun c x => c.set x.1 x.2) (List.replicate 26 0)) = m := by
  have hl : (m.foldl (fun c x => c.set x.1 x.2) (List.replicate 26 0)).length = 26 := by rw [foldSet_len, List.length_replicate]
  have hg := foldSet_get (m := m) (c := List.replicate 26 0) h.ord fun x hx => by rw [List.length_replicate]; exact h.hi x hx
  refine sorted_unique (r := fun x y => x.1 < y.1) (fun a => Nat.lt_irrefl _) (fun h1 h2 => Nat.lt_trans h1 h2) (mon_asc hl) h.ord fun x => ?_
  rw [mem_mon hl]
  constructor
  · rintro ⟨h1, h2, h3⟩
    refine Classical.byContradiction fun hx => ?_
    by_cases q : ∃ y ∈ m, y.1 = x.1
    · obtain ⟨y, hy, e⟩ := q
      have := hg.1 y hy
      rw [e, h2] at this
      exact hx (by rw [show x = y from Prod.ext e.symm this]; exact hy)
    · have := hg.2 x.1 fun y hy e => q ⟨y, hy, e⟩
      rw [getD_replicate0, h2] at this
      exact h3 this
  · intro hx
    exact ⟨h.hi x hx, hg.1 x hx, Nat.ne_of_gt (h.pos x hx)⟩
theorem mon_ascOk {c : List Nat} (hc : c.length = 26) : Asc 0 (mon az c) ∧ (mon az c).foldl (fun c x => c.set x.1 x.2) (List.replicate 26 0) = c := by
  have h : Asc 0 (mon az c) := ⟨mon_asc hc, fun x _ => Nat.zero_le _, fun x hx => ((mem_mon hc).mp hx).1, fun x hx => Nat.pos_of_ne_zero ((mem_mon hc).mp hx).2.2⟩
  exact ⟨h, mon_inj az_sorted (by rw [foldSet_len]; rfl) (by rw [hc]; rfl) (asc_mon h)⟩
theorem readProductM_iff {ws : List Bytes} {c : List Nat} : readProductM ws = some c ↔ c.length = 26 ∧ ws = (mon az c).map powText := by
  unfold readProductM
  rw [readFrom_iff]
  constructor
  · rintro ⟨m, hm, rfl, rfl⟩
    exact ⟨by rw [foldSet_len, List.length_replicate], by rw [asc_mon hm]⟩
  · rintro ⟨hc, rfl⟩
    have := mon_ascOk hc
    exact ⟨_, this.1, rfl, this.2.symm⟩
/-! terms -/
def readTermM (w : Bytes) : Option (List Nat × Nat × Nat) :=
  let fs := split 42 w
  if isDig ((fs.headD []).headD 0) = true then (match readNumberM (fs.headD []) with
    | none => none
    | some n => if n.1 = 0 then none else if n = (1, 1) ∧ fs.tail ≠ [] then none else (readProductM fs.tail).map fun c => (c, n.1, n.2))
  else (readProductM fs).map fun c => (c, 1, 1)
/-- a term's text, by counts, top and bottom -/
def termTextM (c : List Nat) (a b : Nat) : Bytes := if mon az c = [] then numText a b else if a = 1 ∧ b = 1 then join [42] ((mon az c).map powText) else numText a b ++ 42 :: join [42] ((mon az c).map powText)
theorem powText_no {x : Nat × Nat} (hx : x.1 < 26) {b : Nat} (h : b < 48 ∨ (57 < b ∧ b < 94)) : b ∉ powText x := by
  unfold powText
  intro q
  rcases List.mem_cons.mp q with q | q
  · omega
  · split at q
    · cases q
    · rcases List.mem_cons.mp q with q | q
      · omega
      · have := digits_mem q
        omega
theorem numText_no {a b k : Nat} (h : k < 47 ∨ 57 < k) : k ∉ numText a b := by
  unfold numText
  intro q
  rcases List.mem_append.mp q with q | q
  · have := digits_mem q; omega
  · split at q
    · cases q
    · rcases List.mem_cons.mp q with q | q
      · omega
      · have := digits_mem q; omega
theorem digits_head (n : Nat) : isDig ((digits n).headD 0) = true := by
  have h := digits_ok n
  cases e : digits n with
  | nil => exact absurd e h.ne
  | cons b r =>
    have := h.all
    rw [e, List.all_cons] at this
    exact (Bool.and_eq_true_iff.mp this).1
theorem numText_head (a b : Nat) : isDig ((numText a b).headD 0) = true := by
  unfold numText
  rw [headD_append (digits_ok a).ne]
  exact digits_head a
theorem headD_cons_tail {α : Type} {d : α} : ∀ {l : List α}, l ≠ [] → l = l.headD d :: l.tail
  | [], h => absurd rfl h
  | a :: l, _ => rfl
structure TermOk (c : List Nat) (a b : Nat) : Prop where
  len : c.length = 26
  pos : 0 < b
  top : 0 < a
  cop : b = 1 ∨ Nat.gcd a b = 1
theorem readTermM_iff {w : Bytes} {c : List Nat} {a b : Nat} : readTermM w = some (c, a, b) ↔ TermOk c a b ∧ w = termTextM c a b := by
  constructor
  · intro h
    have hj := join_split 42 w
    have hne := split_ne 42 w
    have hcut := headD_cons_tail (d := []) hne
    unfold readTermM at h
    simp only at h
    split at h
    · split at h
      · cases h
      · rename_i n hn
        have hn' := readNumberM_iff.mp hn
        split at h
        · cases h
        · rename_i n0
          split at h
          · cases h
          · rename_i n1
            cases hp : readProductM (split 42 w).tail with
            | none => rw [hp] at h; cases h
            | some c' =>
              rw [hp] at h
              have e : (c', n.1, n.2) = (c, a, b) := Option.some.inj h
              obtain ⟨rfl, e2⟩ := Prod.mk.inj e
              obtain ⟨rfl, rfl⟩ := Prod.mk.inj e2
              have hp' := readProductM_iff.mp hp
              refine ⟨⟨hp'.1, hn'.1.1, by omega, hn'.1.2⟩, ?_⟩
              rw [← hj, hcut, hn'.2, hp'.2]
              unfold termTextM
              by_cases m0 : mon az c' = []
              · rw [if_pos m0, m0]
                rfl
              · rw [if_neg m0, if_neg]
                · cases hm : mon az c' with
                  | nil => exact absurd hm m0
                  | cons y m =>
                    show numText n.1 n.2 ++ [42] ++ join [42] _ = _
                    rw [List.append_assoc]
                    rfl
                · rintro ⟨q1, q2⟩
                  refine n1 ⟨Prod.ext q1 q2, ?_⟩
                  rw [hp'.2]
                  intro z
                  exact m0 (List.map_eq_nil_iff.mp z)
    · rename_i hd
      cases hp : readProductM (split 42 w) with
      | none => rw [hp] at h; cases h
      | some c' =>
        rw [hp] at h
        have e : (c', 1, 1) = (c, a, b) := Option.some.inj h
        obtain ⟨rfl, e2⟩ := Prod.mk.inj e
        obtain ⟨rfl, rfl⟩ := Prod.mk.inj e2
        have hp' := readProductM_iff.mp hp
        refine ⟨⟨hp'.1, by decide, by decide, .inl rfl⟩, ?_⟩
        unfold termTextM
        have m0 : mon az c' ≠ [] := fun z => by
          rw [z] at hp'
          exact hne hp'.2
        rw [if_neg m0, if_pos ⟨rfl, rfl⟩, ← hp'.2, hj]
  · rintro ⟨h, rfl⟩
    have hm := (mon_ascOk h.len).1
    have pno : ∀ v ∈ (mon az c).map powText, 42 ∉ v := fun v hv => by
      obtain ⟨x, hx, rfl⟩ := List.mem_map.mp hv
      exact powText_no (hm.hi x hx) (by omega)
    have hnum : readNumberM (numText a b) = some (a, b) := readNumberM_iff.mpr ⟨⟨h.pos, h.cop⟩, rfl⟩
    have hprod : readProductM ((mon az c).map powText) = some c := readProductM_iff.mpr ⟨h.len, rfl⟩
    have a0 : a ≠ 0 := Nat.ne_of_gt h.top
    unfold readTermM termTextM
    by_cases m0 : mon az c = []
    · rw [if_pos m0]
      have hs : split 42 (numText a b) = [numText a b] := split_no (numText_no (by omega))
      simp only [hs]
      rw [m0] at hprod
      show (if isDig ((numText a b).headD 0) = true then (match readNumberM (numText a b) with | none => none | some n => if n.1 = 0 then none else if n = (1, 1) ∧ ([] : List Bytes) ≠ [] then none else (readProductM []).map fun c => (c, n.1, n.2)) else _) = _
      rw [if_pos (numText_head a b), hnum]
      show (if a = 0 then none else if (a, b) = (1, 1) ∧ ([] : List Bytes) ≠ [] then none else (readProductM []).map fun c => (c, a, b)) = _
      rw [if_neg a0, if_neg (fun q => q.2 rfl), show readProductM [] = some c from hprod]
      rfl
    · rw [if_neg m0]
      have pne : (mon az c).map powText ≠ [] := fun z => m0 (List.map_eq_nil_iff.mp z)
      by_cases h1 : a = 1 ∧ b = 1
      · rw [if_pos h1]
        have hs := split_join pne pno
        simp only [hs]
        have hd : isDig ((((mon az c).map powText).headD []).headD 0) = false := by
          cases e : mon az c with
          | nil => exact absurd e m0
          | cons x m =>
            show isDig (97 + x.1) = false
            unfold isDig
            simp
            omega
        rw [hd, if_neg Bool.false_ne_true, hprod, h1.1, h1.2]
        rfl
      · rw [if_neg h1]
        have hs : split 42 (numText a b ++ 42 :: join [42] ((mon az c).map powText)) = numText a b :: (mon az c).map powText := by
          rw [split_sep (numText_no (by omega)), split_join pne pno]
        simp only [hs]
        show (if isDig ((numText a b).headD 0) = true then (match readNumberM (numText a b) with | none => none | some n => if n.1 = 0 then none else if n = (1, 1) ∧ (mon az c).map powText ≠ [] then none else (readProductM ((mon az c).map powText)).map fun c => (c, n.1, n.2)) else _) = _
        rw [if_pos (numText_head a b), hnum]
        show (if a = 0 then none else if (a, b) = (1, 1) ∧ (mon az c).map powText ≠ [] then none else (readProductM ((mon az c).map powText)).map fun c => (c, a, b)) = _
        rw [if_neg a0, if_neg (fun q => h1 ⟨(Prod.mk.inj q.1).1, (Prod.mk.inj q.1).2⟩), hprod]
        rfl
end E94
set_option linter.unusedVariables false
set_option linter.unusedSimpArgs false
namespace E94
open AlBase Al04
/-! T2: polynomials' texts -/
theorem rat_norm {z : Int} {b : Nat} (hb : 0 < b) (hc : b = 1 ∨ Nat.gcd z.natAbs b = 1) : ((z : Rat) / ((b : Int) : Rat)).num = z ∧ ((z : Rat) / ((b : Int) : Rat)).den = b := by
  have cop : Nat.Coprime z.natAbs b := by
    rcases hc with h | h
    · rw [h]; exact Nat.coprime_one_right _
    · exact h
  have e : (z : Rat) / ((b : Int) : Rat) = ⟨z, b, Nat.ne_of_gt hb, cop⟩ := by
    rw [← Rat.divInt_eq_div, ← Rat.mk_eq_divInt (nz := Nat.ne_of_gt hb) (c := cop)]
  rw [e]
  exact ⟨rfl, rfl⟩
/-- a good term -/
structure TOk (t : MT) : Prop where
  len : t.1.length = 26
  pos : 0 < t.2.2
  top : t.2.1 ≠ 0
  nrm : NormT t
def sgn (t : MT) : Bytes := if t.2.1 < 0 then [45] else [43]
def body (t : MT) : Bytes := termTextM t.1 t.2.1.natAbs t.2.2
theorem TOk.term {t : MT} (h : TOk t) : TermOk t.1 t.2.1.natAbs t.2.2 := by
  refine ⟨h.len, h.pos, by have := h.top; omega, .inr ?_⟩
  have := (ratT t).reduced
  rw [h.nrm.1, h.nrm.2] at this
  exact this
theorem tok_of {c : List Nat} {z : Int} {a b : Nat} (h : TermOk c a b) (hz : z.natAbs = a) : TOk (c, z, b) := by
  have hn := rat_norm (z := z) h.pos (by rw [hz]; exact h.cop)
  exact ⟨h.len, h.pos, by have := h.top; show z ≠ 0; omega, hn⟩
/-! the program's reading -/
def signedWords (t : Bytes) : List Bytes := if ((split 32 t).headD []).headD 0 = 45 then [45] :: ((split 32 t).headD []).tail :: (split 32 t).tail else [43] :: split 32 t
def readLoop : MP → List Bytes → Option MP
  | acc, [] => some acc
  | _, [_] => none
  | acc, sign :: w :: l => match readTermM w with
    | none => none
    | some x => if sign ≠ [43] ∧ sign ≠ [45] then none else
      if acc ≠ [] ∧ cntGt ((acc.getLastD ([], 0, 0)).1) x.1 = false then none else readLoop (acc ++ [(x.1, (if sign = [45] then -(x.2.1 : Int) else (x.2.1 : Int)), x.2.2)]) l
def readPolyM (t : Bytes) : Option MP := if t = [48] then some [] else readLoop [] (signedWords t)
def wordsOf (q : MP) : List Bytes := q.flatMap fun u => [sgn u, body u]
theorem pairwise_snoc {acc : MP} {x : MT} (h : acc.Pairwise fun t u => cntGt t.1 u.1 = true) : (acc ++ [x]).Pairwise (fun t u => cntGt t.1 u.1 = true) ↔ (acc ≠ [] → cntGt ((acc.getLastD ([], 0, 0)).1) x.1 = true) := by
  rw [List.pairwise_append]
  constructor
  · intro q hne
    refine q.2.2 _ ?_ x (List.mem_singleton.mpr rfl)
    rw [List.getLastD_eq_getLast?, List.getLast?_eq_some_getLast hne]
    exact List.getLast_mem hne
  · intro q
    refine ⟨h, List.pairwise_singleton .., fun a ha b hb => ?_⟩
    rw [List.mem_singleton.mp hb]
    have hne : acc ≠ [] := fun e => by rw [e] at ha; cases ha
    have q1 := q hne
    rw [List.getLastD_eq_getLast?, List.getLast?_eq_some_getLast hne] at q1
    have e := List.dropLast_concat_getLast hne
    rw [← e] at ha h
    rcases List.mem_append.mp ha with ha | ha
    · have := (List.pairwise_append.mp h).2.2 a ha _ (List.mem_singleton.mpr rfl)
      exact cntGt_trans this q1
    · rw [List.mem_singleton.mp ha]
      exact q1
theorem readLoop_iff : ∀ {ws : List Bytes} {acc r : MP}, acc.Pairwise (fun t u => cntGt t.1 u.1 = true) → (readLoop acc ws = some r ↔ ∃ q : MP, r = acc ++ q ∧ ws = wordsOf q ∧ (∀ t ∈ q, TOk t) ∧ (acc ++ q).Pairwise fun t u => cntGt t.1 u.1 = true)
  | [], acc, r, hacc => by
    unfold readLoop
    constructor
    · intro h
      exact ⟨[], by rw [List.append_nil]; exact (Option.some.inj h).symm, rfl, (fun _ h => nomatch h), by rw [List.append_nil]; exact hacc⟩
    · rintro ⟨q, rfl, e, _, _⟩
      cases q with
      | nil => rw [List.append_nil]
      | cons => cases e
  | [v], acc, r, hacc => by
    unfold readLoop
    constructor
    · intro h; cases h
    · rintro ⟨q, rfl, e, _, _⟩
      cases q with
      | nil => cases e
      | cons => cases e
  | sign :: w :: l, acc, r, hacc => by
    constructor
    · intro h
      unfold readLoop at h
      split at h
      · cases h
      · rename_i x hx
        split at h
        · cases h
        · rename_i hs
          split at h
          · cases h
          · rename_i ho
            have hx' := readTermM_iff (c := x.1) (a := x.2.1) (b := x.2.2) |>.mp hx
            generalize hz : (if sign = [45] then -(x.2.1 : Int) else (x.2.1 : Int)) = z at h
            have za : z.natAbs = x.2.1 := by rw [← hz]; split <;> omega
            have hsg : sgn (x.1, z, x.2.2) = sign := by
              have := hx'.1.top
              unfold sgn
              show (if z < 0 then [45] else [43]) = sign
              by_cases q : sign = [45]
              · rw [if_pos q] at hz
                rw [if_pos (by omega), q]
              · rw [if_neg q] at hz
                rw [if_neg (by omega)]
                exact (Classical.byContradiction fun q2 => hs ⟨q2, q⟩ : sign = [43]).symm
            have hp : (acc ++ [(x.1, z, x.2.2)]).Pairwise fun t u => cntGt t.1 u.1 = true := (pairwise_snoc hacc).mpr fun hne => by
              cases e : cntGt ((acc.getLastD ([], 0, 0)).1) x.1 with
              | true => rfl
              | false => exact absurd ⟨hne, e⟩ ho
            obtain ⟨q, rfl, e, hq, hpq⟩ := (readLoop_iff hp).mp h
            refine ⟨(x.1, z, x.2.2) :: q, by rw [List.append_assoc]; rfl, ?_, ?_, by rw [List.append_assoc] at hpq; exact hpq⟩
            · show sign :: w :: l = sgn _ :: body _ :: wordsOf q
              rw [hsg, e]
              congr 1
              congr 1
              show w = termTextM x.1 z.natAbs x.2.2
              rw [za]
              exact hx'.2
            · intro t ht
              rcases List.mem_cons.mp ht with rfl | ht
              · exact tok_of hx'.1 za
              · exact hq t ht
    · rintro ⟨q, rfl, e, hq, hpq⟩
      cases q with
      | nil => cases e
      | cons t q =>
        have e' : sign :: w :: l = sgn t :: body t :: wordsOf q := e
        obtain ⟨e1, e2⟩ := List.cons.inj e'
        obtain ⟨e3, e4⟩ := List.cons.inj e2
        have ht := hq t (List.mem_cons_self ..)
        have hx : readTermM w = some (t.1, t.2.1.natAbs, t.2.2) := readTermM_iff.mpr ⟨ht.term, e3⟩
        have hpq2 : ((acc ++ [t]) ++ q).Pairwise fun t u => cntGt t.1 u.1 = true := by
          rw [List.append_assoc]
          exact hpq
        have hp := (List.pairwise_append.mp hpq2).1
        unfold readLoop
        rw [hx]
        have hsg : sign = [43] ∨ sign = [45] := by
          rw [e1]
          unfold sgn
          split
          · exact .inr rfl
          · exact .inl rfl
        show (if sign ≠ [43] ∧ sign ≠ [45] then none else if acc ≠ [] ∧ cntGt ((acc.getLastD ([], 0, 0)).1) t.1 = false then none else readLoop (acc ++ [(t.1, (if sign = [45] then -(t.2.1.natAbs : Int) else (t.2.1.natAbs : Int)), t.2.2)]) l) = _
        rw [if_neg (by rintro ⟨q1, q2⟩; rcases hsg with h | h; exact q1 h; exact q2 h), if_neg (by
          rintro ⟨q1, q2⟩
          rw [(pairwise_snoc hacc).mp hp q1] at q2
          cases q2)]
        have ez : (if sign = [45] then -(t.2.1.natAbs : Int) else (t.2.1.natAbs : Int)) = t.2.1 := by
          rw [e1]
          unfold sgn
          by_cases h0 : t.2.1 < 0
          · rw [if_pos h0, if_pos rfl]; omega
          · rw [if_neg h0, if_neg (by decide)]; omega
        rw [ez]
        have := (readLoop_iff (acc := acc ++ [t]) hp).mpr ⟨q, rfl, e4, fun u hu => hq u (List.mem_cons_of_mem _ hu), hpq2⟩
        rw [List.append_assoc] at this
        exact this
/-! the text -/
theorem monoText_pow (m : Mono) : monoText m = join [42] (m.map powText) := rfl
theorem termText_M {c : List Nat} {r : Rat} (h : 0 < r.num) : termText (mon az c) r = termTextM c r.num.natAbs r.den := by
  unfold termText termTextM
  have e1 : numberText r = numText r.num.natAbs r.den := by
    unfold numberText numText
    congr 2
    omega
  have e2 : r = 1 ↔ (r.num.natAbs = 1 ∧ r.den = 1) := by
    constructor
    · intro q; rw [q]; exact ⟨rfl, rfl⟩
    · rintro ⟨q1, q2⟩
      refine Rat.ext ?_ q2
      show r.num = 1
      omega
  rw [e1]
  by_cases m0 : mon az c = []
  · rw [if_pos m0, if_pos m0]
  · rw [if_neg m0, if_neg m0]
    by_cases q : r = 1
    · rw [if_pos q, if_pos (e2.mp q)]
      rfl
    · rw [if_neg q, if_neg fun z => q (e2.mpr z)]
      rfl
theorem ratT_neg {t : MT} (h : TOk t) : ratT t < 0 ↔ t.2.1 < 0 := by
  rw [← h.nrm.1]
  have := @Rat.num_nonneg (ratT t)
  constructor
  · intro q
    rcases Int.lt_or_le (ratT t).num 0 with g | g
    · exact g
    · exact absurd (this.mp g) (Rat.not_le.mpr q)
  · intro q
    exact Rat.not_le.mp fun g => by
      have := this.mpr g
      omega
theorem termText_tok {t : MT} (h : TOk t) : (if ratT t < 0 then termText (mon az t.1) (-(ratT t)) else termText (mon az t.1) (ratT t)) = body t := by
  have h0 := h.top
  by_cases q : ratT t < 0
  · have q2 := (ratT_neg h).mp q
    have e : (-(ratT t)).num = -t.2.1 := by rw [Rat.neg_num, h.nrm.1]
    have e2 : (-(ratT t)).den = t.2.2 := by rw [Rat.neg_den, h.nrm.2]
    rw [if_pos q, termText_M (by rw [e]; omega), e, e2]
    unfold body
    rw [Int.natAbs_neg]
  · have q2 : ¬ t.2.1 < 0 := fun z => q ((ratT_neg h).mpr z)
    rw [if_neg q, termText_M (by rw [h.nrm.1]; omega), h.nrm.1, h.nrm.2]
    rfl
def moreM (u : MT) : Bytes := 32 :: (sgn u ++ 32 :: body u)
theorem moreText_tok {t : MT} (h : TOk t) : moreText (mon az t.1, ratT t) = moreM t := by
  have e := termText_tok h
  unfold moreText moreM sgn
  by_cases q : ratT t < 0
  · rw [if_pos q] at e
    show (if ratT t < 0 then _ else _) = _
    rw [if_pos q, if_pos ((ratT_neg h).mp q), e]
    rfl
  · rw [if_neg q] at e
    show (if ratT t < 0 then _ else _) = _
    rw [if_neg q, if_neg (fun z => q ((ratT_neg h).mpr z)), e]
    rfl
def textM : MP → Bytes
  | [] => [48]
  | t :: q => (if t.2.1 < 0 then 45 :: body t else body t) ++ q.flatMap moreM
theorem text_M {q : MP} (h : ∀ t ∈ q, TOk t) : text (toPoly az q) = textM q := by
  cases q with
  | nil => rfl
  | cons t q =>
    have ht := h t (List.mem_cons_self ..)
    have e := termText_tok ht
    show (if ratT t < 0 then 45 :: termText (mon az t.1) (-(ratT t)) else termText (mon az t.1) (ratT t)) ++ (toPoly az q).flatMap moreText = (if t.2.1 < 0 then 45 :: body t else body t) ++ q.flatMap moreM
    have e2 : (toPoly az q).flatMap moreText = q.flatMap moreM := by
      unfold toPoly
      rw [List.flatMap_map, List.flatMap_def, List.flatMap_def]
      congr 1
      exact List.map_congr_left fun u hu => moreText_tok (h u (List.mem_cons_of_mem _ hu))
    rw [e2]
    congr 1
    by_cases q : ratT t < 0
    · rw [if_pos q] at e ⊢
      rw [if_pos ((ratT_neg ht).mp q), e]
    · rw [if_neg q] at e ⊢
      rw [if_neg (fun z => q ((ratT_neg ht).mpr z)), e]
theorem body_no32 {t : MT} (h : TOk t) : 32 ∉ body t := by
  have hm := (mon_ascOk h.len).1
  have pj : ∀ {m : Mono}, (∀ x ∈ m, x.1 < 26) → 32 ∉ join [42] (m.map powText) := by
    intro m
    induction m with
    | nil => intro _; simp [join]
    | cons x m ih =>
      intro hx
      have h1 := powText_no (hx x (List.mem_cons_self ..)) (b := 32) (by omega)
      have h2 := ih fun y hy => hx y (List.mem_cons_of_mem _ hy)
      cases m with
      | nil => exact h1
      | cons y m =>
        show 32 ∉ powText x ++ [42] ++ join [42] ((y :: m).map powText)
        intro q
        rcases List.mem_append.mp q with q | q
        · rcases List.mem_append.mp q with q | q
          · exact h1 q
          · simp at q
        · exact h2 q
  unfold body termTextM
  split
  · exact numText_no (by omega)
  · split
    · exact pj hm.hi
    · intro q
      rcases List.mem_append.mp q with q | q
      · exact numText_no (by omega) q
      · rcases List.mem_cons.mp q with q | q
        · omega
        · exact pj hm.hi q
theorem sgn_no32 (t : MT) : 32 ∉ sgn t := by
  unfold sgn
  split <;> simp
/-- the words of a text -/
theorem split_more : ∀ {q : MP}, (∀ t ∈ q, TOk t) → ∀ {v : Bytes}, 32 ∉ v → split 32 (v ++ q.flatMap moreM) = v :: wordsOf q
  | [], _, v, hv => by
    show split 32 (v ++ []) = [v]
    rw [List.append_nil]
    exact split_no hv
  | t :: q, h, v, hv => by
    have ht := h t (List.mem_cons_self ..)
    have e : v ++ (t :: q).flatMap moreM = v ++ 32 :: (sgn t ++ 32 :: (body t ++ q.flatMap moreM)) := by
      show v ++ ((32 :: (sgn t ++ 32 :: body t)) ++ q.flatMap moreM) = _
      simp
    rw [e, split_sep hv, split_sep (sgn_no32 t), split_more (fun u hu => h u (List.mem_cons_of_mem _ hu)) (body_no32 ht)]
    rfl
theorem body_head {t : MT} (h : TOk t) : (body t).headD 0 ≠ 45 ∧ body t ≠ [] := by
  have hm := (mon_ascOk h.len).1
  have hnum : ∀ (v : Bytes), ((numText t.2.1.natAbs t.2.2 ++ v).headD 0 ≠ 45) ∧ numText t.2.1.natAbs t.2.2 ++ v ≠ [] := fun v => by
    have hne : numText t.2.1.natAbs t.2.2 ≠ [] := fun q => by
      have := numText_head t.2.1.natAbs t.2.2
      rw [q] at this
      exact absurd this (by decide)
    have := isDig_iff.mp (numText_head t.2.1.natAbs t.2.2)
    rw [headD_append hne]
    refine ⟨by omega, fun q => hne (List.append_eq_nil_iff.mp q).1⟩
  unfold body termTextM
  split
  · have := hnum []
    rw [List.append_nil] at this
    exact this
  · rename_i m0
    split
    · cases e : mon az t.1 with
      | nil => exact absurd e m0
      | cons x m =>
        cases m with
        | nil =>
          show (97 + x.1) ≠ 45 ∧ powText x ≠ []
          exact ⟨by omega, by simp [powText]⟩
        | cons y m =>
          show (97 + x.1) ≠ 45 ∧ powText x ++ [42] ++ _ ≠ []
          exact ⟨by omega, by simp [powText]⟩
    · exact hnum _
theorem signedWords_text {t : MT} {q : MP} (h : ∀ u ∈ t :: q, TOk u) : signedWords (textM (t :: q)) = wordsOf (t :: q) := by
  have ht := h t (List.mem_cons_self ..)
  have hq : ∀ u ∈ q, TOk u := fun u hu => h u (List.mem_cons_of_mem _ hu)
  have hb := body_head ht
  unfold signedWords
  have et : textM (t :: q) = (if t.2.1 < 0 then 45 :: body t else body t) ++ q.flatMap moreM := rfl
  rw [et]
  by_cases h0 : t.2.1 < 0
  · rw [if_pos h0, split_more (v := 45 :: body t) hq (by intro z; rcases List.mem_cons.mp z with z | z; omega; exact body_no32 ht z)]
    show (if (45 : Nat) = 45 then [45] :: body t :: wordsOf q else _) = _
    rw [if_pos rfl]
    show _ = sgn t :: body t :: wordsOf q
    unfold sgn
    rw [if_pos h0]
  · rw [if_neg h0, split_more hq (body_no32 ht)]
    show (if (body t).headD 0 = 45 then _ else [43] :: body t :: wordsOf q) = _
    rw [if_neg hb.1]
    show _ = sgn t :: body t :: wordsOf q
    unfold sgn
    rw [if_neg h0]
theorem signedWords_back {s : Bytes} {t : MT} {q : MP} (h : ∀ u ∈ t :: q, TOk u) (e : signedWords s = wordsOf (t :: q)) : s = textM (t :: q) := by
  have hj := join_split 32 s
  have hne := split_ne 32 s
  have hcut := headD_cons_tail (d := []) hne
  have ht := h t (List.mem_cons_self ..)
  have hb := body_head ht
  have jw : ∀ {q : MP} (v : Bytes), join [32] (v :: wordsOf q) = v ++ q.flatMap moreM := by
    intro q
    induction q with
    | nil => intro v; show v = v ++ []; rw [List.append_nil]
    | cons u q ih =>
      intro v
      show v ++ [32] ++ (sgn u ++ [32] ++ join [32] (body u :: wordsOf q)) = v ++ ((32 :: (sgn u ++ 32 :: body u)) ++ q.flatMap moreM)
      rw [ih]
      simp
  have e' : signedWords s = sgn t :: body t :: wordsOf q := e
  unfold signedWords at e'
  show s = (if t.2.1 < 0 then 45 :: body t else body t) ++ q.flatMap moreM
  split at e'
  · rename_i hd
    obtain ⟨e1, e2⟩ := List.cons.inj e'
    obtain ⟨e3, e4⟩ := List.cons.inj e2
    have h0 : t.2.1 < 0 := by
      refine Classical.byContradiction fun q => ?_
      unfold sgn at e1
      rw [if_neg q] at e1
      exact absurd e1 (by decide)
    have hfirst : (split 32 s).headD [] = 45 :: body t := by
      cases hf : (split 32 s).headD [] with
      | nil => rw [hf] at hd; exact absurd hd (by decide)
      | cons b r =>
        rw [hf] at hd e3
        have hb' : b = 45 := hd
        have hr : r = body t := e3
        rw [hb', hr]
    rw [if_pos h0, ← hj, hcut, hfirst, e4, jw]
  · rename_i hd
    obtain ⟨e1, e2⟩ := List.cons.inj e'
    have h0 : ¬ t.2.1 < 0 := by
      intro q
      unfold sgn at e1
      rw [if_pos q] at e1
      exact absurd e1 (by decide)
    rw [if_neg h0, ← hj, e2, jw]
structure GoodR (q : MP) : Prop where
  good : GoodP 26 q
  nrm : ∀ t ∈ q, NormT t
theorem GoodR.tok {q : MP} (h : GoodR q) : ∀ t ∈ q, TOk t := fun t ht => ⟨h.good.len t ht, h.good.pos t ht, h.good.top t ht, h.nrm t ht⟩
theorem read48 : readLoop [] (signedWords [48]) = none := by decide +kernel
theorem readPolyM_iff {s : Bytes} {q : MP} : readPolyM s = some q ↔ GoodR q ∧ s = text (toPoly az q) := by
  constructor
  · intro h
    unfold readPolyM at h
    split at h
    · rename_i e
      cases h
      exact ⟨⟨⟨(fun _ h => nomatch h), (fun _ h => nomatch h), (fun _ h => nomatch h), List.Pairwise.nil⟩, (fun _ h => nomatch h)⟩, e⟩
    · obtain ⟨r, er, e, hr, hp⟩ := (readLoop_iff List.Pairwise.nil).mp h
      rw [List.nil_append] at hp er
      subst er
      refine ⟨⟨⟨fun t ht => (hr t ht).len, fun t ht => (hr t ht).pos, fun t ht => (hr t ht).top, hp⟩, fun t ht => (hr t ht).nrm⟩, ?_⟩
      rw [text_M hr]
      cases q with
      | nil =>
        exfalso
        unfold signedWords at e
        split at e <;> cases e
      | cons t r => exact signedWords_back hr e
  · rintro ⟨h, rfl⟩
    have ht := h.tok
    rw [text_M ht]
    cases q with
    | nil => rfl
    | cons t q =>
      have hw := signedWords_text ht
      have hl := (readLoop_iff (ws := wordsOf (t :: q)) (acc := []) List.Pairwise.nil).mpr ⟨t :: q, rfl, rfl, ht, h.good.srt⟩
      rw [← hw] at hl
      unfold readPolyM
      split
      · rename_i e
        rw [e, read48] at hl
        cases hl
      · exact hl
end E94
set_option linter.unusedVariables false
set_option linter.unusedSimpArgs false
namespace E94
open AlBase Al04
/-! T3: the specification's reading is the program's -/
/-! what is read is canonical, over a to z -/
def OvM (m : Mono) : Prop := ∃ c : List Nat, c.length = 26 ∧ m = mon az c
theorem ovM_nil : OvM [] := ⟨List.replicate 26 0, by simp, (mon_zero az).symm⟩
theorem ovM_one {a n : Nat} (ha : a < 26) (hn : 0 < n) : OvM [(a, n)] := by
  have h : Asc 0 [(a, n)] := ⟨List.pairwise_singleton .., fun x _ => Nat.zero_le _, fun x hx => by rw [List.mem_singleton.mp hx]; exact ha, fun x hx => by rw [List.mem_singleton.mp hx]; exact hn⟩
  exact ⟨_, by rw [foldSet_len, List.length_replicate], (asc_mon h).symm⟩
theorem ovM_times {m n : Mono} (hm : OvM m) (hn : OvM n) : OvM (times m n) := by
  obtain ⟨a, ha, rfl⟩ := hm
  obtain ⟨b, hb, rfl⟩ := hn
  exact ⟨addC a b, by rw [addC_len (by rw [ha, hb]), ha], mon_times az_sorted (by rw [ha]; rfl) (by rw [hb]; rfl)⟩
structure CO (p : Poly) : Prop where
  can : Can p
  ov : ∀ x ∈ p, OvM x.1
theorem CO.nil : CO [] := ⟨.nil, (fun _ h => nomatch h)⟩
theorem add_ov : ∀ {q p : Poly}, (∀ x ∈ p, OvM x.1) → (∀ x ∈ q, OvM x.1) → ∀ x ∈ add p q, OvM x.1
  | [], p, hp, _ => hp
  | y :: q, p, hp, hq => add_ov (q := q) (p := plus y.1 y.2 p) (fun x hx => by
      rcases plus_mem hx with e | h
      · rw [e]; exact hq y (List.mem_cons_self ..)
      · exact hp x h) fun x hx => hq x (List.mem_cons_of_mem _ hx)
theorem scale_ov {c : Rat} {p : Poly} (h : ∀ x ∈ p, OvM x.1) : ∀ x ∈ scale c p, OvM x.1 := by
  unfold scale
  split
  · intro x hx; cases hx
  · intro x hx
    obtain ⟨y, hy, rfl⟩ := List.mem_map.mp hx
    exact h y hy
theorem CO.add {p q : Poly} (hp : CO p) (hq : CO q) : CO (add p q) := ⟨add_can hp.can, add_ov hp.ov hq.ov⟩
theorem CO.neg {p : Poly} (hp : CO p) : CO (neg p) := ⟨neg_can hp.can, scale_ov hp.ov⟩
theorem CO.sub {p q : Poly} (hp : CO p) (hq : CO q) : CO (sub p q) := ⟨sub_can hp.can, add_ov hp.ov (scale_ov hq.ov)⟩
theorem termTimes_ov {x : Mono × Rat} {q : Poly} (hx : OvM x.1) (hq : ∀ y ∈ q, OvM y.1) : ∀ y ∈ termTimes x q, OvM y.1 := by
  intro y hy
  obtain ⟨z, hz, rfl⟩ := List.mem_map.mp hy
  exact ovM_times hx (scale_ov hq z hz)
theorem CO.mul {p q : Poly} (hp : CO p) (hq : CO q) : CO (mul p q) := by
  have key : ∀ (p : Poly) (s : Poly), CO s → (∀ x ∈ p, OvM x.1) → CO (p.foldl (fun (s : Poly) (x : Mono × Rat) => AlBase.add s (termTimes x q)) s) := by
    intro p
    induction p with
    | nil => intro s hs _; exact hs
    | cons x p ih =>
      intro s hs h
      exact ih _ ⟨add_can hs.can, add_ov hs.ov (termTimes_ov (h x (List.mem_cons_self ..)) hq.ov)⟩ fun y hy => h y (List.mem_cons_of_mem _ hy)
  exact key p [] .nil hp.ov
theorem CO.const (c : Rat) : CO (const c) := by
  unfold AlBase.const
  refine ⟨plus_can .nil, fun x hx => ?_⟩
  rcases plus_mem hx with e | h
  · rw [e]; exact ovM_nil
  · cases h
theorem CO.single {m : Mono} (h : OvM m) : CO [(m, 1)] := ⟨⟨List.pairwise_singleton .., fun x hx => by rw [List.mem_singleton.mp hx]; show (1 : Rat) ≠ 0; decide⟩, fun x hx => by rw [List.mem_singleton.mp hx]; exact h⟩
theorem readLetter_lt {w : Bytes} {a : Nat} (h : readLetter w = some a) : a < 26 := by
  unfold readLetter at h
  split at h
  · split at h
    · cases h; omega
    · cases h
  · cases h
theorem readFactor_co {w : Bytes} {p : Poly} (h : readFactor w = some p) : CO p := by
  unfold readFactor at h
  split at h
  · split at h
    · rename_i a ha
      cases h
      exact CO.single (ovM_one (readLetter_lt ha) Nat.one_pos)
    · obtain ⟨c, _, rfl⟩ := Option.map_eq_some_iff.mp h
      exact CO.const c
  · rename_i l e _
    cases ha : readLetter l with
    | none => rw [ha] at h; cases h
    | some a =>
      rw [ha] at h
      cases hn : readDigits e with
      | none => rw [hn] at h; cases h
      | some n =>
        rw [hn] at h
        have h' : (if n = 0 then one else [([(a, n)], 1)]) = p := Option.some.inj h
        rw [← h']
        split
        · exact CO.single ovM_nil
        · exact CO.single (ovM_one (readLetter_lt ha) (by omega))
  · cases h
theorem mapM_co {f : Bytes → Option Poly} (hf : ∀ w p, f w = some p → CO p) : ∀ {ws : List Bytes} {ps : List Poly}, ws.mapM f = some ps → ∀ p ∈ ps, CO p
  | [], ps, h => by
    have : ps = [] := by simpa using h.symm
    rw [this]
    intro p hp; cases hp
  | w :: ws, ps, h => by
    rw [List.mapM_cons] at h
    cases hw : f w with
    | none => rw [hw] at h; cases h
    | some q =>
      cases hr : ws.mapM f with
      | none => rw [hw, hr] at h; cases h
      | some qs =>
        rw [hw, hr] at h
        have : q :: qs = ps := Option.some.inj h
        rw [← this]
        intro p hp
        rcases List.mem_cons.mp hp with rfl | hp
        · exact hf w _ hw
        · exact mapM_co hf hr p hp
theorem readTerm_co {w : Bytes} {p : Poly} (h : readTerm w = some p) : CO p := by
  unfold readTerm at h
  cases hm : (split 42 w).mapM readFactor with
  | none => rw [hm] at h; cases h
  | some ps =>
    rw [hm] at h
    have e : ps.foldl mul one = p := Option.some.inj h
    have hps := mapM_co (fun w p => readFactor_co) hm
    have key : ∀ (ps : List Poly) (s : Poly), CO s → (∀ q ∈ ps, CO q) → CO (ps.foldl mul s) := by
      intro ps
      induction ps with
      | nil => intro s hs _; exact hs
      | cons q ps ih => intro s hs hq; exact ih _ (hs.mul (hq q (List.mem_cons_self ..))) fun r hr => hq r (List.mem_cons_of_mem _ hr)
    rw [← e]
    exact key ps one (CO.single ovM_nil) hps
theorem readMore_co : ∀ {l : List Bytes} {s p : Poly}, CO s → readMore s l = some p → CO p
  | [], s, p, hs, h => by
    have : s = p := Option.some.inj h
    rw [← this]; exact hs
  | [_], s, p, hs, h => by cases h
  | sign :: w :: l, s, p, hs, h => by
    unfold readMore at h
    split at h
    · cases ht : readTerm w with
      | none => rw [ht] at h; cases h
      | some q => rw [ht] at h; exact readMore_co (hs.add (readTerm_co ht)) h
    · split at h
      · cases ht : readTerm w with
        | none => rw [ht] at h; cases h
        | some q => rw [ht] at h; exact readMore_co (hs.sub (readTerm_co ht)) h
      · cases h
theorem readSum_co {t : Bytes} {p : Poly} (h : readSum t = some p) : CO p := by
  unfold readSum at h
  split at h
  · cases h
  · rename_i w l _
    split at h
    · cases ht : readTerm w.tail with
      | none => rw [ht] at h; cases h
      | some q => rw [ht] at h; exact readMore_co (readTerm_co ht).neg h
    · cases ht : readTerm w with
      | none => rw [ht] at h; cases h
      | some q => rw [ht] at h; exact readMore_co (readTerm_co ht) h
/-- a canonical one over a to z is the program's -/
theorem co_toPoly : ∀ {p : Poly}, CO p → ∃ q : MP, GoodR q ∧ toPoly az q = p := by
  intro p h
  have ex : ∀ (p : Poly), (∀ x ∈ p, OvM x.1) → ∃ q : MP, toPoly az q = p ∧ ∀ t ∈ q, t.1.length = 26 ∧ (ratT t).num = t.2.1 ∧ (ratT t).den = t.2.2 := by
    intro p
    induction p with
    | nil => intro _; exact ⟨[], rfl, (fun _ h => nomatch h)⟩
    | cons x p ih =>
      intro h
      obtain ⟨q, e, hq⟩ := ih fun y hy => h y (List.mem_cons_of_mem _ hy)
      obtain ⟨c, hc, hm⟩ := h x (List.mem_cons_self ..)
      have hr : ratT (c, x.2.num, x.2.den) = x.2 := by
        show ((x.2.num : Int) : Rat) / ((x.2.den : Int) : Rat) = x.2
        rw [← Rat.divInt_eq_div, Rat.num_divInt_den]
      refine ⟨(c, x.2.num, x.2.den) :: q, ?_, fun t ht => ?_⟩
      · show (mon az c, ratT (c, x.2.num, x.2.den)) :: toPoly az q = x :: p
        rw [hr, ← hm, e]
      · rcases List.mem_cons.mp ht with rfl | ht
        · rw [hr]; exact ⟨hc, rfl, rfl⟩
        · exact hq t ht
  obtain ⟨q, e, hq⟩ := ex p h.ov
  refine ⟨q, ⟨⟨fun t ht => (hq t ht).1, fun t ht => ?_, fun t ht => ?_, ?_⟩, fun t ht => (hq t ht).2⟩, e⟩
  · rw [← (hq t ht).2.2]
    exact Rat.den_pos _
  · rw [← (hq t ht).2.1]
    intro z
    have hm : (mon az t.1, ratT t) ∈ p := by rw [← e]; exact List.mem_map_of_mem (f := fun t : MT => (mon az t.1, ratT t)) ht
    exact h.can.2 _ hm (Rat.num_eq_zero.mp z)
  · have hs := h.can.1
    rw [← e] at hs
    refine (List.pairwise_map.mp hs).imp_of_mem ?_
    intro t u ht hu q1
    have : above (mon az t.1) (mon az u.1) = true := q1
    rw [mon_aboveC az_sorted (by rw [(hq t ht).1]; rfl) (by rw [(hq u hu).1]; rfl)] at this
    exact this
/-! a text read back -/
theorem readDigits_digits (n : Nat) : readDigits (digits n) = some n := by
  have h := digits_ok n
  unfold readDigits
  rw [if_neg h.ne]
  have e : ((digits n).all fun b => decide (48 ≤ b) && decide (b ≤ 57)) = true := h.all
  rw [e]
  simp
  exact h.val
theorem readNumber_numText {a b : Nat} (hb : 0 < b) : readNumber (numText a b) = some ((a : Rat) / (b : Rat)) := by
  unfold readNumber numText
  by_cases b1 : b = 1
  · subst b1
    rw [if_pos rfl, List.append_nil, split_no (digits_no (by omega))]
    show (readDigits (digits a)).map _ = _
    rw [readDigits_digits]
    show some (a : Rat) = some ((a : Rat) / ((1 : Nat) : Rat))
    congr 1
    have : ((1 : Nat) : Rat) = 1 := rfl
    rw [this]
    grind
  · rw [if_neg b1, split_sep (digits_no (by omega)), split_no (digits_no (by omega))]
    show ((readDigits (digits a)).bind fun x => (readDigits (digits b)).bind fun y => if y = 0 then none else some ((x : Rat) / (y : Rat))) = _
    rw [readDigits_digits, readDigits_digits]
    show (if b = 0 then none else some ((a : Rat) / (b : Rat))) = _
    rw [if_neg (by omega)]
theorem readLetter_pow {a : Nat} (ha : a < 26) : readLetter [97 + a] = some a := by
  show (if 97 ≤ 97 + a ∧ 97 + a ≤ 122 then some (97 + a - 97) else none) = _
  rw [if_pos (by omega)]
  congr 1
  omega
theorem readFactor_pow {x : Nat × Nat} (h1 : x.1 < 26) (h2 : 0 < x.2) : readFactor (powText x) = some [([x], 1)] := by
  unfold readFactor powText
  by_cases e : x.2 = 1
  · rw [if_pos e, split_no (by simp; omega)]
    show (match readLetter [97 + x.1] with | some a => some (letter a) | none => _) = _
    rw [readLetter_pow h1]
    show some [([(x.1, 1)], 1)] = _
    rw [← e]
  · rw [if_neg e]
    have := split_sep (sep := 94) (w := [97 + x.1]) (by simp; omega) (digits x.2)
    rw [show (97 + x.1) :: 94 :: digits x.2 = [97 + x.1] ++ 94 :: digits x.2 from rfl, this, split_no (digits_no (by omega))]
    show ((readLetter [97 + x.1]).bind fun a => (readDigits (digits x.2)).map fun n => if n = 0 then one else [([(a, n)], 1)]) = _
    rw [readLetter_pow h1, readDigits_digits]
    show some (if x.2 = 0 then one else [([(x.1, x.2)], 1)]) = _
    rw [if_neg (by omega)]
theorem readFactor_num {a b : Nat} (hb : 0 < b) : readFactor (numText a b) = some (const ((a : Rat) / (b : Rat))) := by
  unfold readFactor
  rw [split_no (numText_no (by omega))]
  have hl : readLetter (numText a b) = none := by
    have hd := isDig_iff.mp (numText_head a b)
    cases e : numText a b with
    | nil => rfl
    | cons k r =>
      rw [e] at hd
      cases r with
      | nil =>
        show (if 97 ≤ k ∧ k ≤ 122 then some (k - 97) else none) = none
        have : (48 ≤ k ∧ k ≤ 57) := hd
        rw [if_neg (by omega)]
      | cons => rfl
  show (match readLetter (numText a b) with | some a => some (letter a) | none => (readNumber (numText a b)).map const) = _
  rw [hl, readNumber_numText hb]
  rfl
theorem mul_single {m n : Mono} {c d : Rat} (hc : c ≠ 0) (hd : d ≠ 0) : mul [(m, c)] [(n, d)] = [(times m n, c * d)] := by
  have h : c * d ≠ 0 := by grind
  show add [] (termTimes (m, c) [(n, d)]) = _
  have e : termTimes (m, c) [(n, d)] = [(times m n, c * d)] := by
    show (scale c [(n, d)]).map _ = _
    unfold scale
    rw [if_neg hc]
    rfl
  rw [e]
  show plus (times m n) (c * d) [] = _
  unfold plus
  rw [if_neg h]
theorem times_snoc : ∀ {m : Mono} {x : Nat × Nat}, (∀ y ∈ m, y.1 < x.1) → times m [x] = m ++ [x]
  | [], x, _ => rfl
  | y :: m, x, h => by
    have ih := @times_snoc m x fun z hz => h z (List.mem_cons_of_mem _ hz)
    show put x.1 x.2 ((y.1, y.2) :: m) = _
    rw [put_past (h y (List.mem_cons_self ..))]
    show y :: put x.1 x.2 m = y :: (m ++ [x])
    congr 1
theorem fold_powers : ∀ {m acc : Mono} {c : Rat}, c ≠ 0 → (acc ++ m).Pairwise (fun x y => x.1 < y.1) → (m.map fun x => [(([x] : Mono), (1 : Rat))]).foldl mul [(acc, c)] = [(acc ++ m, c)]
  | [], acc, c, _, _ => by rw [List.append_nil]; rfl
  | x :: m, acc, c, hc, h => by
    rw [List.map_cons, List.foldl_cons, mul_single hc (by decide), times_snoc fun y hy => (List.pairwise_append.mp h).2.2 y hy x (List.mem_cons_self ..), Rat.mul_one]
    have := fold_powers (m := m) (acc := acc ++ [x]) hc (by rw [List.append_assoc]; exact h)
    rw [List.append_assoc] at this
    exact this
theorem mapM_some {α β : Type} {f : α → Option β} {g : α → β} : ∀ {l : List α}, (∀ x ∈ l, f x = some (g x)) → l.mapM f = some (l.map g)
  | [], _ => rfl
  | x :: l, h => by
    rw [List.mapM_cons, h x (List.mem_cons_self ..), mapM_some fun y hy => h y (List.mem_cons_of_mem _ hy)]
    rfl
theorem readTerm_text {c : List Nat} {a b : Nat} (h : TermOk c a b) : readTerm (termTextM c a b) = some [(mon az c, (a : Rat) / (b : Rat))] := by
  have hm := (mon_ascOk h.len).1
  have pno : ∀ v ∈ (mon az c).map powText, 42 ∉ v := fun v hv => by
    obtain ⟨x, hx, rfl⟩ := List.mem_map.mp hv
    exact powText_no (hm.hi x hx) (by omega)
  have hpow : ((mon az c).map powText).mapM readFactor = some ((mon az c).map fun x => [(([x] : Mono), (1 : Rat))]) := by
    have : ((mon az c).map powText).mapM readFactor = (mon az c).mapM fun x => readFactor (powText x) := by rw [List.mapM_map]; rfl
    rw [this]
    exact mapM_some fun x hx => readFactor_pow (hm.hi x hx) (hm.pos x hx)
  have b0 : (b : Rat) ≠ 0 := by
    intro q
    have : b = 0 := by exact_mod_cast q
    have := h.pos
    omega
  have a0 : (a : Rat) ≠ 0 := by
    intro q
    have : a = 0 := by exact_mod_cast q
    have := h.top
    omega
  have r0 : (a : Rat) / (b : Rat) ≠ 0 := by grind
  have hconst : const ((a : Rat) / (b : Rat)) = [([], (a : Rat) / (b : Rat))] := by
    unfold const plus
    rw [if_neg r0]
  have h1 : mul one [([], (a : Rat) / (b : Rat))] = [([], (a : Rat) / (b : Rat))] := by
    show mul [([], 1)] [([], (a : Rat) / (b : Rat))] = _
    rw [mul_single (by decide) r0, Rat.one_mul]
    rfl
  unfold readTerm termTextM
  by_cases m0 : mon az c = []
  · rw [if_pos m0, split_no (numText_no (by omega)), List.mapM_cons, readFactor_num h.pos, m0, hconst]
    show some (([[([], (a : Rat) / (b : Rat))]] : List Poly).foldl mul one) = _
    rw [List.foldl_cons, h1]
    rfl
  · rw [if_neg m0]
    have pne : (mon az c).map powText ≠ [] := fun z => m0 (List.map_eq_nil_iff.mp z)
    by_cases q : a = 1 ∧ b = 1
    · rw [if_pos q, split_join pne pno, hpow]
      show some (((mon az c).map fun x => [(([x] : Mono), (1 : Rat))]).foldl mul [([], 1)]) = _
      rw [fold_powers (acc := []) (by decide) hm.ord, q.1, q.2]
      have : ((1 : Nat) : Rat) / ((1 : Nat) : Rat) = 1 := by decide +kernel
      rw [this]
      rfl
    · rw [if_neg q, split_sep (numText_no (by omega)), split_join pne pno, List.mapM_cons, readFactor_num h.pos, hpow, hconst]
      show some (([([], (a : Rat) / (b : Rat))] :: (mon az c).map fun x => [(([x] : Mono), (1 : Rat))]).foldl mul one) = _
      rw [List.foldl_cons, h1, fold_powers (acc := []) r0 hm.ord]
      rfl
theorem plus_last {m : Mono} {c : Rat} (hc : c ≠ 0) : ∀ {s : Poly}, (∀ x ∈ s, above x.1 m = true) → plus m c s = s ++ [(m, c)]
  | [], _ => by unfold plus; rw [if_neg hc]; rfl
  | (n, d) :: s, h => by
    have h1 := h (n, d) (List.mem_cons_self ..)
    unfold plus
    rw [if_neg hc, if_neg (Ne.symm (above_ne h1)), if_neg (by rw [above_asymm h1]; exact Bool.false_ne_true), plus_last hc fun x hx => h x (List.mem_cons_of_mem _ hx)]
    rfl
theorem ratT_abs {t : MT} (h : TOk t) : ratT t = if t.2.1 < 0 then -((t.2.1.natAbs : Rat) / (t.2.2 : Rat)) else (t.2.1.natAbs : Rat) / (t.2.2 : Rat) := by
  unfold ratT
  have e2 : ((t.2.2 : Int) : Rat) = (t.2.2 : Rat) := rfl
  rw [e2]
  split
  · rename_i q
    have : t.2.1 = -(t.2.1.natAbs : Int) := by omega
    have e1 : (t.2.1 : Rat) = -((t.2.1.natAbs : Nat) : Rat) := by
      calc (t.2.1 : Rat) = ((-(t.2.1.natAbs : Int) : Int) : Rat) := by rw [← this]
        _ = _ := by rw [Rat.intCast_neg]; rfl
    rw [e1]
    grind
  · rename_i q
    have : t.2.1 = (t.2.1.natAbs : Int) := by omega
    have e1 : (t.2.1 : Rat) = ((t.2.1.natAbs : Nat) : Rat) := by
      calc (t.2.1 : Rat) = (((t.2.1.natAbs : Int) : Int) : Rat) := by rw [← this]
        _ = _ := rfl
    rw [e1]
theorem neg_single (m : Mono) (c : Rat) : neg [(m, c)] = [(m, -c)] := by
  unfold neg scale
  rw [if_neg (by decide)]
  show [(m, -1 * c)] = _
  congr 2
  grind
theorem readMore_words : ∀ {q acc : MP}, (∀ t ∈ acc ++ q, TOk t) → (acc ++ q).Pairwise (fun t u => cntGt t.1 u.1 = true) → readMore (toPoly az acc) (wordsOf q) = some (toPoly az (acc ++ q))
  | [], acc, _, _ => by rw [List.append_nil]; rfl
  | t :: q, acc, h, hp => by
    have ht := h t (List.mem_append_right _ (List.mem_cons_self ..))
    have hab : ∀ x ∈ toPoly az acc, above x.1 (mon az t.1) = true := fun x hx => by
      obtain ⟨u, hu, rfl⟩ := List.mem_map.mp hx
      have hu' := h u (List.mem_append_left _ hu)
      show above (mon az u.1) (mon az t.1) = true
      rw [mon_aboveC az_sorted (by rw [hu'.len]; rfl) (by rw [ht.len]; rfl)]
      exact (List.pairwise_append.mp hp).2.2 u hu t (List.mem_cons_self ..)
    have r0 : ratT t ≠ 0 := ratT_ne ht.pos ht.top
    have hadd : plus (mon az t.1) (ratT t) (toPoly az acc) = toPoly az (acc ++ [t]) := by
      rw [plus_last r0 hab]
      unfold toPoly
      rw [List.map_append]
      rfl
    have ih := readMore_words (q := q) (acc := acc ++ [t]) (by rw [List.append_assoc]; exact h) (by rw [List.append_assoc]; exact hp)
    rw [List.append_assoc] at ih
    have ea := ratT_abs ht
    show (if sgn t = [43] then (readTerm (body t)).bind fun p => readMore (add (toPoly az acc) p) (wordsOf q) else if sgn t = [45] then (readTerm (body t)).bind fun p => readMore (sub (toPoly az acc) p) (wordsOf q) else none) = _
    have hb : readTerm (body t) = some [(mon az t.1, (t.2.1.natAbs : Rat) / (t.2.2 : Rat))] := readTerm_text ht.term
    by_cases h0 : t.2.1 < 0
    · rw [if_pos h0] at ea
      have es : sgn t = [45] := by unfold sgn; rw [if_pos h0]
      rw [es, if_neg (by decide), if_pos rfl, hb]
      show readMore (add (toPoly az acc) (neg [(mon az t.1, (t.2.1.natAbs : Rat) / (t.2.2 : Rat))])) (wordsOf q) = _
      rw [neg_single, ← ea]
      show readMore (plus (mon az t.1) (ratT t) (toPoly az acc)) (wordsOf q) = _
      rw [hadd]
      exact ih
    · rw [if_neg h0] at ea
      have es : sgn t = [43] := by unfold sgn; rw [if_neg h0]
      rw [es, if_pos rfl, hb, ← ea]
      show readMore (plus (mon az t.1) (ratT t) (toPoly az acc)) (wordsOf q) = _
      rw [hadd]
      exact ih
theorem readSum_text {q : MP} (h : GoodR q) : readSum (text (toPoly az q)) = some (toPoly az q) := by
  have hq := h.tok
  rw [text_M hq]
  cases q with
  | nil => decide +kernel
  | cons t q =>
    have ht := hq t (List.mem_cons_self ..)
    have hq' : ∀ u ∈ q, TOk u := fun u hu => hq u (List.mem_cons_of_mem _ hu)
    have hb : readTerm (body t) = some [(mon az t.1, (t.2.1.natAbs : Rat) / (t.2.2 : Rat))] := readTerm_text ht.term
    have hm := readMore_words (q := q) (acc := [t]) hq h.good.srt
    have ea := ratT_abs ht
    have et : textM (t :: q) = (if t.2.1 < 0 then 45 :: body t else body t) ++ q.flatMap moreM := rfl
    rw [et]
    unfold readSum
    by_cases h0 : t.2.1 < 0
    · rw [if_pos h0] at ea ⊢
      rw [split_more (v := 45 :: body t) hq' (by intro z; rcases List.mem_cons.mp z with z | z; omega; exact body_no32 ht z)]
      show (if (45 : Nat) = 45 then (readTerm (body t)).bind fun p => readMore (neg p) (wordsOf q) else _) = _
      rw [if_pos rfl, hb]
      show readMore (neg [(mon az t.1, (t.2.1.natAbs : Rat) / (t.2.2 : Rat))]) (wordsOf q) = _
      rw [neg_single, ← ea]
      exact hm
    · rw [if_neg h0] at ea ⊢
      rw [split_more hq' (body_no32 ht)]
      show (if (body t).headD 0 = 45 then _ else (readTerm (body t)).bind fun p => readMore p (wordsOf q)) = _
      rw [if_neg (body_head ht).1, hb, ← ea]
      exact hm
/-- **the two readings are one** -/
theorem read_is (t : Bytes) : AlBase.read t = (readPolyM t).map (toPoly az) := by
  cases h : readPolyM t with
  | some q =>
    obtain ⟨hq, e⟩ := readPolyM_iff.mp h
    unfold AlBase.read
    rw [e, readSum_text hq]
    show (if text (toPoly az q) = text (toPoly az q) then some (toPoly az q) else none) = _
    rw [if_pos rfl]
    rfl
  | none =>
    unfold AlBase.read
    cases hs : readSum t with
    | none => rfl
    | some p =>
      show (if text p = t then some p else none) = none
      rw [if_neg]
      intro e
      obtain ⟨q, hq, rfl⟩ := co_toPoly (readSum_co hs)
      have := readPolyM_iff.mpr ⟨hq, e.symm⟩
      rw [h] at this
      cases this
end E94
set_option linter.unusedVariables false
set_option linter.unusedSimpArgs false
namespace E94
open AlBase Al04
/-! T4: refusals, the told letters, the answer of follows and of when -/
theorem insertLetter_mem {a x : Nat} : ∀ {l : List Nat}, x ∈ insertLetter a l ↔ x = a ∨ x ∈ l
  | [] => by simp [insertLetter]
  | b :: l => by
    unfold insertLetter
    split
    · simp
    · split
      · rename_i h1 h2
        subst h2
        simp
      · rw [List.mem_cons, insertLetter_mem, List.mem_cons]
        grind
theorem letters_mem {p : Poly} {a : Nat} : a ∈ letters p ↔ ∃ x ∈ p, ∃ y ∈ x.1, y.1 = a := by
  have in1 : ∀ (m : Mono) (t : List Nat), a ∈ m.foldl (fun (t : List Nat) (y : Nat × Nat) => insertLetter y.1 t) t ↔ (∃ y ∈ m, y.1 = a) ∨ a ∈ t := by
    intro m
    induction m with
    | nil => intro t; simp
    | cons y m ih =>
      intro t
      rw [List.foldl_cons, ih, insertLetter_mem]
      simp only [List.mem_cons, exists_eq_or_imp]
      grind
  have in2 : ∀ (p : Poly) (s : List Nat), a ∈ p.foldl (fun (s : List Nat) (x : Mono × Rat) => x.1.foldl (fun (t : List Nat) (y : Nat × Nat) => insertLetter y.1 t) s) s ↔ (∃ x ∈ p, ∃ y ∈ x.1, y.1 = a) ∨ a ∈ s := by
    intro p
    induction p with
    | nil => intro s; simp
    | cons x p ih =>
      intro s
      rw [List.foldl_cons, ih, in1]
      simp only [List.mem_cons, exists_eq_or_imp]
      clear ih in1
      generalize (∃ y, y ∈ x.1 ∧ y.1 = a) = A
      generalize (∃ z, z ∈ p ∧ ∃ y, y ∈ z.1 ∧ y.1 = a) = B
      constructor
      · rintro (h | h | h)
        · exact .inl (.inr h)
        · exact .inl (.inl h)
        · exact .inr h
      · rintro ((h | h) | h)
        · exact .inr (.inl h)
        · exact .inl h
        · exact .inr (.inr h)
  unfold letters
  rw [in2]
  simp
theorem within_iff {l : List Nat} {p : Poly} : within l p = true ↔ ∀ x ∈ p, ∀ y ∈ x.1, y.1 ∈ l := by
  unfold within
  rw [List.all_eq_true]
  constructor
  · intro h x hx y hy
    have := h y.1 (letters_mem.mpr ⟨x, hx, y, hy, rfl⟩)
    simpa using this
  · intro h a ha
    obtain ⟨x, hx, y, hy, rfl⟩ := letters_mem.mp ha
    simpa using h x hx y hy
/-- some letter of the 26 is there that isn't told -/
def otherM (l : List Nat) (q : MP) : Bool := q.any fun t => (List.range 26).any fun j => decide (0 < t.1.getD j 0) && !l.contains j
theorem otherM_within {l : List Nat} {q : MP} (h : GoodR q) : within l (toPoly az q) = !otherM l q := by
  have key : within l (toPoly az q) = true ↔ otherM l q = false := by
    rw [within_iff]
    unfold otherM
    rw [List.any_eq_false]
    constructor
    · intro hw t ht
      rw [Bool.not_eq_true, List.any_eq_false]
      intro j hj q1
      have := Bool.and_eq_true_iff.mp q1
      have h1 : 0 < t.1.getD j 0 := by simpa using this.1
      have h2 : j ∉ l := by simpa using this.2
      exact h2 (hw (mon az t.1, ratT t) (List.mem_map_of_mem (f := fun t : MT => (mon az t.1, ratT t)) ht) (j, t.1.getD j 0) ((mem_mon (h.good.len t ht)).mpr ⟨List.mem_range.mp hj, rfl, by show t.1.getD j 0 ≠ 0; omega⟩))
    · intro ho x hx y hy
      obtain ⟨t, ht, rfl⟩ := List.mem_map.mp hx
      have hm := (mem_mon (h.good.len t ht)).mp hy
      have h1 := ho t ht
      rw [Bool.not_eq_true, List.any_eq_false] at h1
      have h2 := h1 y.1 (List.mem_range.mpr hm.1)
      refine Classical.byContradiction fun hn => h2 ?_
      have h3 : 0 < t.1.getD y.1 0 := by rw [hm.2.1]; omega
      rw [decide_eq_true h3]
      simpa using hn
  cases e : otherM l q with
  | true =>
    cases w : within l (toPoly az q) with
    | true => rw [key.mp w] at e; cases e
    | false => rfl
  | false => exact key.mpr e
def tooLargeM (q : MP) : Bool := decide (5 < degM q) || (decide (12 < q.length) || q.any fun t => decide (9999 < t.2.1.natAbs) || decide (9999 < t.2.2))
theorem tooLargeM_fits {q : MP} (h : GoodR q) : fits (toPoly az q) = !tooLargeM q := by
  unfold fits tooLargeM
  have e1 : polyDegree (toPoly az q) = degM q := toPoly_degree az_sorted h.good
  have e2 : (toPoly az q).length = q.length := List.length_map ..
  have e3 : ((toPoly az q).all fun x => numberOk x.2) = !(q.any fun t => decide (9999 < t.2.1.natAbs) || decide (9999 < t.2.2)) := by
    unfold toPoly
    rw [List.all_map, List.not_any_eq_all_not]
    rw [Bool.eq_iff_iff, List.all_eq_true, List.all_eq_true]
    constructor
    · intro hq t ht
      have := hq t ht
      simp only [Function.comp, numberOk] at this
      rw [(h.nrm t ht).1, (h.nrm t ht).2] at this
      simp at this ⊢
      omega
    · intro hq t ht
      have := hq t ht
      simp only [Function.comp, numberOk]
      rw [(h.nrm t ht).1, (h.nrm t ht).2]
      simp at this ⊢
      omega
  rw [e1, e2, e3, Bool.not_or, Bool.not_or]
  congr 1
  · rw [← decide_not]; congr 1; simp
  · congr 1
    rw [← decide_not]; congr 1; simp
/-! the told letters -/
def pickC (l c : List Nat) : List Nat := l.map fun a => c.getD a 0
def pickM (l : List Nat) (q : MP) : MP := q.map fun t => (pickC l t.1, t.2)
theorem mem_zip_map {l : List Nat} {f : Nat → Nat} {x : Nat × Nat} : x ∈ l.zip (l.map f) ↔ x.1 ∈ l ∧ x.2 = f x.1 := by
  have e : l.zip (l.map f) = l.map fun a => (a, f a) := by
    induction l with
    | nil => rfl
    | cons a l ih => rw [List.map_cons, List.zip_cons_cons, ih]; rfl
  rw [e, List.mem_map]
  constructor
  · rintro ⟨a, ha, rfl⟩; exact ⟨ha, rfl⟩
  · rintro ⟨h1, h2⟩; exact ⟨x.1, h1, Prod.ext rfl h2.symm⟩
theorem mon_sorted {l c : List Nat} (hl : l.Pairwise (· < ·)) (hc : c.length = l.length) : (mon l c).Pairwise fun x y => x.1 < y.1 := by
  rw [mon_drop]
  refine List.Pairwise.filter _ ?_
  have : ((l.zip c).map (·.1)).Pairwise (· < ·) := by
    rw [List.map_fst_zip (by omega)]
    exact hl
  exact List.pairwise_map.mp this
theorem mon_pick {l c : List Nat} (hl : l.Pairwise (· < ·)) (h26 : ∀ a ∈ l, a < 26) (hc : c.length = 26) (hw : ∀ y ∈ mon az c, y.1 ∈ l) : mon l (pickC l c) = mon az c := by
  refine sorted_unique (r := fun x y => x.1 < y.1) (fun a => Nat.lt_irrefl _) (fun h1 h2 => Nat.lt_trans h1 h2) (mon_sorted hl (by simp [pickC])) (mon_asc hc) fun x => ?_
  rw [mem_mon hc, mon_drop, List.mem_filter]
  unfold pickC
  rw [mem_zip_map]
  constructor
  · rintro ⟨⟨h1, h2⟩, h3⟩
    exact ⟨h26 x.1 h1, h2.symm, by simpa using h3⟩
  · rintro ⟨h1, h2, h3⟩
    exact ⟨⟨hw x ((mem_mon hc).mpr ⟨h1, h2, h3⟩), h2.symm⟩, by simpa using h3⟩
structure LetOk (l : List Nat) : Prop where
  asc : l.Pairwise (· < ·)
  one : 0 < l.length
  three : l.length ≤ 3
  hi : ∀ a ∈ l, a < 26
theorem zip_tail_pairwise : ∀ {l : List Nat}, ((l.zip l.tail).all fun x => decide (x.1 < x.2)) = true ↔ l.Pairwise (· < ·)
  | [] => by simp
  | [a] => by simp
  | a :: b :: l => by
    have ih := @zip_tail_pairwise (b :: l)
    show (((a, b) :: (b :: l).zip l).all fun x => decide (x.1 < x.2)) = true ↔ _
    rw [List.all_cons, Bool.and_eq_true_iff]
    rw [show (b :: l).tail = l from rfl] at ih
    rw [ih, List.pairwise_cons (a := a)]
    constructor
    · rintro ⟨h1, h2⟩
      have h1 : a < b := by simpa using h1
      refine ⟨fun c hc => ?_, h2⟩
      rcases List.mem_cons.mp hc with rfl | hc
      · exact h1
      · exact Nat.lt_trans h1 ((List.pairwise_cons.mp h2).1 c hc)
    · rintro ⟨h1, h2⟩
      exact ⟨by simpa using h1 b (List.mem_cons_self ..), h2⟩
theorem lettersOk_iff {l : List Nat} : lettersOk l = true ↔ LetOk l := by
  unfold lettersOk
  rw [Bool.and_eq_true_iff, Bool.and_eq_true_iff, Bool.and_eq_true_iff, zip_tail_pairwise]
  simp only [decide_eq_true_eq, List.all_eq_true]
  constructor
  · rintro ⟨h1, h2, h3, h4⟩; exact ⟨h4, h1, h2, h3⟩
  · intro h; exact ⟨h.one, h.three, h.hi, h.asc⟩
theorem pick_toPoly {l : List Nat} (hl : LetOk l) {q : MP} (h : GoodR q) (ho : otherM l q = false) : toPoly l (pickM l q) = toPoly az q ∧ GoodP l.length (pickM l q) ∧ (∀ t ∈ pickM l q, NormT t) ∧ degM (pickM l q) = degM q := by
  have hw : within l (toPoly az q) = true := by rw [otherM_within h, ho]; rfl
  have hw := within_iff.mp hw
  have hm : ∀ t ∈ q, mon l (pickC l t.1) = mon az t.1 := fun t ht => mon_pick hl.asc hl.hi (h.good.len t ht) fun y hy => hw (mon az t.1, ratT t) (List.mem_map_of_mem (f := fun t : MT => (mon az t.1, ratT t)) ht) y hy
  have hlen : ∀ c : List Nat, (pickC l c).length = l.length := fun c => by simp [pickC]
  have hg : GoodP l.length (pickM l q) := by
    refine ⟨fun t ht => ?_, fun t ht => ?_, fun t ht => ?_, ?_⟩
    · obtain ⟨u, hu, rfl⟩ := List.mem_map.mp ht; exact hlen _
    · obtain ⟨u, hu, rfl⟩ := List.mem_map.mp ht; exact h.good.pos u hu
    · obtain ⟨u, hu, rfl⟩ := List.mem_map.mp ht; exact h.good.top u hu
    · refine List.pairwise_map.mpr (h.good.srt.imp_of_mem ?_)
      intro t u ht hu q1
      show cntGt (pickC l t.1) (pickC l u.1) = true
      rw [← mon_aboveC hl.asc (hlen _) (hlen _), hm t ht, hm u hu, mon_aboveC az_sorted (by rw [h.good.len t ht]; rfl) (by rw [h.good.len u hu]; rfl)]
      exact q1
  have he : toPoly l (pickM l q) = toPoly az q := by
    unfold toPoly pickM
    rw [List.map_map]
    refine List.map_congr_left fun t ht => ?_
    show (mon l (pickC l t.1), ratT t) = _
    rw [hm t ht]
  refine ⟨he, hg, fun t ht => ?_, ?_⟩
  · obtain ⟨u, hu, rfl⟩ := List.mem_map.mp ht
    exact h.nrm u hu
  · rw [← toPoly_degree hl.asc hg, he]
    exact toPoly_degree az_sorted h.good
/-! the answers -/
def shownM (t : Bytes) : List Int := (t.length : Int) :: t.map fun (y : Nat) => (y : Int)
/-- what is refused whatever is asked; else how it goes on -/
def guardM (d least most : Nat) (l : List Nat) (ts : List Bytes) (go : List MP → List Int) : List Int :=
  if lettersOk l = false then [-4] else if 5 < d ∨ ts.length < least ∨ most < ts.length then [-2] else (match ts.mapM readPolyM with
  | none => [-1]
  | some qs => if qs.any (otherM l) = true then [-4] else if qs.any tooLargeM = true then [-2] else go qs)
def outM (a : Ans) : List Int := a.code :: a.texts.flatMap Al04Neutral.shownText
theorem mapM_read : ∀ (ts : List Bytes), ts.mapM AlBase.read = (ts.mapM readPolyM).map fun qs => qs.map (toPoly az)
  | [] => rfl
  | t :: ts => by
    rw [List.mapM_cons, List.mapM_cons, read_is, mapM_read ts]
    cases readPolyM t with
    | none => rfl
    | some q =>
      cases ts.mapM readPolyM with
      | none => rfl
      | some qs => rfl
theorem mapM_good : ∀ {ts : List Bytes} {qs : List MP}, ts.mapM readPolyM = some qs → ∀ q ∈ qs, GoodR q
  | [], qs, h => by
    have : qs = [] := by simpa using h.symm
    rw [this]; intro q hq; cases hq
  | t :: ts, qs, h => by
    rw [List.mapM_cons] at h
    cases ht : readPolyM t with
    | none => rw [ht] at h; cases h
    | some q =>
      cases hr : ts.mapM readPolyM with
      | none => rw [ht, hr] at h; cases h
      | some rs =>
        rw [ht, hr] at h
        have : q :: rs = qs := Option.some.inj h
        rw [← this]
        intro r hr'
        rcases List.mem_cons.mp hr' with rfl | hr'
        · exact (readPolyM_iff.mp ht).1
        · exact mapM_good hr r hr'
theorem mapM_len {α β : Type} {f : α → Option β} : ∀ {ts : List α} {qs : List β}, ts.mapM f = some qs → qs.length = ts.length
  | [], qs, h => by
    have : qs = [] := by simpa using h.symm
    rw [this]; rfl
  | t :: ts, qs, h => by
    rw [List.mapM_cons] at h
    cases ht : f t with
    | none => rw [ht] at h; cases h
    | some q =>
      cases hr : ts.mapM f with
      | none => rw [ht, hr] at h; cases h
      | some rs =>
        rw [ht, hr] at h
        have : q :: rs = qs := Option.some.inj h
        rw [← this, List.length_cons, List.length_cons, mapM_len hr]
theorem polys_guard {d least most : Nat} {l : List Nat} {ts : List Bytes} {go : List Poly → Ans} {goM : List MP → List Int}
    (hgo : LetOk l → d ≤ 5 → least ≤ ts.length → ts.length ≤ most → ∀ qs : List MP, qs.length = ts.length → (∀ q ∈ qs, GoodR q) → (∀ q ∈ qs, otherM l q = false) → (∀ q ∈ qs, tooLargeM q = false) → outM (go (qs.map (toPoly az))) = goM qs) :
    outM (polys d least most l ts go) = guardM d least most l ts goM := by
  unfold polys guardM
  split
  · rfl
  · rename_i hl
    split
    · rfl
    · rename_i hd
      rw [mapM_read]
      cases hq : ts.mapM readPolyM with
      | none => rfl
      | some qs =>
        have hg := mapM_good hq
        show outM (if (qs.map (toPoly az)).all (within l) = false then no (-4) else if (qs.map (toPoly az)).all fits = false then no (-2) else go (qs.map (toPoly az))) = (if qs.any (otherM l) = true then [-4] else if qs.any tooLargeM = true then [-2] else goM qs)
        have e1 : (qs.map (toPoly az)).all (within l) = !qs.any (otherM l) := by
          rw [List.all_map, List.not_any_eq_all_not]
          rw [Bool.eq_iff_iff, List.all_eq_true, List.all_eq_true]
          constructor
          · intro h q hq'; have := h q hq'; rw [Function.comp, otherM_within (hg q hq')] at this; exact this
          · intro h q hq'; have := h q hq'; rw [Function.comp, otherM_within (hg q hq')]; exact this
        have e2 : (qs.map (toPoly az)).all fits = !qs.any tooLargeM := by
          rw [List.all_map, List.not_any_eq_all_not]
          rw [Bool.eq_iff_iff, List.all_eq_true, List.all_eq_true]
          constructor
          · intro h q hq'; have := h q hq'; rw [Function.comp, tooLargeM_fits (hg q hq')] at this; exact this
          · intro h q hq'; have := h q hq'; rw [Function.comp, tooLargeM_fits (hg q hq')]; exact this
        rw [e1, e2]
        cases o : qs.any (otherM l) with
        | true => rfl
        | false =>
          cases f : qs.any tooLargeM with
          | true => rfl
          | false =>
            have hl' : lettersOk l = true := by simpa using hl
            show outM (go (qs.map (toPoly az))) = goM qs
            exact hgo (lettersOk_iff.mp hl') (by omega) (by omega) (by omega) qs (mapM_len hq) hg (fun q hq' => by simpa using List.any_eq_false.mp o q hq') (fun q hq' => by simpa using List.any_eq_false.mp f q hq')
def followsM (d : Nat) (l : List Nat) (ts : List Bytes) : List Int := guardM d 1 4 l ts fun qs =>
  if d < degM (qs.headD []) then [-6] else (match howM d l.length (pickM l (qs.headD [])) (qs.tail.map (pickM l)) with
  | none => [0]
  | some h => 1 :: h.flatMap fun p => shownM (text (toPoly l p)))
theorem map_pick {l : List Nat} (hl : LetOk l) : ∀ {qs : List MP}, (∀ q ∈ qs, GoodR q) → (∀ q ∈ qs, otherM l q = false) → (qs.map (pickM l)).map (toPoly l) = qs.map (toPoly az)
  | [], _, _ => rfl
  | q :: qs, h, ho => by
    rw [List.map_cons, List.map_cons, List.map_cons, (pick_toPoly hl (h q (List.mem_cons_self ..)) (ho q (List.mem_cons_self ..))).1, map_pick hl (fun r hr => h r (List.mem_cons_of_mem _ hr)) fun r hr => ho r (List.mem_cons_of_mem _ hr)]
theorem hyp_of {l : List Nat} (hl : LetOk l) {d : Nat} {p : MP} {es : List MP} (h : ∀ q ∈ p :: es, GoodR q) (ho : ∀ q ∈ p :: es, otherM l q = false) (hd : degM p ≤ d) : Hyp l d (es.map (pickM l)) (pickM l p) := by
  have hp := pick_toPoly hl (h p (List.mem_cons_self ..)) (ho p (List.mem_cons_self ..))
  refine ⟨hl.asc, hl.one, fun q hq => ?_, hp.2.1, by rw [hp.2.2.2]; exact hd⟩
  obtain ⟨r, hr, rfl⟩ := List.mem_map.mp hq
  exact (pick_toPoly hl (h r (List.mem_cons_of_mem _ hr)) (ho r (List.mem_cons_of_mem _ hr))).2.1
theorem spec_how {l : List Nat} (hl : LetOk l) {d : Nat} {p : MP} {es : List MP} (h : ∀ q ∈ p :: es, GoodR q) (ho : ∀ q ∈ p :: es, otherM l q = false) (hd : degM p ≤ d) :
    Al04.follows l d (es.map (toPoly az)) (toPoly az p) = (howM d l.length (pickM l p) (es.map (pickM l))).map fun h => h.map (toPoly l) := by
  have := how_spec (hyp_of hl h ho hd)
  rw [map_pick hl (fun q hq => h q (List.mem_cons_of_mem _ hq)) fun q hq => ho q (List.mem_cons_of_mem _ hq), (pick_toPoly hl (h p (List.mem_cons_self ..)) (ho p (List.mem_cons_self ..))).1] at this
  exact this.symm
theorem follows_is (d : Nat) (l : List Nat) (ts : List Bytes) : outM (Al04.answer (.follows d l ts)) = followsM d l ts := by
  show outM (withP d l ts _) = _
  unfold withP followsM
  refine polys_guard fun hl h5 h1 h4 qs hlen hg ho hf => ?_
  cases qs with
  | nil => rw [← hlen] at h1; exact absurd h1 (by decide)
  | cons p es =>
    have e1 : polyDegree (toPoly az p) = degM p := toPoly_degree az_sorted (hg p (List.mem_cons_self ..)).good
    show outM (if d < polyDegree (toPoly az p) then no (-6) else (match Al04.follows l d (es.map (toPoly az)) (toPoly az p) with | none => ⟨0, []⟩ | some h => ⟨1, h.map text⟩)) = (if d < degM p then [-6] else (match howM d l.length (pickM l p) (es.map (pickM l)) with | none => [0] | some h => 1 :: h.flatMap fun p => shownM (text (toPoly l p))))
    rw [e1]
    by_cases hd : d < degM p
    · rw [if_pos hd, if_pos hd]
      rfl
    · rw [if_neg hd, if_neg hd, spec_how hl hg ho (by omega)]
      cases howM d l.length (pickM l p) (es.map (pickM l)) with
      | none => rfl
      | some h =>
        show (1 : Int) :: ((h.map (toPoly l)).map text).flatMap Al04Neutral.shownText = 1 :: h.flatMap fun p => shownM (text (toPoly l p))
        rw [List.map_map, List.flatMap_map]
        rfl
def whenGo (l : List Nat) (p : MP) (es : List MP) : List Nat → List Int
  | [] => [-5]
  | d :: ds => if degM p ≤ d ∧ (howM d l.length (pickM l p) (es.map (pickM l))).isSome = true then [(d : Int)] else whenGo l p es ds
def whenM (l : List Nat) (ts : List Bytes) : List Int := guardM 5 1 4 l ts fun qs => whenGo l (qs.headD []) qs.tail (List.range' (degM (qs.headD [])) (6 - degM (qs.headD [])))
theorem whenFrom_go {l : List Nat} (hl : LetOk l) {p : MP} {es : List MP} (h : ∀ q ∈ p :: es, GoodR q) (ho : ∀ q ∈ p :: es, otherM l q = false) : ∀ (f d : Nat), outM (match whenFrom l (es.map (toPoly az)) (toPoly az p) f d with | none => no (-5) | some d => ⟨(d : Int), []⟩) = whenGo l p es (List.range' d f)
  | 0, d => rfl
  | f + 1, d => by
    have ih := whenFrom_go hl h ho f (d + 1)
    have e1 : polyDegree (toPoly az p) = degM p := toPoly_degree az_sorted (h p (List.mem_cons_self ..)).good
    rw [List.range'_succ]
    unfold whenFrom whenGo
    rw [e1]
    by_cases hd : degM p ≤ d
    · have e2 := spec_how hl h ho hd
      have e3 : (Al04.follows l d (es.map (toPoly az)) (toPoly az p)).isSome = (howM d l.length (pickM l p) (es.map (pickM l))).isSome := by
        rw [e2]
        cases howM d l.length (pickM l p) (es.map (pickM l)) <;> rfl
      rw [e3]
      by_cases hs : (howM d l.length (pickM l p) (es.map (pickM l))).isSome = true
      · rw [if_pos ⟨hs, hd⟩, if_pos ⟨hd, hs⟩]
        rfl
      · rw [if_neg fun q => hs q.1, if_neg fun q => hs q.2]
        exact ih
    · rw [if_neg fun q => hd q.2, if_neg fun q => hd q.1]
      exact ih
theorem whenGo_skip {l : List Nat} {p : MP} {es : List MP} : ∀ {ds : List Nat} {rest : List Nat}, (∀ d ∈ ds, d < degM p) → whenGo l p es (ds ++ rest) = whenGo l p es rest
  | [], _, _ => rfl
  | d :: ds, rest, h => by
    have e0 : whenGo l p es (d :: (ds ++ rest)) = if degM p ≤ d ∧ (howM d l.length (pickM l p) (es.map (pickM l))).isSome = true then [(d : Int)] else whenGo l p es (ds ++ rest) := rfl
    show whenGo l p es (d :: (ds ++ rest)) = _
    rw [e0, if_neg (by have := h d (List.mem_cons_self ..); omega)]
    exact whenGo_skip fun e he => h e (List.mem_cons_of_mem _ he)
theorem when_is (l : List Nat) (ts : List Bytes) : outM (Al04.answer (.when_ l ts)) = whenM l ts := by
  show outM (polys 5 1 4 l ts _) = _
  unfold whenM
  refine polys_guard fun hl h5 h1 h4 qs hlen hg ho hf => ?_
  cases qs with
  | nil => rw [← hlen] at h1; exact absurd h1 (by decide)
  | cons p es =>
    have := whenFrom_go hl hg ho 6 0
    show outM (match whenFrom l (es.map (toPoly az)) (toPoly az p) 6 0 with | none => no (-5) | some d => ⟨(d : Int), []⟩) = whenGo l p es (List.range' (degM p) (6 - degM p))
    rw [this]
    have h6 : degM p ≤ 5 := by
      have := hf p (List.mem_cons_self ..)
      unfold tooLargeM at this
      rw [Bool.or_eq_false_iff] at this
      simpa using this.1
    have cut : List.range' 0 6 = List.range' 0 (degM p) ++ List.range' (degM p) (6 - degM p) := by
      have := List.range'_append (s := 0) (m := degM p) (n := 6 - degM p) (step := 1)
      rw [Nat.one_mul, Nat.zero_add] at this
      rw [this]
      congr 1
      omega
    rw [cut]
    exact whenGo_skip fun d hd => by
      have := List.mem_range'_1.mp hd
      omega
/-! by Python's arguments -/
theorem py_follows (d : Int) (letters : List Int) (texts : List (List Int)) : PyAl04.follows d letters texts = followsM d.toNat (letters.map Int.toNat) (texts.map fun t => t.map Int.toNat) := by
  rw [← follows_is]
  rfl
theorem py_when (letters : List Int) (texts : List (List Int)) : PyAl04.when letters texts = whenM (letters.map Int.toNat) (texts.map fun t => t.map Int.toNat) := by
  rw [← when_is]
  rfl
end E94
set_option linter.unusedVariables false
set_option linter.unusedSimpArgs false
namespace E94
/-! S1: how large the numbers of reduced rows get -/
theorem nodup_len {α : Type} [DecidableEq α] : ∀ {l m : List α}, l.Nodup → (∀ x ∈ l, x ∈ m) → l.length ≤ m.length
  | [], _, _, _ => Nat.zero_le _
  | a :: l, m, h, hs => by
    have h1 := List.nodup_cons.mp h
    have ha := hs a (List.mem_cons_self ..)
    have ih := @nodup_len α _ l (m.erase a) h1.2 fun x hx => (List.mem_erase_of_ne (show x ≠ a from fun e => h1.1 (by rw [← e]; exact hx))).mpr (hs x (List.mem_cons_of_mem _ hx))
    rw [List.length_erase_of_mem ha] at ih
    have : 0 < m.length := List.length_pos_of_mem ha
    show l.length + 1 ≤ m.length
    omega
theorem pigeon {α β : Type} [DecidableEq β] {l : List α} {m : List β} (f : α → β) (h : l.Nodup) (hf : ∀ x ∈ l, f x ∈ m) (hl : m.length < l.length) : ∃ a ∈ l, ∃ b ∈ l, a ≠ b ∧ f a = f b := by
  refine Classical.byContradiction fun no => ?_
  have : (l.map f).Nodup := by
    refine List.pairwise_map.mpr (h.imp_of_mem ?_)
    intro a b ha hb ne e
    exact no ⟨a, ha, b, hb, ne, e⟩
  have h2 := nodup_len this fun y hy => by
    obtain ⟨x, hx, rfl⟩ := List.mem_map.mp hy
    exact hf x hx
  rw [List.length_map] at h2
  omega
/-- all lists with numbers from 0 to X where the mask lets, else 0 -/
def box (X : Nat) : List Bool → List (List Int)
  | [] => [[]]
  | false :: M => (box X M).map (fun a => (0 : Int) :: a)
  | true :: M => (List.range (X + 1)).flatMap fun (v : Nat) => (box X M).map (fun a => (v : Int) :: a)
theorem flatMap_const_len {α β : Type} {n : Nat} {f : α → List β} : ∀ {l : List α}, (∀ a ∈ l, (f a).length = n) → (l.flatMap f).length = l.length * n
  | [], _ => by simp
  | a :: l, h => by
    rw [List.flatMap_cons, List.length_append, h a (List.mem_cons_self ..), flatMap_const_len fun b hb => h b (List.mem_cons_of_mem _ hb), List.length_cons, Nat.succ_mul, Nat.add_comm]
theorem box_len (X : Nat) : ∀ M : List Bool, (box X M).length = (X + 1) ^ (M.count true)
  | [] => rfl
  | false :: M => by
    unfold box
    rw [List.length_map, box_len X M]
    simp
  | true :: M => by
    unfold box
    rw [flatMap_const_len (n := (X + 1) ^ (M.count true)) fun v _ => by rw [List.length_map, box_len X M], List.length_range, List.count_cons_self, Nat.pow_succ, Nat.mul_comm]
theorem box_nodup (X : Nat) : ∀ M : List Bool, (box X M).Nodup
  | [] => by unfold box; simp
  | false :: M => by
    unfold box
    refine List.Pairwise.map _ ?_ (box_nodup X M)
    intro a b ne e
    exact ne (List.cons.inj e).2
  | true :: M => by
    unfold box
    refine List.pairwise_flatMap.mpr ⟨fun v _ => ?_, ?_⟩
    · refine List.Pairwise.map _ ?_ (box_nodup X M)
      intro a b ne e
      exact ne (List.cons.inj e).2
    · refine List.nodup_range.imp ?_
      intro v u ne x hx y hy e
      obtain ⟨a, _, rfl⟩ := List.mem_map.mp hx
      obtain ⟨b, _, rfl⟩ := List.mem_map.mp hy
      have := (List.cons.inj e).1
      exact ne (by omega)
theorem box_mem {X : Nat} : ∀ {M : List Bool} {a : List Int}, a ∈ box X M ↔ a.length = M.length ∧ ∀ j, 0 ≤ a.getD j 0 ∧ a.getD j 0 ≤ (X : Int) ∧ (M.getD j false = false → a.getD j 0 = 0)
  | [], a => by
    unfold box
    constructor
    · intro h
      rw [List.mem_singleton.mp h]
      refine ⟨rfl, fun j => ?_⟩
      simp
    · rintro ⟨h, _⟩
      rw [List.length_eq_zero_iff.mp h]
      exact List.mem_singleton.mpr rfl
  | false :: M, a => by
    unfold box
    rw [List.mem_map]
    constructor
    · rintro ⟨b, hb, rfl⟩
      have := box_mem.mp hb
      refine ⟨by simp [this.1], fun j => ?_⟩
      cases j with
      | zero => simp
      | succ j => simpa using this.2 j
    · rintro ⟨h1, h2⟩
      cases a with
      | nil => cases h1
      | cons v a =>
        have h0 := (h2 0).2.2 (by simp)
        have : v = 0 := by simpa using h0
        subst this
        exact ⟨a, box_mem.mpr ⟨by simpa using h1, fun j => by simpa using h2 (j + 1)⟩, rfl⟩
  | true :: M, a => by
    unfold box
    rw [List.mem_flatMap]
    constructor
    · rintro ⟨v, hv, hb0⟩
      obtain ⟨b, hb, rfl⟩ := List.mem_map.mp hb0
      have := box_mem.mp hb
      have hv' := List.mem_range.mp hv
      refine ⟨by simp [this.1], fun j => ?_⟩
      cases j with
      | zero => simp; omega
      | succ j => simpa using this.2 j
    · rintro ⟨h1, h2⟩
      cases a with
      | nil => cases h1
      | cons v a =>
        have h0 := h2 0
        simp at h0
        refine ⟨v.toNat, List.mem_range.mpr (by omega), List.mem_map.mpr ⟨a, box_mem.mpr ⟨by simpa using h1, fun j => by simpa using h2 (j + 1)⟩, ?_⟩⟩
        congr 1
        omega
def dotZ : List Int → List Int → Int
  | a :: x, b :: y => a * b + dotZ x y
  | _, _ => 0
theorem dotZ_bound {A X : Nat} : ∀ {x y : List Int}, (∀ j, 0 ≤ x.getD j 0 ∧ x.getD j 0 ≤ (X : Int)) → (∀ b ∈ y, b.natAbs ≤ A) → -((x.length * (A * X) : Nat) : Int) ≤ dotZ x y ∧ dotZ x y ≤ ((x.length * (A * X) : Nat) : Int)
  | [], y, _, _ => by cases y <;> simp [dotZ]
  | a :: x, [], _, _ => by simp only [dotZ]; omega
  | a :: x, b :: y, hx, hy => by
    have ih := @dotZ_bound A X x y (fun j => by simpa using hx (j + 1)) fun c hc => hy c (List.mem_cons_of_mem _ hc)
    have h0 := hx 0
    simp at h0
    have hb := hy b (List.mem_cons_self ..)
    have hab : (a * b).natAbs ≤ X * A := by
      rw [Int.natAbs_mul]
      exact Nat.mul_le_mul (by omega) hb
    simp only [dotZ, List.length_cons]
    have e : (x.length + 1) * (A * X) = x.length * (A * X) + A * X := by rw [Nat.succ_mul]
    rw [e]
    rw [Nat.mul_comm X A] at hab
    generalize A * X = k at *
    generalize x.length * k = q at *
    omega
theorem dotZ_sub : ∀ {a b y : List Int}, a.length = b.length → dotZ ((a.zip b).map fun z => z.1 - z.2) y = dotZ a y - dotZ b y
  | [], [], y, _ => by cases y <;> simp [dotZ]
  | [], _ :: _, _, h => by cases h
  | _ :: _, [], _, h => by cases h
  | i :: a, j :: b, [], _ => by simp [dotZ]
  | i :: a, j :: b, k :: y, h => by
    have ih := @dotZ_sub a b y (by simpa using h)
    simp only [List.zip_cons_cons, List.map_cons, dotZ]
    rw [ih, Int.sub_mul]
    omega
theorem pow_step {m Q : Nat} (hQ : 1 ≤ Q) : (Q * Q ^ m + 1) ^ m < (Q ^ m + 1) ^ (m + 1) := by
  have h1 : Q * Q ^ m + 1 ≤ Q * (Q ^ m + 1) := by
    rw [Nat.mul_add]
    omega
  have h2 : (Q * Q ^ m + 1) ^ m ≤ (Q * (Q ^ m + 1)) ^ m := Nat.pow_le_pow_left h1 m
  have h3 : (Q * (Q ^ m + 1)) ^ m = Q ^ m * (Q ^ m + 1) ^ m := Nat.mul_pow ..
  have h4 : (Q ^ m + 1) ^ (m + 1) = (Q ^ m + 1) ^ m * (Q ^ m + 1) := Nat.pow_succ ..
  have h5 : 0 < (Q ^ m + 1) ^ m := Nat.pow_pos (by omega)
  rw [h4]
  rw [h3] at h2
  have h6 : Q ^ m * (Q ^ m + 1) ^ m < (Q ^ m + 1) ^ m * (Q ^ m + 1) := by
    rw [Nat.mul_comm (Q ^ m)]
    exact Nat.mul_lt_mul_of_pos_left (by omega) h5
  omega
/-- a small solution -/
theorem small_sol {w A : Nat} (hw : 0 < w) (hA : 0 < A) {U : List (List Int)} (hU : ∀ u ∈ U, ∀ b ∈ u, b.natAbs ≤ A) {M : List Bool} (hM : M.length = w) (hc : M.count true = U.length + 1) :
    ∃ x : List Int, x.length = w ∧ (∃ j, x.getD j 0 ≠ 0) ∧ (∀ j, M.getD j false = false → x.getD j 0 = 0) ∧ (∀ j, (x.getD j 0).natAbs ≤ (2 * w * A) ^ U.length) ∧ ∀ u ∈ U, dotZ x u = 0 := by
  generalize hX : (2 * w * A) ^ U.length = X
  have hQ : 1 ≤ 2 * w * A := Nat.mul_pos (by omega) hA
  let img : List Int → List Int := fun a => U.map fun u => dotZ a u + ((w * (A * X) : Nat) : Int)
  have him : ∀ a ∈ box X M, img a ∈ box (2 * w * A * X) (List.replicate U.length true) := by
    intro a ha
    have ha := box_mem.mp ha
    refine box_mem.mpr ⟨by simp [img], fun j => ?_⟩
    have bound : ∀ u ∈ U, 0 ≤ dotZ a u + ((w * (A * X) : Nat) : Int) ∧ dotZ a u + ((w * (A * X) : Nat) : Int) ≤ ((2 * w * A * X : Nat) : Int) := fun u hu => by
      have := dotZ_bound (x := a) (y := u) (fun j => ⟨(ha.2 j).1, (ha.2 j).2.1⟩) (hU u hu)
      rw [ha.1, hM] at this
      have e : 2 * w * A * X = 2 * (w * (A * X)) := by rw [Nat.mul_assoc, Nat.mul_assoc]
      rw [e]
      omega
    show 0 ≤ (U.map _).getD j 0 ∧ (U.map _).getD j 0 ≤ _ ∧ _
    rw [List.getD_eq_getElem?_getD, List.getElem?_map]
    cases hu : U[j]? with
    | none =>
      refine ⟨Int.le_refl _, Int.natCast_nonneg _, fun _ => rfl⟩
    | some u =>
      have hb := bound u (List.mem_of_getElem? hu)
      have hj : j < U.length := by
        rcases Nat.lt_or_ge j U.length with h | h
        · exact h
        · rw [List.getElem?_eq_none h] at hu; cases hu
      refine ⟨hb.1, hb.2, fun q => ?_⟩
      rw [List.getD_eq_getElem?_getD, List.getElem?_replicate, if_pos hj] at q
      cases q
  have hlt : (box (2 * w * A * X) (List.replicate U.length true)).length < (box X M).length := by
    rw [box_len, box_len, hc]
    have : (List.replicate U.length true).count true = U.length := by simp
    rw [this, ← hX]
    exact pow_step hQ
  obtain ⟨a, ha, b, hb, ne, e⟩ := pigeon img (box_nodup X M) him hlt
  have ha' := box_mem.mp ha
  have hb' := box_mem.mp hb
  have hl : a.length = b.length := by rw [ha'.1, hb'.1]
  have hget : ∀ j, ((a.zip b).map fun z => z.1 - z.2).getD j 0 = a.getD j 0 - b.getD j 0 := fun j => by
    rw [List.getD_eq_getElem?_getD, List.getD_eq_getElem?_getD, List.getD_eq_getElem?_getD, List.getElem?_map]
    by_cases hj : j < a.length
    · have h2 : j < b.length := by omega
      have h3 : j < (a.zip b).length := by rw [List.length_zip]; omega
      rw [List.getElem?_eq_getElem hj, List.getElem?_eq_getElem h2, List.getElem?_eq_getElem h3, List.getElem_zip]
      rfl
    · have h3 : (a.zip b).length ≤ j := by rw [List.length_zip]; omega
      rw [List.getElem?_eq_none h3, List.getElem?_eq_none (show a.length ≤ j by omega), List.getElem?_eq_none (show b.length ≤ j by omega)]
      simp
  refine ⟨(a.zip b).map fun z => z.1 - z.2, by rw [List.length_map, List.length_zip, ha'.1, hb'.1, hM, Nat.min_self], ?_, fun j hj => ?_, fun j => ?_, fun u hu => ?_⟩
  · refine Classical.byContradiction fun no => ne ?_
    refine List.ext_getElem hl fun j h1 h2 => ?_
    have : a.getD j 0 - b.getD j 0 = 0 := Classical.byContradiction fun q => no ⟨j, by rw [hget]; exact q⟩
    rw [List.getD_eq_getElem?_getD, List.getD_eq_getElem?_getD, List.getElem?_eq_getElem h1, List.getElem?_eq_getElem h2] at this
    simp at this
    omega
  · rw [hget, (ha'.2 j).2.2 hj, (hb'.2 j).2.2 hj]
    rfl
  · rw [hget]
    have h1 := ha'.2 j
    have h2 := hb'.2 j
    omega
  · rw [dotZ_sub hl]
    obtain ⟨i, hi, rfl⟩ := List.mem_iff_getElem.mp hu
    have : (img a)[i]? = (img b)[i]? := by rw [e]
    simp only [img, List.getElem?_map, List.getElem?_eq_getElem hi, Option.map_some, Option.some.injEq] at this
    omega
/-! over the reduced rows -/
theorem dot_dotZ : ∀ (x y : List Int), x.length = y.length → dot y.length (rf x) (rf y) = ((dotZ x y : Int) : Rat)
  | [], [], _ => rfl
  | [], _ :: _, h => by cases h
  | _ :: _, [], h => by cases h
  | a :: x, b :: y, h => by
    have ih := dot_dotZ x y (by simpa using h)
    unfold dot at ih ⊢
    rw [List.length_cons, List.range_succ_eq_map, lin_cons, lin_map]
    have e : lin (List.range y.length) (fun j => rf (a :: x) (Nat.succ j)) (fun j (v : Nat → Rat) => v (Nat.succ j)) (rf (b :: y)) = lin (List.range y.length) (rf x) (fun j (v : Nat → Rat) => v j) (rf y) := lin_congr2 fun j _ => by
      show rf (a :: x) (j + 1) * rf (b :: y) (j + 1) = _
      rfl
    rw [e, ih]
    show ((a : Int) : Rat) * ((b : Int) : Rat) + _ = ((a * b + dotZ x y : Int) : Rat)
    rw [Rat.intCast_add, Rat.intCast_mul]
def maskOf (w : Nat) (F : Found) (t : Nat) : List Bool := (List.range w).map fun j => decide (j = t) || (rowAt F j).isSome
theorem maskOf_get {w : Nat} {F : Found} {t j : Nat} (hj : j < w) : (maskOf w F t).getD j false = (decide (j = t) || (rowAt F j).isSome) := by
  unfold maskOf
  rw [List.getD_eq_getElem?_getD, List.getElem?_map, List.getElem?_range hj]
  rfl
theorem Red.keys_nodup {w : Nat} {done U : List (List Int)} {F : Found} (h : Red w done U F) : (F.map (·.1)).Nodup := by
  refine List.pairwise_map.mpr (h.off.imp_of_mem ?_)
  intro y z hy hz q e
  have := q.1
  rw [← e] at this
  exact h.piv y hy this
theorem count_map_range {w : Nat} {f : Nat → Bool} {L : List Nat} (hn : L.Nodup) (hL : ∀ j, j ∈ L ↔ j < w ∧ f j = true) : ((List.range w).map f).count true = L.length := by
  have e1 : ((List.range w).map f).count true = ((List.range w).filter f).length := by
    rw [← List.countP_eq_length_filter, List.count_eq_countP, List.countP_map]
    congr 1
    funext j
    simp
  rw [e1]
  apply Nat.le_antisymm
  · refine nodup_len (List.nodup_range.filter _) fun j hj => ?_
    have := List.mem_filter.mp hj
    exact (hL j).mpr ⟨List.mem_range.mp this.1, this.2⟩
  · refine nodup_len hn fun j hj => ?_
    have := (hL j).mp hj
    exact List.mem_filter.mpr ⟨List.mem_range.mpr this.1, this.2⟩
theorem Red.count {w : Nat} {done U : List (List Int)} {F : Found} (h : Red w done U F) {t : Nat} (ht : t < w) (hp : rowAt F t = none) : (maskOf w F t).count true = U.length + 1 := by
  have hn : (t :: F.map (·.1)).Nodup := List.nodup_cons.mpr ⟨fun q => by
    obtain ⟨y, hy, e⟩ := List.mem_map.mp q
    exact rowAt_none hp y hy e, h.keys_nodup⟩
  unfold maskOf
  rw [count_map_range hn]
  · rw [List.length_cons, List.length_map, h.cnt]
  · intro j
    rw [List.mem_cons, List.mem_map, Bool.or_eq_true, decide_eq_true_eq]
    constructor
    · rintro (rfl | ⟨y, hy, rfl⟩)
      · exact ⟨ht, .inl rfl⟩
      · exact ⟨h.lt y hy, .inr (by rw [h.rowAt_mem hy]; rfl)⟩
    · rintro ⟨_, rfl | q⟩
      · exact .inl rfl
      · obtain ⟨o, e⟩ := Option.isSome_iff_exists.mp q
        exact .inr ⟨_, rowAt_some e, rfl⟩
/-- each column by small numbers: one bottom for all rows -/
theorem Red.small {w A : Nat} (hA : 0 < A) {done U : List (List Int)} {F : Found} (h : Red w done U F) (hd : ∀ r ∈ done, r.length = w ∧ ∀ b ∈ r, b.natAbs ≤ A) {t : Nat} (ht : t < w) :
    ∃ q : Int, q ≠ 0 ∧ q.natAbs ≤ (2 * w * A) ^ U.length ∧ ∀ y ∈ F, ∃ z : Int, z.natAbs ≤ (2 * w * A) ^ U.length ∧ y.2.getD t 0 * q = z * y.2.getD y.1 0 := by
  have hw : 0 < w := by omega
  have one : 1 ≤ (2 * w * A) ^ U.length := Nat.pow_pos (Nat.mul_pos (by omega) hA)
  cases hp : rowAt F t with
  | some o =>
    refine ⟨1, by decide, one, fun y hy => ?_⟩
    by_cases e : y.1 = t
    · exact ⟨1, one, by rw [e]; omega⟩
    · refine ⟨0, by simp, ?_⟩
      have := h.offOf hy (rowAt_some hp) e
      rw [rf_zero.mp this]
      omega
  | none =>
    obtain ⟨x, xl, ⟨j0, xj0⟩, xm, xb, xu⟩ := small_sol (U := U) hw hA (fun u hu => (hd u (h.used u hu)).2) (M := maskOf w F t) (by simp [maskOf]) (h.count ht hp)
    -- along each row
    have hdot : ∀ y ∈ F, dot w (rf x) (rf y.2) = 0 := fun y hy => dot_span (V := rf) (fun u hu => by
      have hul := (hd u (h.used u hu)).1
      have := dot_dotZ x u (by rw [xl, hul])
      rw [hul] at this
      rw [this, xu u hu]
      rfl) (h.spU y hy)
    have key : ∀ y ∈ F, rf x y.1 * rf y.2 y.1 + rf x t * rf y.2 t = 0 := fun y hy => by
      have yt : y.1 ≠ t := fun q => rowAt_none hp y hy q
      have e : dot w (rf x) (rf y.2) = dot w (fun j => if j = y.1 then rf x y.1 else 0) (rf y.2) + dot w (fun j => if j = t then rf x t else 0) (rf y.2) := by
        unfold dot
        rw [← lin_add]
        refine lin_congr2 fun j hj => ?_
        have hj' := List.mem_range.mp hj
        by_cases j1 : j = y.1
        · subst j1
          simp only [if_true, yt, if_false]
          grind
        · by_cases j2 : j = t
          · subst j2
            simp only [j1, if_true, if_false]
            grind
          · simp only [j1, j2, if_false]
            cases e : rowAt F j with
            | none =>
              have : rf x j = 0 := rf_zero.mpr (xm j (by rw [maskOf_get hj']; simp [j2, e]))
              rw [this]
              grind
            | some o =>
              have := h.offOf hy (rowAt_some e) fun q => j1 q.symm
              rw [this]
              grind
      have h0 := hdot y hy
      rw [e] at h0
      unfold dot at h0
      rw [lin_single (c := y.1) List.nodup_range (List.mem_range.mpr (h.lt y hy)) (fun j _ q => by rw [if_neg q]; grind), lin_single (c := t) List.nodup_range (List.mem_range.mpr ht) (fun j _ q => by rw [if_neg q]; grind)] at h0
      simpa using h0
    have xt : x.getD t 0 ≠ 0 := by
      intro z
      have zt : rf x t = 0 := rf_zero.mpr z
      refine xj0 ?_
      by_cases hj : j0 < w
      · by_cases e : j0 = t
        · rw [e]; exact z
        · cases hr : rowAt F j0 with
          | none => exact xm j0 (by rw [maskOf_get hj]; simp [e, hr])
          | some o =>
            have k := key _ (rowAt_some hr)
            have pv := h.piv _ (rowAt_some hr)
            simp only at k pv
            rw [zt] at k
            have : rf x j0 = 0 := by grind
            exact rf_zero.mp this
      · rw [List.getD_eq_getElem?_getD, List.getElem?_eq_none (by omega)]
        rfl
    refine ⟨x.getD t 0, xt, xb t, fun y hy => ⟨-(x.getD y.1 0), by rw [Int.natAbs_neg]; exact xb y.1, ?_⟩⟩
    have k := key y hy
    unfold rf at k
    have k2 : x.getD y.1 0 * y.2.getD y.1 0 + x.getD t 0 * y.2.getD t 0 = 0 := by exact_mod_cast k
    rw [Int.neg_mul, Int.mul_comm (y.2.getD t 0)]
    omega
/-- the numbers of a reduced row -/
theorem Red.bound {w A : Nat} (hA : 0 < A) {done U : List (List Int)} {F : Found} (h : Red w done U F) (hd : ∀ r ∈ done, r.length = w ∧ ∀ b ∈ r, b.natAbs ≤ A) : ∀ y ∈ F, ∀ x ∈ y.2, x.natAbs ≤ ((2 * w * A) ^ U.length) ^ (w + 1) := by
  intro y hy
  generalize hX : (2 * w * A) ^ U.length = X
  have yl := h.len y hy
  have hyl := h.lt y hy
  -- the product of the bottoms
  have prod : ∀ n, n ≤ w → ∃ D : Nat, 0 < D ∧ D ≤ X ^ n ∧ ∀ t, t < n → y.2.getD y.1 0 ∣ (D : Int) * y.2.getD t 0 := by
    intro n
    induction n with
    | zero => intro _; exact ⟨1, by decide, by simp, fun t ht => absurd ht (Nat.not_lt_zero _)⟩
    | succ n ih =>
      intro hn
      obtain ⟨D, d0, dX, dd⟩ := ih (by omega)
      obtain ⟨q, q0, qX, qq⟩ := h.small hA hd (t := n) (by omega)
      rw [hX] at qX qq
      obtain ⟨z, _, hz⟩ := qq y hy
      refine ⟨D * q.natAbs, Nat.mul_pos d0 (by omega), by rw [Nat.pow_succ]; exact Nat.mul_le_mul dX qX, fun t ht => ?_⟩
      by_cases e : t = n
      · subst e
        have : y.2.getD y.1 0 ∣ q * y.2.getD t 0 := ⟨z, by rw [Int.mul_comm q, hz, Int.mul_comm]⟩
        have h2 : y.2.getD y.1 0 ∣ (q.natAbs : Int) * y.2.getD t 0 := by
          rcases Int.natAbs_eq q with e | e
          · rw [← e]; exact this
          · have e2 : (q.natAbs : Int) = -q := by omega
            rw [e2, Int.neg_mul]
            exact Int.dvd_neg.mpr this
        rw [Int.natCast_mul, Int.mul_assoc]
        exact Int.dvd_trans h2 (Int.dvd_mul_left ..)
      · have := dd t (by omega)
        rw [Int.natCast_mul, Int.mul_comm (D : Int), Int.mul_assoc]
        exact Int.dvd_trans this (Int.dvd_mul_left ..)
  obtain ⟨D, d0, dX, dd⟩ := prod w (Nat.le_refl _)
  have piv0 : y.2.getD y.1 0 ≠ 0 := fun q => h.piv y hy (rf_zero.mpr q)
  -- the pivot goes into D
  have pd : (y.2.getD y.1 0).natAbs ∣ D := by
    generalize hc : (y.2.getD y.1 0).natAbs = c
    have c0 : 0 < c := by omega
    have gpos : 0 < Nat.gcd c D := Nat.gcd_pos_of_pos_left _ c0
    obtain ⟨e, he⟩ := Nat.gcd_dvd_left c D
    obtain ⟨f, hf⟩ := Nat.gcd_dvd_right c D
    have cop : Nat.Coprime e f := by
      have := Nat.coprime_div_gcd_div_gcd gpos
      have e1 : c / Nat.gcd c D = e := by
        have := Nat.mul_div_cancel_left e gpos
        rw [← he] at this
        exact this
      have e2 : D / Nat.gcd c D = f := by
        have := Nat.mul_div_cancel_left f gpos
        rw [← hf] at this
        exact this
      rw [e1, e2] at this
      exact this
    have : e = 1 := h.prim y hy e fun x hx => by
      obtain ⟨t, ht, rfl⟩ := List.mem_iff_getElem.mp hx
      have := dd t (by omega)
      rw [List.getD_eq_getElem?_getD (i := t), List.getElem?_eq_getElem ht] at this
      have h1 : c ∣ D * (y.2[t]).natAbs := by
        have := Int.natAbs_dvd_natAbs.mpr this
        rw [Int.natAbs_mul, hc] at this
        simpa using this
      rw [he] at h1
      have hf2 : D * (y.2[t]).natAbs = Nat.gcd c D * (f * (y.2[t]).natAbs) := by
        conv => lhs; rw [hf]
        rw [Nat.mul_assoc]
      rw [hf2] at h1
      have h2 := Nat.dvd_of_mul_dvd_mul_left gpos h1
      exact cop.dvd_of_dvd_mul_left h2
    rw [this] at he
    rw [he, Nat.mul_one]
    exact Nat.gcd_dvd_right ..
  have pX : (y.2.getD y.1 0).natAbs ≤ X ^ w := Nat.le_trans (Nat.le_of_dvd d0 pd) dX
  intro x hx
  obtain ⟨t, ht, rfl⟩ := List.mem_iff_getElem.mp hx
  obtain ⟨q, q0, qX, qq⟩ := h.small hA hd (t := t) (by omega)
  rw [hX] at qX qq
  obtain ⟨z, zX, hz⟩ := qq y hy
  rw [List.getD_eq_getElem?_getD (i := t), List.getElem?_eq_getElem ht] at hz
  have h1 : (y.2[t]).natAbs * q.natAbs = z.natAbs * (y.2.getD y.1 0).natAbs := by
    have := congrArg Int.natAbs hz
    rw [Int.natAbs_mul, Int.natAbs_mul] at this
    exact this
  have h2 : (y.2[t]).natAbs ≤ (y.2[t]).natAbs * q.natAbs := Nat.le_mul_of_pos_right _ (by omega)
  have h3 : z.natAbs * (y.2.getD y.1 0).natAbs ≤ X * X ^ w := Nat.mul_le_mul zX pX
  rw [Nat.pow_succ, Nat.mul_comm (X ^ w)]
  omega
end E94
set_option linter.unusedVariables false
set_option linter.unusedSimpArgs false
namespace E94
open AlBase Al04
/-! T5: texts over any letters; how large the answers' numbers are -/
def bodyL (l : List Nat) (t : MT) : Bytes := if mon l t.1 = [] then numText t.2.1.natAbs t.2.2 else if t.2.1.natAbs = 1 ∧ t.2.2 = 1 then join [42] ((mon l t.1).map powText) else numText t.2.1.natAbs t.2.2 ++ 42 :: join [42] ((mon l t.1).map powText)
def moreL (l : List Nat) (u : MT) : Bytes := 32 :: (sgn u ++ 32 :: bodyL l u)
def textL (l : List Nat) : MP → Bytes
  | [] => [48]
  | t :: q => (if t.2.1 < 0 then 45 :: bodyL l t else bodyL l t) ++ q.flatMap (moreL l)
structure NT (t : MT) : Prop where
  top : t.2.1 ≠ 0
  nrm : NormT t
theorem NT.neg {t : MT} (h : NT t) : ratT t < 0 ↔ t.2.1 < 0 := by
  rw [← h.nrm.1]
  have := @Rat.num_nonneg (ratT t)
  constructor
  · intro q
    rcases Int.lt_or_le (ratT t).num 0 with g | g
    · exact g
    · exact absurd (this.mp g) (Rat.not_le.mpr q)
  · intro q
    exact Rat.not_le.mp fun g => by
      have := this.mpr g
      omega
theorem termText_L {m : Mono} {r : Rat} (h : 0 < r.num) : termText m r = if m = [] then numText r.num.natAbs r.den else if r.num.natAbs = 1 ∧ r.den = 1 then join [42] (m.map powText) else numText r.num.natAbs r.den ++ 42 :: join [42] (m.map powText) := by
  unfold termText
  have e1 : numberText r = numText r.num.natAbs r.den := by
    unfold numberText numText
    congr 2
    omega
  have e2 : r = 1 ↔ (r.num.natAbs = 1 ∧ r.den = 1) := by
    constructor
    · intro q; rw [q]; exact ⟨rfl, rfl⟩
    · rintro ⟨q1, q2⟩
      refine Rat.ext ?_ q2
      show r.num = 1
      omega
  rw [e1]
  by_cases m0 : m = []
  · rw [if_pos m0, if_pos m0]
  · rw [if_neg m0, if_neg m0]
    by_cases q : r = 1
    · rw [if_pos q, if_pos (e2.mp q)]
      rfl
    · rw [if_neg q, if_neg fun z => q (e2.mpr z)]
      rfl
theorem term_L (l : List Nat) {t : MT} (h : NT t) : (if ratT t < 0 then termText (mon l t.1) (-(ratT t)) else termText (mon l t.1) (ratT t)) = bodyL l t := by
  have h0 := h.top
  by_cases q : ratT t < 0
  · have q2 := h.neg.mp q
    have e : (-(ratT t)).num = -t.2.1 := by rw [Rat.neg_num, h.nrm.1]
    have e2 : (-(ratT t)).den = t.2.2 := by rw [Rat.neg_den, h.nrm.2]
    rw [if_pos q, termText_L (by rw [e]; omega), e, e2]
    unfold bodyL
    rw [Int.natAbs_neg]
  · have q2 : ¬ t.2.1 < 0 := fun z => q (h.neg.mpr z)
    rw [if_neg q, termText_L (by rw [h.nrm.1]; omega), h.nrm.1, h.nrm.2]
    rfl
theorem more_L (l : List Nat) {t : MT} (h : NT t) : moreText (mon l t.1, ratT t) = moreL l t := by
  have e := term_L l h
  unfold moreText moreL sgn
  by_cases q : ratT t < 0
  · rw [if_pos q] at e
    show (if ratT t < 0 then _ else _) = _
    rw [if_pos q, if_pos (h.neg.mp q), e]
    rfl
  · rw [if_neg q] at e
    show (if ratT t < 0 then _ else _) = _
    rw [if_neg q, if_neg (fun z => q (h.neg.mpr z)), e]
    rfl
theorem text_L {l : List Nat} {q : MP} (h : ∀ t ∈ q, NT t) : text (toPoly l q) = textL l q := by
  cases q with
  | nil => rfl
  | cons t q =>
    have ht := h t (List.mem_cons_self ..)
    have e := term_L l ht
    show (if ratT t < 0 then 45 :: termText (mon l t.1) (-(ratT t)) else termText (mon l t.1) (ratT t)) ++ (toPoly l q).flatMap moreText = (if t.2.1 < 0 then 45 :: bodyL l t else bodyL l t) ++ q.flatMap (moreL l)
    have e2 : (toPoly l q).flatMap moreText = q.flatMap (moreL l) := by
      unfold toPoly
      rw [List.flatMap_map, List.flatMap_def, List.flatMap_def]
      congr 1
      exact List.map_congr_left fun u hu => more_L l (h u (List.mem_cons_of_mem _ hu))
    rw [e2]
    congr 1
    by_cases q : ratT t < 0
    · rw [if_pos q] at e ⊢
      rw [if_pos (ht.neg.mp q), e]
    · rw [if_neg q] at e ⊢
      rw [if_neg (fun z => q (ht.neg.mpr z)), e]
theorem digits_le : ∀ (k n : Nat), n < 10 ^ k → 0 < k → (digits n).length ≤ k
  | 0, _, _, h => absurd h (by decide)
  | k + 1, n, hn, _ => by
    by_cases h : n < 10
    · rw [digits_lt h]; simp
    · rw [digits_ge h, List.length_append]
      have hk : 0 < k := by
        rcases Nat.eq_zero_or_pos k with h0 | h0
        · subst h0; simp at hn; omega
        · exact h0
      have := digits_le k (n / 10) (by rw [Nat.pow_succ] at hn; omega) hk
      simp
      omega
/-- two quotients that are one -/
theorem low_same {a b c d : Int} (hb : b ≠ 0) (hd : d ≠ 0) (h : a * d = c * b) : low a b = low c d := by
  have hb' : (b : Rat) ≠ 0 := fun z => hb (by exact_mod_cast z)
  have hd' : (d : Rat) ≠ 0 := fun z => hd (by exact_mod_cast z)
  have e : (a : Rat) / (b : Rat) = (c : Rat) / (d : Rat) := by
    have h' : (a : Rat) * (d : Rat) = (c : Rat) * (b : Rat) := by exact_mod_cast h
    grind
  unfold low
  rw [e]
end E94
set_option linter.unusedVariables false
set_option linter.unusedSimpArgs false
namespace E94
open AlBase Al04
/-! N1: rows over products, the heads of what follows, what's left -/
structure Cols (e l : List Nat) (d : Nat) (cols : List (List Nat)) : Prop where
  mem : ∀ c, c ∈ cols ↔ c.length = l.length ∧ c.sum ≤ d
  srt : cols.Pairwise fun a b => aboveBy e (mon l a) (mon l b) = true
theorem Cols.nodup {e l : List Nat} {d : Nat} {cols : List (List Nat)} (C : Cols e l d cols) : (cols.map (mon l)).Nodup :=
  List.pairwise_map.mpr (C.srt.imp fun h => aboveBy_ne h)
def wv (l : List Nat) (cols : List (List Nat)) (r : List Int) (m : Mono) : Rat := co ((cols.zip r).map fun x => (mon l x.1, ((x.2 : Int) : Rat))) m
theorem wv_at0 {l : List Nat} : ∀ {cols : List (List Nat)} {r : List Int}, (cols.map (mon l)).Nodup → r.length = cols.length → ∀ {j : Nat}, j < cols.length → wv l cols r (mon l (cols.getD j [])) = rf r j
  | [], _, _, _, j, hj => absurd hj (Nat.not_lt_zero _)
  | c :: cs, [], _, h, _, _ => by cases h
  | c :: cs, x :: r, hn, h, j, hj => by
    have hn1 := List.nodup_cons.mp hn
    unfold wv
    rw [List.zip_cons_cons, List.map_cons, co_cons]
    cases j with
    | zero => exact if_pos rfl
    | succ j =>
      have hj' : j < cs.length := by simpa using hj
      have : mon l c ≠ mon l ((c :: cs).getD (j + 1) []) := fun q => hn1.1 (by
        rw [q]
        show mon l (cs.getD j []) ∈ _
        exact List.mem_map_of_mem (getD_mem' hj'))
      rw [if_neg this]
      exact wv_at0 hn1.2 (by simpa using h) hj'
theorem wv_out {l : List Nat} {cols : List (List Nat)} {r : List Int} {m : Mono} (h : m ∉ cols.map (mon l)) : wv l cols r m = 0 := by
  refine co_not_mem fun x hx e => h ?_
  obtain ⟨y, hy, rfl⟩ := List.mem_map.mp hx
  rw [← e]
  exact List.mem_map_of_mem (List.of_mem_zip hy).1
theorem cols_ix {l : List Nat} {cols : List (List Nat)} {m : Mono} (h : m ∈ cols.map (mon l)) : ∃ j, j < cols.length ∧ m = mon l (cols.getD j []) := by
  obtain ⟨c, hc, rfl⟩ := List.mem_map.mp h
  obtain ⟨j, hj, rfl⟩ := List.mem_iff_getElem.mp hc
  refine ⟨j, hj, ?_⟩
  rw [List.getD_eq_getElem?_getD, List.getElem?_eq_getElem hj]
  rfl
/-- relations of rows are relations over products -/
theorem wv_lin {α : Type} {l : List Nat} {cols : List (List Nat)} (hn : (cols.map (mon l)).Nodup) {I : List α} {r : List Int} {f : α → List Int} {a : α → Rat} (hf : ∀ i ∈ I, (f i).length = cols.length) (hr : r.length = cols.length) (h : ∀ j, j < cols.length → rf r j = lin I a (fun i => rf (f i)) j) (m : Mono) : wv l cols r m = lin I a (fun i => wv l cols (f i)) m := by
  by_cases hm : m ∈ cols.map (mon l)
  · obtain ⟨j, hj, rfl⟩ := cols_ix hm
    rw [wv_at0 hn hr hj, h j hj]
    exact lin_congr2 fun i hi => by rw [wv_at0 hn (hf i hi) hj]
  · rw [wv_out hm]
    exact (lin_zeroV fun i _ => wv_out hm).symm
theorem wv_span {α : Type} {l : List Nat} {cols : List (List Nat)} (hn : (cols.map (mon l)).Nodup) {I : List α} {r : List Int} {f : α → List Int} (hf : ∀ i ∈ I, (f i).length = cols.length) (hr : r.length = cols.length) (h : InSpan I (fun i => rf (f i)) (rf r)) : InSpan I (fun i => wv l cols (f i)) (wv l cols r) := by
  obtain ⟨a, ha⟩ := h
  exact ⟨a, wv_lin hn hf hr fun j _ => ha j⟩
/-! the rows of multiples -/
def rowM (cols : List (List Nat)) (q : List Nat) (p : MP) : List Int := cols.map fun c => colGet (scaledMul q p) c
theorem rowM_len (cols : List (List Nat)) (q : List Nat) (p : MP) : (rowM cols q p).length = cols.length := List.length_map ..
theorem rowM_get {cols : List (List Nat)} {q : List Nat} {p : MP} {j : Nat} (hj : j < cols.length) : (rowM cols q p).getD j 0 = colGet (scaledMul q p) (cols.getD j []) := by
  unfold rowM
  rw [List.getD_eq_getElem?_getD, List.getD_eq_getElem?_getD, List.getElem?_map, List.getElem?_eq_getElem hj]
  rfl
theorem wv_row {e l : List Nat} {d : Nat} {cols : List (List Nat)} (hl : l.Pairwise (· < ·)) (C : Cols e l d cols) {q : List Nat} {p : MP} (hp : GoodP l.length p) (hq : q.length = l.length) (hs : q.sum + degM p ≤ d) (m : Mono) : wv l cols (rowM cols q p) m = (scaleOf p : Int) * co (mul [(mon l q, 1)] (toPoly l p)) m := by
  by_cases hm : m ∈ cols.map (mon l)
  · obtain ⟨j, hj, rfl⟩ := cols_ix hm
    rw [wv_at0 C.nodup (rowM_len ..) hj, ← colGet_co hl hp hq ((C.mem _).mp (getD_mem' hj)).1]
    unfold rf
    rw [rowM_get hj]
  · rw [wv_out hm, mul_mono hl hq (toPoly_over hp) (toPoly_can hl hp)]
    have : co ((toPoly l p).map fun y => (times (mon l q) y.1, y.2)) m = 0 := by
      refine co_not_mem fun x hx ex => hm ?_
      obtain ⟨y, hy, rfl⟩ := List.mem_map.mp hx
      obtain ⟨t, ht, rfl⟩ := List.mem_map.mp hy
      rw [← ex]
      have ht1 := hp.len t ht
      have ht2 := degM_le hp (Nat.le_refl _) t ht
      refine List.mem_map.mpr ⟨addC q t.1, (C.mem _).mpr ⟨by rw [addC_len (by rw [hq, ht1]), hq], by rw [addC_sum (by rw [hq, ht1])]; omega⟩, ?_⟩
      exact (mon_times hl hq ht1).symm
    rw [this]
    grind
structure HB (e l : List Nat) (d : Nat) (eqs : List MP) (cols : List (List Nat)) : Prop where
  hl : l.Pairwise (· < ·)
  hk : 0 < l.length
  he : ∀ q ∈ eqs, GoodP l.length q
  C : Cols e l d cols
def rowsB (cols : List (List Nat)) (d k : Nat) (eqs : List MP) : List (List Int) := (multiplesM d k eqs).map fun i => rowM cols i.2 (eqs.getD i.1 [])
section
variable {e l : List Nat} {d : Nat} {eqs : List MP} {cols : List (List Nat)} {U : List (List Int)} {F : Found}
theorem rowsB_len : ∀ r ∈ rowsB cols d l.length eqs, r.length = cols.length := fun r hr => by
  obtain ⟨i, _, rfl⟩ := List.mem_map.mp hr
  exact rowM_len ..
theorem rowsB_vec (H : HB e l d eqs cols) {i : Nat × List Nat} (hi : i ∈ multiplesM d l.length eqs) (m : Mono) : wv l cols (rowM cols i.2 (eqs.getD i.1 [])) m = (scaleOf (eqs.getD i.1 []) : Int) * vec (eqs.map (toPoly l)) (i.1, mon l i.2) m := by
  have h := mulM_mem H.hk hi
  rw [wv_row H.hl H.C (H.he _ h.2.1) h.2.2.1 h.2.2.2]
  unfold vec
  rw [getD_toPoly]
theorem spanF (H : HB e l d eqs cols) (R : Red cols.length (rowsB cols d l.length eqs) U F) {v : Mono → Rat} : InSpan F (fun y => wv l cols y.2) v ↔ InSpan (ixs l d (eqs.map (toPoly l))) (vec (eqs.map (toPoly l))) v := by
  rw [ixs_multiplesM H.hl H.hk d H.he]
  have inRow : ∀ r ∈ rowsB cols d l.length eqs, InSpan ((multiplesM d l.length eqs).map fun i => (i.1, mon l i.2)) (vec (eqs.map (toPoly l))) (wv l cols r) := fun r hr => by
    obtain ⟨i, hi, rfl⟩ := List.mem_map.mp hr
    exact ((InSpan.mem (V := vec (eqs.map (toPoly l))) (List.mem_map_of_mem (f := fun i : Nat × List Nat => ((i.1, mon l i.2) : Ix)) hi)).smul _).of_eq (rowsB_vec H hi)
  constructor
  · intro h
    refine h.trans fun y hy => ?_
    refine (wv_span (f := fun r => r) H.C.nodup (fun u hu => rowsB_len u (R.used u hu)) (R.len y hy) (R.spU y hy)).trans fun u hu => inRow u (R.used u hu)
  · intro h
    refine h.trans fun x hx => ?_
    obtain ⟨i, hi, rfl⟩ := List.mem_map.mp hx
    have hm := mulM_mem H.hk hi
    have hr : rowM cols i.2 (eqs.getD i.1 []) ∈ rowsB cols d l.length eqs := List.mem_map_of_mem hi
    have h1 := wv_span (l := l) (f := fun y : Nat × List Int => y.2) H.C.nodup R.len (rowsB_len _ hr) (R.spF _ hr)
    have s0 := natCast_ne (scaleOf_pos (H.he _ hm.2.1).pos)
    refine (h1.smul (1 / ((scaleOf (eqs.getD i.1 []) : Int) : Rat))).of_eq fun m => ?_
    rw [rowsB_vec H hi]
    show vec (eqs.map (toPoly l)) (i.1, mon l i.2) m = _
    grind
def hdF (l : List Nat) (cols : List (List Nat)) (y : Nat × List Int) : Mono := mon l (cols.getD y.1 [])
theorem wv_hdF (H : HB e l d eqs cols) (R : Red cols.length (rowsB cols d l.length eqs) U F) {y z : Nat × List Int} (hy : y ∈ F) (hz : z ∈ F) : wv l cols y.2 (hdF l cols z) = rf y.2 z.1 := wv_at0 H.C.nodup (R.len y hy) (R.lt z hz)
theorem leadF (H : HB e l d eqs cols) (R : Red cols.length (rowsB cols d l.length eqs) U F) {y : Nat × List Int} (hy : y ∈ F) : Lead e (wv l cols y.2) (hdF l cols y) := by
  refine ⟨?_, fun m hm ne => ?_⟩
  · rw [wv_hdF H R hy hy]
    exact R.piv y hy
  · have hin : m ∈ cols.map (mon l) := Classical.byContradiction fun q => hm (wv_out q)
    obtain ⟨j, hj, rfl⟩ := cols_ix hin
    rw [wv_at0 H.C.nodup (R.len y hy) hj] at hm
    have h1 : ¬ j < y.1 := fun q => hm (R.low y hy j q)
    have h2 : j ≠ y.1 := fun q => ne (by rw [q]; rfl)
    exact pair_get H.C.srt (by omega) hj
theorem linF (H : HB e l d eqs cols) (R : Red cols.length (rowsB cols d l.length eqs) U F) (a : Nat × List Int → Rat) {y : Nat × List Int} (hy : y ∈ F) : lin F a (fun y => wv l cols y.2) (hdF l cols y) = a y * rf y.2 y.1 := by
  have nd : F.Nodup := by
    have := R.keys_nodup
    exact (List.pairwise_map.mp this).imp fun h q => h (by rw [q])
  rw [lin_single (c := y) nd hy fun z hz q => ?_, wv_hdF H R hy hy]
  rw [wv_hdF H R hz hy, R.offOf hz hy fun w => q (R.same hz hy w)]
  grind
theorem spanF_zero (H : HB e l d eqs cols) (R : Red cols.length (rowsB cols d l.length eqs) U F) {v : Mono → Rat} (hv : InSpan F (fun y => wv l cols y.2) v) (hz : ∀ y ∈ F, v (hdF l cols y) = 0) : ∀ m, v m = 0 := by
  obtain ⟨a, ha⟩ := hv
  intro m
  rw [ha m]
  refine lin_zero fun y hy => ?_
  have h1 := hz y hy
  rw [ha, linF H R a hy] at h1
  have := R.piv y hy
  grind
/-- whatever follows has its head among the heads -/
theorem head_in {α : Type} {I : List α} {V : α → Mono → Rat} {hh : α → Mono} {v : Mono → Rat} {h : Mono} {a : α → Rat} (hl : ∀ i ∈ I, Lead e (V i) (hh i)) (ha : ∀ m, v m = lin I a V m) (hz : ∀ i ∈ I, a i ≠ 0 → v (hh i) ≠ 0) (lv : Lead e v h) : ∃ i ∈ I, hh i = h := by
  refine Classical.byContradiction fun no => ?_
  have no' : ∀ i ∈ I, hh i ≠ h := fun i hi q => no ⟨i, hi, q⟩
  refine lv.1 ?_
  rw [ha h]
  have : ∀ {J : List α}, (∀ i ∈ J, i ∈ I) → lin J a V h = 0 := by
    intro J
    induction J with
    | nil => intro _; rfl
    | cons i J ih =>
      intro hJ
      have hi := hJ i (List.mem_cons_self ..)
      rw [lin_cons, ih fun j hj => hJ j (List.mem_cons_of_mem _ hj)]
      by_cases a0 : a i = 0
      · rw [a0]; grind
      · by_cases v0 : V i h = 0
        · rw [v0]; grind
        · exfalso
          have h1 := (hl i hi).2 h v0 (no' i hi).symm
          have h2 := lv.2 (hh i) (hz i hi a0) (no' i hi)
          have := aboveBy_trans h1 h2
          rw [aboveBy_irrefl] at this
          cases this
  exact this fun i hi => hi
theorem eqsOk (H : HB e l d eqs cols) : EqsOk l (eqs.map (toPoly l)) := ⟨fun q hq => by
  obtain ⟨p, hp, rfl⟩ := List.mem_map.mp hq
  exact toPoly_can H.hl (H.he p hp), fun q hq => by
  obtain ⟨p, hp, rfl⟩ := List.mem_map.mp hq
  exact toPoly_over (H.he p hp)⟩
theorem specB (H : HB e l d eqs cols) : Bas e eqs.length (sel (vec (eqs.map (toPoly l))) (ixs l d (eqs.map (toPoly l)))) (vec (eqs.map (toPoly l))) (basisOf e l d (eqs.map (toPoly l))) := by
  have := basisOf_bas (d := d) H.hl (eqsOk H) e
  rw [List.length_map] at this
  exact this
theorem spanB (H : HB e l d eqs cols) (R : Red cols.length (rowsB cols d l.length eqs) U F) {v : Mono → Rat} : InSpan (basisOf e l d (eqs.map (toPoly l))) (fun b => co b.1) v ↔ InSpan F (fun y => wv l cols y.2) v := by
  rw [spanF H R, (specB H).span_iff]
  exact ⟨fun q => q.sub (sel_sub _ _), fun q => q.trans (sel_span _ _)⟩
theorem headsB (H : HB e l d eqs cols) (R : Red cols.length (rowsB cols d l.length eqs) U F) {b : Made} (hb : b ∈ basisOf e l d (eqs.map (toPoly l))) : ∃ y ∈ F, hdF l cols y = hd e b := by
  have h1 : InSpan (basisOf e l d (eqs.map (toPoly l))) (fun b => co b.1) (co b.1) := InSpan.mem (V := fun b : Made => co b.1) hb
  obtain ⟨a, ha⟩ := (spanB H R).mp h1
  refine head_in (fun y hy => leadF H R hy) ha (fun y hy a0 => ?_) ((specB H).b0.lead b hb)
  rw [ha, linF H R a hy]
  have := R.piv y hy
  grind
theorem headsF (H : HB e l d eqs cols) (R : Red cols.length (rowsB cols d l.length eqs) U F) {y : Nat × List Int} (hy : y ∈ F) : ∃ b ∈ basisOf e l d (eqs.map (toPoly l)), hd e b = hdF l cols y := by
  have h1 : InSpan F (fun y => wv l cols y.2) (wv l cols y.2) := InSpan.mem (V := fun y : Nat × List Int => wv l cols y.2) hy
  obtain ⟨a, ha⟩ := (spanB H R).mpr h1
  refine head_in (fun b hb => (specB H).b0.lead b hb) ha (fun b hb a0 => ?_) (leadF H R hy)
  rw [ha, lin_head a (specB H).b0 b hb]
  exact a0
/-- what's left, told by what it is -/
theorem left_unique (H : HB e l d eqs cols) (R : Red cols.length (rowsB cols d l.length eqs) U F) {x : Made} (hx : Can x.1) {v : Mono → Rat} (hv : InSpan F (fun y => wv l cols y.2) fun m => v m - co x.1 m) (hz : ∀ y ∈ F, v (hdF l cols y) = 0) : ∀ m, co (reduce e (basisOf e l d (eqs.map (toPoly l))) x).1 m = v m := by
  have hs := (spanB H R).mp (reduce_span (e := e) (B := basisOf e l d (eqs.map (toPoly l))) (x := x) (fun b hb => (specB H).b0.can b hb) hx)
  have h0 : ∀ m, (co (reduce e (basisOf e l d (eqs.map (toPoly l))) x).1 m - v m) = 0 := by
    refine spanF_zero H R ((hs.add (hv.smul (-1))).of_eq fun m => ?_) fun y hy => ?_
    · grind
    · obtain ⟨b, hb, eb⟩ := headsF H R hy
      rw [hz y hy, ← eb, reduce_free (specB H).b0 hx b hb]
      grind
  intro m
  have := h0 m
  grind
end
end E94
set_option linter.unusedVariables false
set_option linter.unusedSimpArgs false
namespace E94
open AlBase Al04
/-! N2: what's left by rows -/
theorem rest_fold0 {w : Nat} : ∀ {F : Found} {r : List Int}, Fok w F → r.length = w →
    let R := F.foldl (fun r y => withZero y.1 r y.2) r
    R.length = w ∧ (∀ y ∈ F, rf R y.1 = 0) ∧ (∀ k, (∀ y ∈ F, rf y.2 k = 0) → rf r k = 0 → rf R k = 0) ∧ ∃ c : Rat, c ≠ 0 ∧ InSpan F fv fun j => rf R j - c * rf r j
  | [], r, _, hr => ⟨hr, (fun _ h => nomatch h), (fun k _ h => h), 1, by decide, (InSpan.zero _ _).of_eq fun j => by show rf r j - 1 * rf r j = 0; grind⟩
  | y :: F, r, h, hr => by
    have hy : y.2.length = w := h.len y (List.mem_cons_self ..)
    have hyp := h.piv y (List.mem_cons_self ..)
    have ho := List.pairwise_cons.mp h.off
    obtain ⟨c1, c2, hc, e, ez⟩ := withZero_rel (row := r) (by rw [hr, hy]) hyp
    have ih := rest_fold0 (F := F) (r := withZero y.1 r y.2) ⟨fun z hz => h.len z (List.mem_cons_of_mem _ hz), fun z hz => h.piv z (List.mem_cons_of_mem _ hz), ho.2⟩ (by rw [withZero_len (by rw [hr, hy]), hr])
    dsimp only at ih ⊢
    rw [List.foldl_cons]
    obtain ⟨i1, i3, i4, c, hc', i5⟩ := ih
    refine ⟨i1, fun z hz => ?_, fun k hk hrk => i4 k (fun z hz => hk z (List.mem_cons_of_mem _ hz)) ?_, c * c1, by grind, ?_⟩
    · rcases List.mem_cons.mp hz with rfl | hz
      · exact i4 _ (fun z hz => (ho.1 z hz).2) ez
      · exact i3 z hz
    · rw [e, hrk, hk y (List.mem_cons_self ..)]; grind
    · have m1 := i5.sub (J := y :: F) fun i hi => List.mem_cons_of_mem _ hi
      have m2 : InSpan (y :: F) fv (fv y) := InSpan.mem (List.mem_cons_self ..)
      refine (m1.add (m2.smul (c * c2))).of_eq fun j => ?_
      rw [e j]
      show _ = _ + c * c2 * rf y.2 j
      grind
theorem rf_snoc0 (r : List Int) (j : Nat) : rf (r ++ [0]) j = rf r j := by
  unfold rf
  congr 1
  rw [List.getD_eq_getElem?_getD, List.getD_eq_getElem?_getD]
  rcases Nat.lt_trichotomy j r.length with h | h | h
  · rw [List.getElem?_append_left h]
  · rw [List.getElem?_append_right (by omega), List.getElem?_eq_none (l := r) (by omega), h, Nat.sub_self]
    rfl
  · rw [List.getElem?_eq_none (by rw [List.length_append]; simp; omega), List.getElem?_eq_none (l := r) (by omega)]
theorem rf_out {r : List Int} {j : Nat} (h : r.length ≤ j) : rf r j = 0 := by
  unfold rf
  rw [List.getD_eq_getElem?_getD, List.getElem?_eq_none h]
  rfl
theorem rf_left {r : List Int} {x : Int} {j : Nat} (h : j < r.length) : rf (r ++ [x]) j = rf r j := by
  unfold rf
  rw [List.getD_eq_getElem?_getD, List.getD_eq_getElem?_getD, List.getElem?_append_left h]
theorem rf_last (r : List Int) (x : Int) : rf (r ++ [x]) r.length = (x : Rat) := by
  unfold rf
  rw [List.getD_eq_getElem?_getD, List.getElem?_append_right (Nat.le_refl _), Nat.sub_self]
  rfl
theorem rf_take {r : List Int} {n j : Nat} (h : j < n) : rf (r.take n) j = rf r j := by
  unfold rf
  rw [List.getD_eq_getElem?_getD, List.getD_eq_getElem?_getD, List.getElem?_take, if_pos h]
def leftStep (r : List Int) (y : Nat × List Int) : List Int := withZero y.1 r (y.2 ++ [0])
def leftRow (F : Found) (r : List Int) : List Int := F.foldl leftStep r
def startRow (cols : List (List Nat)) (z : List Nat) (p : MP) : List Int := rowM cols z p ++ [(scaleOf p : Int)]
def termsOf (xs : List (List Nat × Int)) (D : Int) : MP := xs.filterMap fun x => if x.2 = 0 then none else some (x.1, low x.2 D)
def leftTerms (cols : List (List Nat)) (r : List Int) : MP := termsOf (cols.zip (r.take cols.length)) (r.getD cols.length 0)
theorem leftRow_ext (F : Found) (r : List Int) : leftRow F r = (F.map fun y => (y.1, y.2 ++ [0])).foldl (fun r y => withZero y.1 r y.2) r := by
  unfold leftRow
  rw [List.foldl_map]
  rfl
theorem leftRow_spec {w : Nat} {done U : List (List Int)} {F : Found} (R : Red w done U F) {r : List Int} (hr : r.length = w + 1) :
    (leftRow F r).length = w + 1 ∧ (∀ y ∈ F, rf (leftRow F r) y.1 = 0) ∧ ∃ c : Rat, c ≠ 0 ∧ InSpan F fv fun j => rf (leftRow F r) j - c * rf r j := by
  rw [leftRow_ext]
  have ok : Fok (w + 1) (F.map fun y => (y.1, y.2 ++ [0])) := by
    refine ⟨fun y hy => ?_, fun y hy => ?_, List.pairwise_map.mpr (R.off.imp fun h => ?_)⟩
    · obtain ⟨z, hz, rfl⟩ := List.mem_map.mp hy
      show (z.2 ++ [0]).length = _
      rw [List.length_append, R.len z hz]
      rfl
    · obtain ⟨z, hz, rfl⟩ := List.mem_map.mp hy
      show rf (z.2 ++ [0]) z.1 ≠ 0
      rw [rf_snoc0]
      exact R.piv z hz
    · show rf (_ ++ [0]) _ = 0 ∧ rf (_ ++ [0]) _ = 0
      rw [rf_snoc0, rf_snoc0]
      exact h
  have h := rest_fold0 ok hr
  dsimp only at h
  obtain ⟨h1, h2, _, c, hc, a, ha⟩ := h
  refine ⟨h1, fun y hy => h2 (y.1, y.2 ++ [0]) (List.mem_map_of_mem (f := fun y : Nat × List Int => (y.1, y.2 ++ [(0 : Int)])) hy), c, hc, fun y => a (y.1, y.2 ++ [0]), fun j => ?_⟩
  rw [ha j, lin_map]
  refine lin_congr2 fun y _ => ?_
  show _ * rf (y.2 ++ [0]) j = _
  rw [rf_snoc0]
/-! terms of a row -/
theorem tot_terms (l : List Nat) (D : Int) (m : Mono) : ∀ xs : List (List Nat × Int), tot (toPoly l (termsOf xs D)) m = tot (xs.map fun x => (mon l x.1, ((x.2 : Int) : Rat))) m / (D : Rat)
  | [] => by show (0 : Rat) = 0 / _; grind
  | x :: xs => by
    have ih := tot_terms l D m xs
    rw [List.map_cons]
    unfold termsOf at ih ⊢
    rw [List.filterMap_cons]
    by_cases h : x.2 = 0
    · simp only [h, if_true]
      rw [ih]
      show _ = ((if mon l x.1 = m then ((0 : Int) : Rat) else 0) + _) / _
      have : ((0 : Int) : Rat) = 0 := rfl
      rw [this]
      grind
    · simp only [h, if_false]
      show (if mon l x.1 = m then ratT (x.1, low x.2 D) else 0) + tot (toPoly l _) m = ((if mon l x.1 = m then ((x.2 : Int) : Rat) else 0) + _) / _
      rw [ih, low_rat]
      grind
theorem termsOf_mem {xs : List (List Nat × Int)} {D : Int} {t : MT} (h : t ∈ termsOf xs D) : ∃ x ∈ xs, x.2 ≠ 0 ∧ t = (x.1, low x.2 D) := by
  obtain ⟨x, hx, e⟩ := List.mem_filterMap.mp h
  split at e
  · cases e
  · rename_i q
    exact ⟨x, hx, q, (Option.some.inj e).symm⟩
theorem low_top {a b : Int} (ha : a ≠ 0) (hb : b ≠ 0) : (low a b).1 ≠ 0 := by
  intro z
  have z1 := Rat.num_eq_zero.mp z
  have a' : (a : Rat) ≠ 0 := fun q => ha (by exact_mod_cast q)
  have b' : (b : Rat) ≠ 0 := fun q => hb (by exact_mod_cast q)
  grind
theorem terms_pair {R : List Nat → List Nat → Prop} {cols : List (List Nat)} {r : List Int} {D : Int} (h : cols.Pairwise R) : (termsOf (cols.zip r) D).Pairwise fun t u => R t.1 u.1 := by
  have hz : (cols.zip r).Pairwise fun x y => R x.1 y.1 := by
    induction cols generalizing r with
    | nil => exact List.Pairwise.nil
    | cons c cs ih =>
      cases r with
      | nil => exact List.Pairwise.nil
      | cons a r =>
        have h1 := List.pairwise_cons.mp h
        rw [List.zip_cons_cons]
        exact List.pairwise_cons.mpr ⟨fun y hy => h1.1 _ (List.of_mem_zip hy).1, ih h1.2⟩
  refine List.pairwise_filterMap.mpr (hz.imp ?_)
  intro x y q t ht u hu
  split at ht
  · cases ht
  · split at hu
    · cases hu
    · rw [← Option.some.inj ht, ← Option.some.inj hu]
      exact q
theorem terms_good {k : Nat} {cols : List (List Nat)} {r : List Int} {D : Int} (hD : D ≠ 0) (hk : ∀ c ∈ cols, c.length = k) (hs : (termsOf (cols.zip r) D).Pairwise fun t u => cntGt t.1 u.1 = true) : GoodP k (termsOf (cols.zip r) D) ∧ ∀ t ∈ termsOf (cols.zip r) D, NT t := by
  have each : ∀ t ∈ termsOf (cols.zip r) D, t.1.length = k ∧ 0 < t.2.2 ∧ t.2.1 ≠ 0 ∧ NormT t := fun t ht => by
    obtain ⟨x, hx, x0, rfl⟩ := termsOf_mem ht
    exact ⟨hk _ (List.of_mem_zip hx).1, Rat.den_pos _, low_top x0 hD, low_norm ..⟩
  exact ⟨⟨fun t ht => (each t ht).1, fun t ht => (each t ht).2.1, fun t ht => (each t ht).2.2.1, hs⟩, fun t ht => ⟨(each t ht).2.2.1, (each t ht).2.2.2⟩⟩
/-- the polynomial of a row -/
theorem co_terms {l : List Nat} {cols : List (List Nat)} {r : List Int} {D : Int} (hn : (cols.map (mon l)).Nodup) (hr : r.length = cols.length) (m : Mono) (ho : Once (toPoly l (termsOf (cols.zip r) D))) : co (toPoly l (termsOf (cols.zip r) D)) m = wv l cols r m / (D : Rat) := by
  rw [← ho.tot_co, tot_terms]
  congr 1
  refine Once.tot_co ?_ m
  have e : ((cols.zip r).map fun x => (mon l x.1, ((x.2 : Int) : Rat))).map (·.1) = cols.map (mon l) := by
    rw [List.map_map]
    have : ((fun x : Mono × Rat => x.1) ∘ fun x : List Nat × Int => (mon l x.1, ((x.2 : Int) : Rat))) = mon l ∘ (·.1) := rfl
    rw [this, ← List.map_map, List.map_fst_zip (by omega)]
  have hn' := hn
  rw [← e] at hn'
  exact List.pairwise_map.mp hn'
def colsM (d k : Nat) : List (List Nat) := (prodsW d k).reverse
def basisM (d k : Nat) (eqs : List MP) : Found := reduced (rowsB (colsM d k) d k eqs)
def leftM (d k : Nat) (p : MP) (eqs : List MP) : MP := leftTerms (colsM d k) (leftRow (basisM d k eqs) (startRow (colsM d k) (List.replicate k 0) p))
theorem has_nil (m : Mono) : has [] m = false := by simp [has]
theorem aboveBy_nil (m n : Mono) : aboveBy [] m n = above m n := by simp [aboveBy, has_nil]
theorem colsM_cols {l : List Nat} (hl : l.Pairwise (· < ·)) (hk : 0 < l.length) (d : Nat) : Cols [] l d (colsM d l.length) := by
  have h := prodsW_spec (d : Int) hk
  have hm : ∀ c, c ∈ colsM d l.length ↔ c.length = l.length ∧ c.sum ≤ d := fun c => by
    unfold colsM
    rw [List.mem_reverse, h.2]
    omega
  refine ⟨hm, ?_⟩
  have : (colsM d l.length).Pairwise fun a b => cntGt a b = true := List.pairwise_reverse.mpr h.1
  refine this.imp_of_mem ?_
  intro a b ha hb q
  rw [aboveBy_nil, mon_aboveC hl ((hm a).mp ha).1 ((hm b).mp hb).1]
  exact q
theorem colsM_srt (d : Nat) {k : Nat} (hk : 0 < k) : (colsM d k).Pairwise fun a b => cntGt a b = true := List.pairwise_reverse.mpr (prodsW_spec (d : Int) hk).1
theorem colsM_len (d : Nat) {k : Nat} (hk : 0 < k) : ∀ c ∈ colsM d k, c.length = k := fun c hc => by
  have := ((prodsW_spec (d : Int) hk).2 c).mp (List.mem_reverse.mp hc)
  exact this.1
theorem good_once {l : List Nat} {p : MP} (hl : l.Pairwise (· < ·)) (h : GoodP l.length p) : Once (toPoly l p) := (toPoly_can hl h).1.once
section
variable {l : List Nat} {d : Nat} {eqs : List MP} {p : MP}
theorem Hyp.hb (H : Hyp l d eqs p) : HB [] l d eqs (colsM d l.length) := ⟨H.hl, H.hk, H.he, colsM_cols H.hl H.hk d⟩
/-- the row that is left, and the number that it is to be divided by -/
theorem left_row (H : Hyp l d eqs p) {U : List (List Int)} (R : Red (colsM d l.length).length (rowsB (colsM d l.length) d l.length eqs) U (basisM d l.length eqs)) :
    let r := leftRow (basisM d l.length eqs) (startRow (colsM d l.length) (List.replicate l.length 0) p)
    r.length = (colsM d l.length).length + 1 ∧ r.getD (colsM d l.length).length 0 ≠ 0 ∧ (∀ y ∈ basisM d l.length eqs, rf r y.1 = 0) ∧
    InSpan (basisM d l.length eqs) (fun y => wv l (colsM d l.length) y.2) fun m => wv l (colsM d l.length) (r.take (colsM d l.length).length) m / (r.getD (colsM d l.length).length 0 : Int) - co (toPoly l p) m := by
  have hst : (startRow (colsM d l.length) (List.replicate l.length 0) p).length = (colsM d l.length).length + 1 := by
    unfold startRow
    rw [List.length_append, rowM_len]
    rfl
  obtain ⟨h1, h2, c, hc, a, ha⟩ := leftRow_spec R hst
  dsimp only
  generalize hr : leftRow (basisM d l.length eqs) (startRow (colsM d l.length) (List.replicate l.length 0) p) = r at *
  have s0 := natCast_ne (scaleOf_pos H.hp.pos)
  have last : rf r (colsM d l.length).length = c * ((scaleOf p : Int) : Rat) := by
    have h : rf r (colsM d l.length).length - c * rf (startRow (colsM d l.length) (List.replicate l.length 0) p) (colsM d l.length).length = lin (basisM d l.length eqs) a fv (colsM d l.length).length := ha (colsM d l.length).length
    have e : rf (startRow (colsM d l.length) (List.replicate l.length 0) p) (colsM d l.length).length = ((scaleOf p : Int) : Rat) := by
      have := rf_last (rowM (colsM d l.length) (List.replicate l.length 0) p) (scaleOf p : Int)
      rw [rowM_len] at this
      exact this
    rw [lin_zeroV fun y hy => rf_out (by rw [R.len y hy]; exact Nat.le_refl _), e] at h
    grind
  have last0 : rf r (colsM d l.length).length ≠ 0 := by rw [last]; grind
  have C := colsM_cols H.hl H.hk d
  have HBp := H.hb
  refine ⟨h1, fun q => last0 (rf_zero.mpr q), h2, fun y => a y / (c * ((scaleOf p : Int) : Rat)), fun m => ?_⟩
  show wv l (colsM d l.length) (r.take (colsM d l.length).length) m / rf r (colsM d l.length).length - co (toPoly l p) m = _
  rw [last]
  have unit : co (toPoly l p) m * ((scaleOf p : Int) : Rat) = wv l (colsM d l.length) (rowM (colsM d l.length) (List.replicate l.length 0) p) m := by
    rw [wv_row H.hl C H.hp (List.length_replicate ..) (by simp; exact H.hd), mul_unit H.hl H.hp]
    grind
  by_cases hm : m ∈ (colsM d l.length).map (mon l)
  · obtain ⟨j, hj, rfl⟩ := cols_ix hm
    have tl : (r.take (colsM d l.length).length).length = (colsM d l.length).length := by rw [List.length_take, h1]; omega
    rw [wv_at0 C.nodup tl hj, rf_take hj]
    rw [wv_at0 C.nodup (rowM_len ..) hj] at unit
    have hj2 : rf r j - c * rf (startRow (colsM d l.length) (List.replicate l.length 0) p) j = lin (basisM d l.length eqs) a fv j := ha j
    have e : rf (startRow (colsM d l.length) (List.replicate l.length 0) p) j = rf (rowM (colsM d l.length) (List.replicate l.length 0) p) j := rf_left (by rw [rowM_len]; exact hj)
    rw [e, ← unit] at hj2
    have e2 : lin (basisM d l.length eqs) (fun y => a y / (c * ((scaleOf p : Int) : Rat))) (fun y => wv l (colsM d l.length) y.2) (mon l ((colsM d l.length).getD j [])) = (1 / (c * ((scaleOf p : Int) : Rat))) * lin (basisM d l.length eqs) a fv j := by
      rw [← lin_smul]
      refine lin_congr2 fun y hy => ?_
      rw [wv_at0 C.nodup (R.len y hy) hj]
      grind
    rw [e2, ← hj2]
    grind
  · rw [wv_out hm] at unit ⊢
    rw [lin_zeroV fun y _ => wv_out hm]
    grind
theorem left_good (H : Hyp l d eqs p) : GoodP l.length (leftM d l.length p eqs) ∧ ∀ t ∈ leftM d l.length p eqs, NT t := by
  obtain ⟨U, R⟩ := red_all (w := (colsM d l.length).length) (rows := rowsB (colsM d l.length) d l.length eqs) rowsB_len
  have h := left_row H R
  exact terms_good h.2.1 (colsM_len d H.hk) (terms_pair (colsM_srt d H.hk))
theorem leftM_co (H : Hyp l d eqs p) (m : Mono) : co (toPoly l (leftM d l.length p eqs)) m = wv l (colsM d l.length) ((leftRow (basisM d l.length eqs) (startRow (colsM d l.length) (List.replicate l.length 0) p)).take (colsM d l.length).length) m / ((leftRow (basisM d l.length eqs) (startRow (colsM d l.length) (List.replicate l.length 0) p)).getD (colsM d l.length).length 0 : Int) := by
  obtain ⟨U, R⟩ := red_all (w := (colsM d l.length).length) (rows := rowsB (colsM d l.length) d l.length eqs) rowsB_len
  have h := left_row H R
  refine co_terms (colsM_cols H.hl H.hk d).nodup ?_ m (good_once H.hl (left_good H).1)
  rw [List.length_take, h.1]
  omega
/-- **what's left, by rows, is the specification's** -/
theorem left_spec (H : Hyp l d eqs p) : (leftOf l d (eqs.map (toPoly l)) (toPoly l p)).1 = toPoly l (leftM d l.length p eqs) := by
  obtain ⟨U, R⟩ := red_all (w := (colsM d l.length).length) (rows := rowsB (colsM d l.length) d l.length eqs) rowsB_len
  have h := left_row H R
  have hp := toPoly_can H.hl H.hp
  unfold leftOf
  rw [List.length_map]
  refine Can.ext (reduce_can (x := (toPoly l p, howNone eqs.length)) hp) (toPoly_can H.hl (left_good H).1) fun m => ?_
  rw [leftM_co H]
  refine left_unique H.hb R (x := (toPoly l p, howNone eqs.length)) (v := fun m => wv l (colsM d l.length) ((leftRow (basisM d l.length eqs) (startRow (colsM d l.length) (List.replicate l.length 0) p)).take (colsM d l.length).length) m / ((leftRow (basisM d l.length eqs) (startRow (colsM d l.length) (List.replicate l.length 0) p)).getD (colsM d l.length).length 0 : Int)) hp h.2.2.2 (fun y hy => ?_) m
  have tl : ((leftRow (basisM d l.length eqs) (startRow (colsM d l.length) (List.replicate l.length 0) p)).take (colsM d l.length).length).length = (colsM d l.length).length := by rw [List.length_take, h.1]; omega
  show wv l _ _ (hdF l _ y) / _ = 0
  unfold hdF
  rw [wv_at0 (colsM_cols H.hl H.hk d).nodup tl (R.lt y hy), rf_take (R.lt y hy), h.2.2.1 y hy]
  grind
theorem left_free (H : Hyp l d eqs p) {U : List (List Int)} (R : Red (colsM d l.length).length (rowsB (colsM d l.length) d l.length eqs) U (basisM d l.length eqs)) {y : Nat × List Int} (hy : y ∈ basisM d l.length eqs) : co (toPoly l (leftM d l.length p eqs)) (hdF l (colsM d l.length) y) = 0 := by
  have h := left_row H R
  have tl : ((leftRow (basisM d l.length eqs) (startRow (colsM d l.length) (List.replicate l.length 0) p)).take (colsM d l.length).length).length = (colsM d l.length).length := by rw [List.length_take, h.1]; omega
  rw [leftM_co H]
  unfold hdF
  rw [wv_at0 (colsM_cols H.hl H.hk d).nodup tl (R.lt y hy), rf_take (R.lt y hy), h.2.2.1 y hy]
  grind
end
end E94
set_option linter.unusedVariables false
set_option linter.unusedSimpArgs false
namespace E94
open AlBase Al04
/-! N3: the witness by rows; the answers of left and of witness -/
def numAt (F : Found) (c : Nat) (x : List Nat × Nat) : Option MT := if x.2 = c then some (x.1, 1, 1) else match rowAt F x.2 with
  | none => none
  | some o => if o.getD c 0 = 0 then none else some (x.1, low (-(o.getD c 0)) (o.getD x.2 0))
def numbersM (F : Found) (cols : List (List Nat)) (c : Nat) : MP := (cols.zip (List.range cols.length)).filterMap (numAt F c)
def witnessM (d k : Nat) (p : MP) (eqs : List MP) : MP := match leftM d k p eqs with
  | [] => []
  | t :: _ => numbersM (basisM d k eqs) (colsM d k) ((colsM d k).idxOf t.1)
theorem fm_eq {α β γ : Type} (f : α → β) (p : β → Bool) (g : α → Option γ) (h : γ → β) : ∀ xs : List α, (∀ x ∈ xs, (if p (f x) = true then some (f x) else none) = (g x).map h) → (xs.map f).filter p = (xs.filterMap g).map h
  | [], _ => rfl
  | x :: xs, hx => by
    have ih := fm_eq f p g h xs fun y hy => hx y (List.mem_cons_of_mem _ hy)
    have h0 := hx x (List.mem_cons_self ..)
    rw [List.map_cons, List.filter_cons, List.filterMap_cons]
    by_cases q : p (f x) = true
    · rw [if_pos q] at h0
      rw [if_pos q, ih]
      cases e : g x with
      | none => rw [e] at h0; cases h0
      | some c => rw [e] at h0; rw [Option.some.inj h0]; rfl
    · rw [if_neg q] at h0
      rw [if_neg q, ih]
      cases e : g x with
      | none => rfl
      | some c => rw [e] at h0; cases h0
theorem co_one (n m : Mono) : co [(n, 1)] m = if n = m then 1 else 0 := by rw [co_cons, co_nil]
theorem can_one (n : Mono) : Can [(n, 1)] := ⟨List.pairwise_singleton .., fun x hx => by rw [List.mem_singleton.mp hx]; show (1 : Rat) ≠ 0; decide⟩
theorem ratT_one (c : List Nat) : ratT (c, 1, 1) = 1 := by
  show ((1 : Int) : Rat) / (((1 : Nat) : Int) : Rat) = 1
  have h1 : ((1 : Int) : Rat) = 1 := rfl
  have h2 : (((1 : Nat) : Int) : Rat) = 1 := rfl
  rw [h1, h2]
  grind
theorem nt_one (c : List Nat) : NT (c, 1, 1) := ⟨by show (1 : Int) ≠ 0; decide, by unfold NormT; rw [ratT_one]; exact ⟨rfl, rfl⟩⟩
section
variable {e l : List Nat} {d : Nat} {eqs : List MP} {cols : List (List Nat)} {U : List (List Int)} {F : Found}
theorem mon_at_inj (H : HB e l d eqs cols) {i j : Nat} (hi : i < cols.length) (hj : j < cols.length) (h : mon l (cols.getD i []) = mon l (cols.getD j [])) : i = j := by
  have hn := H.C.nodup
  have g : ∀ {i : Nat} (hi : i < cols.length), (cols.map (mon l))[i]? = some (mon l (cols.getD i [])) := fun {i} hi => by
    rw [List.getElem?_map, List.getD_eq_getElem?_getD, List.getElem?_eq_getElem hi]
    rfl
  rcases Nat.lt_trichotomy i j with q | q | q
  · have := List.pairwise_iff_getElem.mp hn i j (by rw [List.length_map]; exact hi) (by rw [List.length_map]; exact hj) q
    refine absurd ?_ this
    have a := g hi
    have b := g hj
    rw [List.getElem?_eq_getElem (by rw [List.length_map]; exact hi)] at a
    rw [List.getElem?_eq_getElem (by rw [List.length_map]; exact hj)] at b
    rw [Option.some.inj a, Option.some.inj b, h]
  · exact q
  · have := List.pairwise_iff_getElem.mp hn j i (by rw [List.length_map]; exact hj) (by rw [List.length_map]; exact hi) q
    refine absurd ?_ this
    have a := g hi
    have b := g hj
    rw [List.getElem?_eq_getElem (by rw [List.length_map]; exact hi)] at a
    rw [List.getElem?_eq_getElem (by rw [List.length_map]; exact hj)] at b
    rw [Option.some.inj a, Option.some.inj b, h]
theorem left_mono_none (H : HB e l d eqs cols) (R : Red cols.length (rowsB cols d l.length eqs) U F) {j : Nat} (hj : j < cols.length) (hn : rowAt F j = none) (k : How) (m : Mono) : co (reduce e (basisOf e l d (eqs.map (toPoly l))) ([(mon l (cols.getD j []), 1)], k)).1 m = co [(mon l (cols.getD j []), 1)] m := by
  refine left_unique H R (x := ([(mon l (cols.getD j []), 1)], k)) (can_one _) ((InSpan.zero _ _).of_eq fun m => ?_) (fun y hy => ?_) m
  · show co _ m - co _ m = 0
    grind
  · rw [co_one, if_neg fun q => rowAt_none hn y hy ?_]
    exact mon_at_inj H (R.lt y hy) hj q.symm
theorem left_mono_some (H : HB e l d eqs cols) (R : Red cols.length (rowsB cols d l.length eqs) U F) {j : Nat} {o : List Int} (hn : rowAt F j = some o) (k : How) (m : Mono) : co (reduce e (basisOf e l d (eqs.map (toPoly l))) ([(mon l (cols.getD j []), 1)], k)).1 m = co [(mon l (cols.getD j []), 1)] m - wv l cols o m / rf o j := by
  have hy := rowAt_some hn
  have hj := R.lt _ hy
  have p0 := R.piv _ hy
  simp only at hj p0
  refine left_unique H R (x := ([(mon l (cols.getD j []), 1)], k)) (v := fun m => co [(mon l (cols.getD j []), 1)] m - wv l cols o m / rf o j) (can_one _) ?_ (fun z hz => ?_) m
  · have m1 : InSpan F (fun y => wv l cols y.2) (wv l cols o) := InSpan.mem (V := fun y : Nat × List Int => wv l cols y.2) hy
    refine (m1.smul (-(1 / rf o j))).of_eq fun m => ?_
    show co _ m - wv l cols o m / rf o j - co _ m = _
    grind
  · have e1 : wv l cols o (hdF l cols z) = rf o z.1 := wv_hdF H R hy hz
    rw [e1, co_one]
    by_cases q : z.1 = j
    · have : mon l (cols.getD j []) = hdF l cols z := by unfold hdF; rw [q]
      rw [if_pos this, q]
      grind
    · have : mon l (cols.getD j []) ≠ hdF l cols z := fun w => q (mon_at_inj H (R.lt z hz) hj w.symm)
      rw [if_neg this, R.offOf hy hz fun w => q w.symm]
      grind
/-- the number that a product has in what's left of another -/
theorem num_at (H : HB e l d eqs cols) (R : Red cols.length (rowsB cols d l.length eqs) U F) {c : Nat} (hc : c < cols.length) (hn : rowAt F c = none) (k : How) {j : Nat} (hj : j < cols.length) :
    (let v := co (reduce e (basisOf e l d (eqs.map (toPoly l))) ([(mon l (cols.getD j []), 1)], k)).1 (mon l (cols.getD c [])); if v = 0 then none else some (mon l (cols.getD j []), v)) = (numAt F c (cols.getD j [], j)).map fun t => (mon l t.1, ratT t) := by
  dsimp only
  unfold numAt
  by_cases q : j = c
  · subst q
    rw [left_mono_none H R hj hn, co_one, if_pos rfl, if_neg (by decide)]
    simp only [if_true, Option.map_some]
    rw [ratT_one]
  · simp only [q, if_false]
    have ne : mon l (cols.getD j []) ≠ mon l (cols.getD c []) := fun w => q (mon_at_inj H hj hc w)
    cases hr : rowAt F j with
    | none =>
      rw [left_mono_none H R hj hr, co_one, if_neg ne]
      rfl
    | some o =>
      have hy := rowAt_some hr
      have p0 := R.piv _ hy
      simp only at p0
      rw [left_mono_some H R hr, co_one, if_neg ne, wv_at0 H.C.nodup (R.len _ hy) hc]
      by_cases z : o.getD c 0 = 0
      · have z' : rf o c = 0 := rf_zero.mpr z
        rw [z']
        simp only [z, if_true]
        rw [if_pos (by grind)]
        rfl
      · have z' : rf o c ≠ 0 := fun w => z (rf_zero.mp w)
        simp only [z, if_false]
        have v0 : (0 : Rat) - rf o c / rf o j ≠ 0 := by
          intro w
          refine z' ?_
          have : rf o c = (rf o c / rf o j) * rf o j := by grind
          rw [this, show rf o c / rf o j = 0 by grind]
          grind
        rw [if_neg v0, Option.map_some, low_rat]
        show some (_, _) = some (_, _)
        rw [Rat.intCast_neg]
        congr 2
        show (0 : Rat) - rf o c / rf o j = -(rf o c) / rf o j
        grind
theorem numAt_some {c : Nat} {x : List Nat × Nat} {t : MT} (R : Red cols.length (rowsB cols d l.length eqs) U F) (h : numAt F c x = some t) : t.1 = x.1 ∧ NT t := by
  unfold numAt at h
  split at h
  · rw [← Option.some.inj h]
    exact ⟨rfl, nt_one _⟩
  · split at h
    · cases h
    · rename_i o ho
      split at h
      · cases h
      · rename_i z
        rw [← Option.some.inj h]
        have p0 := R.piv _ (rowAt_some ho)
        exact ⟨rfl, low_top (by omega) fun w => p0 (rf_zero.mpr w), low_norm ..⟩
theorem zip_range_get {α : Type} (z : α) {cs : List α} {x : α × Nat} (h : x ∈ cs.zip (List.range cs.length)) : x.2 < cs.length ∧ x = (cs.getD x.2 z, x.2) := by
  have := mem_zip_range h
  refine ⟨this.1, Prod.ext ?_ rfl⟩
  rw [List.getD_eq_getElem?_getD, this.2]
  rfl
theorem numbers_mem {c : Nat} {t : MT} (R : Red cols.length (rowsB cols d l.length eqs) U F) (h : t ∈ numbersM F cols c) : t.1 ∈ cols ∧ NT t := by
  obtain ⟨x, hx, e⟩ := List.mem_filterMap.mp h
  have := numAt_some R e
  rw [this.1]
  exact ⟨(List.of_mem_zip hx).1, this.2⟩
end
section
variable {l : List Nat} {d : Nat} {eqs : List MP} {p : MP}
theorem leftM_mem {k : Nat} {t : MT} (h : t ∈ leftM d k p eqs) : t.1 ∈ colsM d k := by
  obtain ⟨x, hx, _, rfl⟩ := termsOf_mem h
  exact (List.of_mem_zip hx).1
theorem getD_idx {c : List Nat} {cs : List (List Nat)} (h : c ∈ cs) : cs.idxOf c < cs.length ∧ cs.getD (cs.idxOf c) [] = c := by
  have h1 := List.idxOf_lt_length_iff.mpr h
  refine ⟨h1, ?_⟩
  rw [List.getD_eq_getElem?_getD, List.getElem?_eq_getElem h1, List.getElem_idxOf]
  rfl
theorem head_free (H : Hyp l d eqs p) {t : MT} {q : MP} (h : leftM d l.length p eqs = t :: q) : rowAt (basisM d l.length eqs) ((colsM d l.length).idxOf t.1) = none := by
  obtain ⟨U, R⟩ := red_all (w := (colsM d l.length).length) (rows := rowsB (colsM d l.length) d l.length eqs) rowsB_len
  have tm : t ∈ leftM d l.length p eqs := by rw [h]; exact List.mem_cons_self ..
  have hg := left_good H
  have hx := getD_idx (leftM_mem tm)
  cases hr : rowAt (basisM d l.length eqs) ((colsM d l.length).idxOf t.1) with
  | none => rfl
  | some o =>
    exfalso
    have hf := left_free H R (rowAt_some hr)
    unfold hdF at hf
    simp only at hf
    rw [hx.2] at hf
    have hm : (mon l t.1, ratT t) ∈ toPoly l (leftM d l.length p eqs) := List.mem_map_of_mem (f := fun t : MT => (mon l t.1, ratT t)) tm
    rw [((toPoly_can H.hl hg.1).1.co_mem hm : co _ (mon l t.1) = ratT t)] at hf
    exact ratT_ne (hg.1.pos t tm) (hg.1.top t tm) hf
theorem witness_spec (H : Hyp l d eqs p) (hne : leftM d l.length p eqs ≠ []) : Al04.witness l d (eqs.map (toPoly l)) (toPoly l p) = toPoly l (witnessM d l.length p eqs) := by
  obtain ⟨U, R⟩ := red_all (w := (colsM d l.length).length) (rows := rowsB (colsM d l.length) d l.length eqs) rowsB_len
  unfold Al04.witness
  rw [left_spec H]
  unfold witnessM
  cases hm : leftM d l.length p eqs with
  | nil => exact absurd hm hne
  | cons t q =>
    have tm : t ∈ leftM d l.length p eqs := by rw [hm]; exact List.mem_cons_self ..
    have hx := getD_idx (leftM_mem tm)
    have hn := head_free H hm
    show (((products l d).reverse.map fun n => (n, numberAt (mon l t.1) (reduce [] (basisOf [] l d (eqs.map (toPoly l))) ([(n, 1)], howNone (eqs.map (toPoly l)).length)).1)).filter fun x => decide (x.2 ≠ 0)) = toPoly l (numbersM (basisM d l.length eqs) (colsM d l.length) ((colsM d l.length).idxOf t.1))
    have ep : (products l d).reverse = ((colsM d l.length).zip (List.range (colsM d l.length).length)).map fun x => mon l x.1 := by
      rw [prodsW_products H.hl H.hk]
      have : ((colsM d l.length).zip (List.range (colsM d l.length).length)).map (fun x => mon l x.1) = (colsM d l.length).map (mon l) := by
        have e1 : (fun x : List Nat × Nat => mon l x.1) = mon l ∘ (·.1) := rfl
        rw [e1, ← List.map_map, List.map_fst_zip (by rw [List.length_range]; exact Nat.le_refl _)]
      rw [this, ← List.map_reverse]
      rfl
    rw [ep, List.map_map]
    show _ = (numbersM (basisM d l.length eqs) (colsM d l.length) ((colsM d l.length).idxOf t.1)).map fun t => (mon l t.1, ratT t)
    unfold numbersM
    refine fm_eq _ _ _ _ _ fun x hxm => ?_
    have hz := zip_range_get [] hxm
    rw [hz.2]
    have key := num_at H.hb R (F := basisM d l.length eqs) hx.1 hn (howNone (eqs.map (toPoly l)).length) hz.1
    rw [hx.2] at key
    dsimp only at key
    rw [← key]
    have gen : ∀ (n : Mono) (v w : Rat), v = w → (if decide (v ≠ 0) = true then some (n, v) else none) = if w = 0 then none else some (n, w) := by
      intro n v w q
      subst q
      by_cases v0 : v = 0
      · simp [v0]
      · simp [v0]
    exact gen _ _ _ (numberAt_co ..)
theorem witnessM_ne (H : Hyp l d eqs p) : witnessM d l.length p eqs = [] ↔ leftM d l.length p eqs = [] := by
  unfold witnessM
  cases hm : leftM d l.length p eqs with
  | nil => simp
  | cons t q =>
    have tm : t ∈ leftM d l.length p eqs := by rw [hm]; exact List.mem_cons_self ..
    have hx := getD_idx (leftM_mem tm)
    refine ⟨fun h => ?_, fun h => by cases h⟩
    exfalso
    have : ((t.1, 1, 1) : MT) ∈ numbersM (basisM d l.length eqs) (colsM d l.length) ((colsM d l.length).idxOf t.1) := by
      refine List.mem_filterMap.mpr ⟨(t.1, (colsM d l.length).idxOf t.1), ?_, ?_⟩
      · refine List.mem_iff_getElem.mpr ⟨(colsM d l.length).idxOf t.1, by rw [List.length_zip, List.length_range, Nat.min_self]; exact hx.1, ?_⟩
        rw [List.getElem_zip, List.getElem_idxOf, List.getElem_range]
      · unfold numAt
        rw [if_pos rfl]
    have h' : numbersM (basisM d l.length eqs) (colsM d l.length) ((colsM d l.length).idxOf t.1) = [] := h
    rw [h'] at this
    cases this
theorem witnessM_mem (H : Hyp l d eqs p) {t : MT} (h : t ∈ witnessM d l.length p eqs) : t.1 ∈ colsM d l.length ∧ NT t := by
  obtain ⟨U, R⟩ := red_all (w := (colsM d l.length).length) (rows := rowsB (colsM d l.length) d l.length eqs) rowsB_len
  unfold witnessM at h
  split at h
  · cases h
  · exact numbers_mem (l := l) R h
theorem follows_left (H : Hyp l d eqs p) : (Al04.follows l d (eqs.map (toPoly l)) (toPoly l p)).isSome = decide (leftM d l.length p eqs = []) := by
  unfold Al04.follows
  show (if (leftOf l d (eqs.map (toPoly l)) (toPoly l p)).1 = [] then some _ else none).isSome = _
  rw [left_spec H]
  by_cases h : leftM d l.length p eqs = []
  · rw [if_pos (toPoly_nil.mpr h), decide_eq_true h]; rfl
  · rw [if_neg fun q => h (toPoly_nil.mp q), decide_eq_false h]; rfl
end
/-! the answers -/
def twoM (k : Nat) (t : MT) : List MP := [[(t.1, 1, 1)], [(List.replicate k 0, t.2)]]
def leftAns (d : Nat) (l : List Nat) (ts : List Bytes) : List Int := guardM d 1 4 l ts fun qs =>
  if d < degM (qs.headD []) then [-6] else 1 :: [leftM d l.length (pickM l (qs.headD [])) (qs.tail.map (pickM l))].flatMap fun p => shownM (textL l p)
def witnessAns (d : Nat) (l : List Nat) (ts : List Bytes) : List Int := guardM d 1 4 l ts fun qs =>
  if d < degM (qs.headD []) then [-6] else if witnessM d l.length (pickM l (qs.headD [])) (qs.tail.map (pickM l)) = [] then [-5] else
    ((witnessM d l.length (pickM l (qs.headD [])) (qs.tail.map (pickM l))).length : Int) :: ((witnessM d l.length (pickM l (qs.headD [])) (qs.tail.map (pickM l))).flatMap (twoM l.length)).flatMap fun p => shownM (textL l p)
theorem left_is (d : Nat) (l : List Nat) (ts : List Bytes) : outM (Al04.answer (.left d l ts)) = leftAns d l ts := by
  show outM (withP d l ts _) = _
  unfold withP leftAns
  refine polys_guard fun hl h5 h1 h4 qs hlen hg ho hf => ?_
  cases qs with
  | nil => rw [← hlen] at h1; exact absurd h1 (by decide)
  | cons p es =>
    have e1 : polyDegree (toPoly az p) = degM p := toPoly_degree az_sorted (hg p (List.mem_cons_self ..)).good
    show outM (if d < polyDegree (toPoly az p) then no (-6) else ⟨1, [text (leftOf l d (es.map (toPoly az)) (toPoly az p)).1]⟩) = (if d < degM p then [-6] else 1 :: [leftM d l.length (pickM l p) (es.map (pickM l))].flatMap fun p => shownM (textL l p))
    rw [e1]
    by_cases hd : d < degM p
    · rw [if_pos hd, if_pos hd]
      rfl
    · rw [if_neg hd, if_neg hd]
      have H := hyp_of hl hg ho (show degM p ≤ d by omega)
      have := left_spec H
      rw [map_pick hl (fun q hq => hg q (List.mem_cons_of_mem _ hq)) fun q hq => ho q (List.mem_cons_of_mem _ hq), (pick_toPoly hl (hg p (List.mem_cons_self ..)) (ho p (List.mem_cons_self ..))).1] at this
      rw [this, text_L (left_good H).2]
      rfl
theorem const_text (l : List Nat) {t : MT} (h : NT t) : text (const (ratT t)) = textL l [(List.replicate l.length 0, t.2)] := by
  have r0 : ratT t ≠ 0 := fun q => h.top (by rw [← h.nrm.1, q]; rfl)
  have e : const (ratT t) = toPoly l [(List.replicate l.length 0, t.2)] := by
    unfold const plus toPoly
    rw [if_neg r0, List.map_cons, List.map_nil, mon_zero]
    rfl
  rw [e]
  refine text_L fun u hu => ?_
  rw [List.mem_singleton.mp hu]
  exact ⟨h.top, h.nrm⟩
theorem mono_text (l c : List Nat) : text [(mon l c, 1)] = textL l [(c, 1, 1)] := by
  have e : ([(mon l c, 1)] : Poly) = toPoly l [(c, 1, 1)] := by
    unfold toPoly
    rw [List.map_cons, List.map_nil, ratT_one]
  rw [e]
  exact text_L fun u hu => by rw [List.mem_singleton.mp hu]; exact nt_one c
theorem two_text (l : List Nat) : ∀ {w : MP}, (∀ t ∈ w, NT t) → ((toPoly l w).flatMap fun x => [text [(x.1, 1)], text (const x.2)]).flatMap Al04Neutral.shownText = (w.flatMap (twoM l.length)).flatMap fun p => shownM (textL l p)
  | [], _ => rfl
  | t :: w, h => by
    have ih := two_text l (w := w) fun u hu => h u (List.mem_cons_of_mem _ hu)
    show (([text [(mon l t.1, 1)], text (const (ratT t))] ++ (toPoly l w).flatMap fun x => [text [(x.1, 1)], text (const x.2)]).flatMap Al04Neutral.shownText) = ((twoM l.length t ++ w.flatMap (twoM l.length)).flatMap fun p => shownM (textL l p))
    rw [List.flatMap_append, List.flatMap_append, ih, mono_text, const_text l (h t (List.mem_cons_self ..))]
    rfl
theorem witness_is (d : Nat) (l : List Nat) (ts : List Bytes) : outM (Al04.answer (.witness d l ts)) = witnessAns d l ts := by
  show outM (withP d l ts _) = _
  unfold withP witnessAns
  refine polys_guard fun hl h5 h1 h4 qs hlen hg ho hf => ?_
  cases qs with
  | nil => rw [← hlen] at h1; exact absurd h1 (by decide)
  | cons p es =>
    have e1 : polyDegree (toPoly az p) = degM p := toPoly_degree az_sorted (hg p (List.mem_cons_self ..)).good
    show outM (if d < polyDegree (toPoly az p) then no (-6) else if (Al04.follows l d (es.map (toPoly az)) (toPoly az p)).isSome = true then no (-5) else ⟨((Al04.witness l d (es.map (toPoly az)) (toPoly az p)).length : Nat), (Al04.witness l d (es.map (toPoly az)) (toPoly az p)).flatMap fun x => [text [(x.1, 1)], text (const x.2)]⟩) = (if d < degM p then [-6] else if witnessM d l.length (pickM l p) (es.map (pickM l)) = [] then [-5] else ((witnessM d l.length (pickM l p) (es.map (pickM l))).length : Int) :: ((witnessM d l.length (pickM l p) (es.map (pickM l))).flatMap (twoM l.length)).flatMap fun p => shownM (textL l p))
    rw [e1]
    by_cases hd : d < degM p
    · rw [if_pos hd, if_pos hd]
      rfl
    · rw [if_neg hd, if_neg hd]
      have H := hyp_of hl hg ho (show degM p ≤ d by omega)
      have f1 := follows_left H
      have w0 := witnessM_ne H
      have w1 := witness_spec H
      rw [map_pick hl (fun q hq => hg q (List.mem_cons_of_mem _ hq)) fun q hq => ho q (List.mem_cons_of_mem _ hq), (pick_toPoly hl (hg p (List.mem_cons_self ..)) (ho p (List.mem_cons_self ..))).1] at f1 w1
      rw [f1]
      by_cases z : leftM d l.length (pickM l p) (es.map (pickM l)) = []
      · rw [if_pos (decide_eq_true z), if_pos (w0.mpr z)]
        rfl
      · rw [if_neg (by rw [decide_eq_false z]; decide), if_neg fun q => z (w0.mp q), w1 z]
        show ((toPoly l (witnessM d l.length (pickM l p) (es.map (pickM l)))).length : Int) :: ((toPoly l (witnessM d l.length (pickM l p) (es.map (pickM l)))).flatMap fun x => [text [(x.1, 1)], text (const x.2)]).flatMap Al04Neutral.shownText = _
        rw [two_text l fun t ht => (witnessM_mem H ht).2]
        congr 2
        exact List.length_map ..
theorem py_left (d : Int) (letters : List Int) (texts : List (List Int)) : PyAl04.left d letters texts = leftAns d.toNat (letters.map Int.toNat) (texts.map fun t => t.map Int.toNat) := by
  rw [← left_is]
  rfl
theorem py_witness (d : Int) (letters : List Int) (texts : List (List Int)) : PyAl04.witness d letters texts = witnessAns d.toNat (letters.map Int.toNat) (texts.map fun t => t.map Int.toNat) := by
  rw [← witness_is]
  rfl
end E94
set_option linter.unusedVariables false
set_option linter.unusedSimpArgs false
namespace E94
open AlBase Al04
/-! S2: how large the numbers of what's left are -/
def maskL (w : Nat) (F : Found) (t : Nat) : List Bool := (List.range (w + 1)).map fun j => decide (j = t) || (decide (j = w) || (rowAt F j).isSome)
theorem maskL_get {w : Nat} {F : Found} {t j : Nat} (hj : j < w + 1) : (maskL w F t).getD j false = (decide (j = t) || (decide (j = w) || (rowAt F j).isSome)) := by
  unfold maskL
  rw [List.getD_eq_getElem?_getD, List.getElem?_map, List.getElem?_range hj]
  rfl
theorem Red.countL {w : Nat} {done U : List (List Int)} {F : Found} (h : Red w done U F) {t : Nat} (ht : t < w) (hp : rowAt F t = none) : (maskL w F t).count true = U.length + 1 + 1 := by
  have hn : (t :: w :: F.map (·.1)).Nodup := by
    refine List.nodup_cons.mpr ⟨fun q => ?_, List.nodup_cons.mpr ⟨fun q => ?_, h.keys_nodup⟩⟩
    · rcases List.mem_cons.mp q with q | q
      · omega
      · obtain ⟨y, hy, e⟩ := List.mem_map.mp q
        exact rowAt_none hp y hy e
    · obtain ⟨y, hy, e⟩ := List.mem_map.mp q
      have := h.lt y hy
      omega
  unfold maskL
  rw [count_map_range hn]
  · rw [List.length_cons, List.length_cons, List.length_map, h.cnt]
  · intro j
    rw [List.mem_cons, List.mem_cons, List.mem_map, Bool.or_eq_true, Bool.or_eq_true, decide_eq_true_eq, decide_eq_true_eq]
    constructor
    · rintro (rfl | rfl | ⟨y, hy, rfl⟩)
      · exact ⟨by omega, .inl rfl⟩
      · exact ⟨by omega, .inr (.inl rfl)⟩
      · exact ⟨by have := h.lt y hy; omega, .inr (.inr (by rw [h.rowAt_mem hy]; rfl))⟩
    · rintro ⟨_, rfl | rfl | q⟩
      · exact .inl rfl
      · exact .inr (.inl rfl)
      · obtain ⟨o, e⟩ := Option.isSome_iff_exists.mp q
        exact .inr (.inr ⟨_, rowAt_some e, rfl⟩)
theorem dot_two {w : Nat} {x v : Nat → Rat} {a b : Nat} (ha : a < w) (hb : b < w) (hab : a ≠ b) (hz : ∀ j, j < w → j ≠ a → j ≠ b → x j * v j = 0) : dot w x v = x a * v a + x b * v b := by
  have e : dot w x v = dot w (fun j => if j = a then x a else 0) v + dot w (fun j => if j = b then x b else 0) v := by
    unfold dot
    rw [← lin_add]
    refine lin_congr2 fun j hj => ?_
    have hj' := List.mem_range.mp hj
    show x j * v j = ((if j = a then x a else 0) + (if j = b then x b else 0)) * v j
    by_cases j1 : j = a
    · rw [if_pos j1, if_neg (fun z => hab (by rw [← j1, z])), j1]
      grind
    · by_cases j2 : j = b
      · rw [if_neg j1, if_pos j2, j2]
        grind
      · rw [if_neg j1, if_neg j2, hz j hj' j1 j2]
        grind
  rw [e]
  unfold dot
  rw [lin_single (c := a) List.nodup_range (List.mem_range.mpr ha) (fun j _ q => by show (if j = a then x a else 0) * v j = 0; rw [if_neg q]; grind), lin_single (c := b) List.nodup_range (List.mem_range.mpr hb) (fun j _ q => by show (if j = b then x b else 0) * v j = 0; rw [if_neg q]; grind)]
  simp
theorem Red.small_left {w A : Nat} (hA : 0 < A) {done U : List (List Int)} {F : Found} (h : Red w done U F) (hd : ∀ r ∈ done, r.length = w ∧ ∀ b ∈ r, b.natAbs ≤ A) {r : List Int} (hr : r.length = w + 1) (hrA : ∀ b ∈ r, b.natAbs ≤ A) (hlast : (leftRow F r).getD w 0 ≠ 0) {t : Nat} (ht : t < w) :
    ∃ q z : Int, q ≠ 0 ∧ q.natAbs ≤ (2 * (w + 1) * A) ^ (U.length + 1) ∧ z.natAbs ≤ (2 * (w + 1) * A) ^ (U.length + 1) ∧ (leftRow F r).getD t 0 * q = z * (leftRow F r).getD w 0 := by
  have one : 1 ≤ (2 * (w + 1) * A) ^ (U.length + 1) := Nat.pow_pos (Nat.mul_pos (by omega) hA)
  obtain ⟨l1, l2, c, hc, l3⟩ := leftRow_spec h hr
  generalize leftRow F r = L at *
  have hlast' : rf L w ≠ 0 := fun q => hlast (rf_zero.mp q)
  cases hp : rowAt F t with
  | some o =>
    refine ⟨1, 0, by decide, one, by simp, ?_⟩
    have := l2 _ (rowAt_some hp)
    rw [rf_zero.mp this]
    simp
  | none =>
    let U' : List (List Int) := U.map (· ++ [0]) ++ [r]
    have hU' : ∀ u ∈ U', u.length = w + 1 ∧ ∀ b ∈ u, b.natAbs ≤ A := fun u hu => by
      rcases List.mem_append.mp hu with hu | hu
      · obtain ⟨v, hv, rfl⟩ := List.mem_map.mp hu
        have := hd v (h.used v hv)
        refine ⟨by rw [List.length_append, this.1]; rfl, fun b hb => ?_⟩
        rcases List.mem_append.mp hb with hb | hb
        · exact this.2 b hb
        · rw [List.mem_singleton.mp hb]; simp
      · rw [List.mem_singleton.mp hu]
        exact ⟨hr, hrA⟩
    have lU : U'.length = U.length + 1 := by simp [U']
    obtain ⟨x, xl, ⟨j0, xj0⟩, xm, xb, xu⟩ := small_sol (w := w + 1) (A := A) (U := U') (by omega) hA (fun u hu => (hU' u hu).2) (M := maskL w F t) (by simp [maskL]) (by rw [lU]; exact h.countL ht hp)
    rw [lU] at xb
    have dz : ∀ u ∈ U', dot (w + 1) (rf x) (rf u) = 0 := fun u hu => by
      have := dot_dotZ x u (by rw [xl, (hU' u hu).1])
      rw [(hU' u hu).1] at this
      rw [this, xu u hu]
      rfl
    have inU : ∀ u ∈ U, InSpan U' rf (rf u) := fun u hu => (InSpan.mem (V := rf) (i := u ++ [0]) (List.mem_append_left _ (List.mem_map_of_mem (f := (· ++ [0])) hu))).of_eq fun j => (rf_snoc0 u j).symm
    have inF : ∀ y ∈ F, InSpan U' rf (rf y.2) := fun y hy => (h.spU y hy).trans inU
    have inL : InSpan U' rf (rf L) := by
      have m1 : InSpan U' rf (fun j => rf L j - c * rf r j) := l3.trans inF
      have m2 : InSpan U' rf (rf r) := InSpan.mem (V := rf) (List.mem_append_right _ (List.mem_singleton.mpr rfl))
      exact (m1.add (m2.smul c)).of_eq fun j => by grind
    have dF : ∀ y ∈ F, dot (w + 1) (rf x) (rf y.2) = 0 := fun y hy => dot_span (V := rf) dz (inF y hy)
    have dL : dot (w + 1) (rf x) (rf L) = 0 := dot_span (V := rf) dz inL
    have xzero : ∀ j, j < w + 1 → j ≠ t → j ≠ w → rowAt F j = none → rf x j = 0 := fun j hj h1 h2 h3 => rf_zero.mpr (xm j (by rw [maskL_get hj]; simp [h1, h2, h3]))
    have keyL : rf x t * rf L t + rf x w * rf L w = 0 := by
      rw [dot_two (a := t) (b := w) (by omega) (by omega) (by omega)] at dL
      · exact dL
      · intro j hj h1 h2
        cases hq : rowAt F j with
        | none => rw [xzero j hj h1 h2 hq]; grind
        | some o =>
          have := l2 _ (rowAt_some hq)
          rw [this]
          grind
    have xt : x.getD t 0 ≠ 0 := by
      intro z
      have zt : rf x t = 0 := rf_zero.mpr z
      rw [zt] at keyL
      have zw : rf x w = 0 := by grind
      refine xj0 ?_
      by_cases hj : j0 < w + 1
      · by_cases e1 : j0 = t
        · rw [e1]; exact z
        · by_cases e2 : j0 = w
          · rw [e2]; exact rf_zero.mp zw
          · cases hq : rowAt F j0 with
            | none => exact rf_zero.mp (xzero j0 hj e1 e2 hq)
            | some o =>
              have hy := rowAt_some hq
              have dd := dF _ hy
              simp only at dd
              rw [dot_two (a := j0) (b := t) hj (by omega) e1] at dd
              · have pv := h.piv _ hy
                simp only at pv
                rw [zt] at dd
                have : rf x j0 = 0 := by grind
                exact rf_zero.mp this
              · intro j hj' h1 h2
                by_cases e3 : j = w
                · rw [e3, zw]; grind
                · cases hq2 : rowAt F j with
                  | none => rw [xzero j hj' h2 e3 hq2]; grind
                  | some o2 =>
                    have := h.offOf hy (rowAt_some hq2) fun q => h1 q.symm
                    simp only at this
                    rw [this]
                    grind
      · rw [List.getD_eq_getElem?_getD, List.getElem?_eq_none (by omega)]
        rfl
    refine ⟨x.getD t 0, -(x.getD w 0), xt, xb t, by rw [Int.natAbs_neg]; exact xb w, ?_⟩
    unfold rf at keyL
    have k2 : x.getD t 0 * L.getD t 0 + x.getD w 0 * L.getD w 0 = 0 := by exact_mod_cast keyL
    rw [Int.neg_mul, Int.mul_comm (L.getD t 0)]
    omega
end E94
set_option Elab.async false
set_option linter.all false
set_option maxRecDepth 100000
set_option maxHeartbeats 2000000
namespace E94H
open PySem PySem.Spec PyProof.Rows L2
def topS (i : Nat) : Stmt := PySem.Challenge.pw_equationfollow_s03_left.main.body.getD i (.Pass ⟨0, 0, 0, 0⟩)
abbrev s_product_of : Stmt := topS 1
abbrev s_times : Stmt := topS 2
abbrev s_products_within : Stmt := topS 3
abbrev s_degree_of : Stmt := topS 4
abbrev s_common_divisor : Stmt := topS 6
abbrev s_common_multiple : Stmt := topS 7
abbrev s_lowest_terms : Stmt := topS 8
abbrev s_cleared : Stmt := topS 10
abbrev s_with_zero_at : Stmt := topS 11
abbrev s_first_place : Stmt := topS 12
abbrev s_reduced : Stmt := topS 13
abbrev s_scale_of : Stmt := topS 15
abbrev s_scaled_multiple : Stmt := topS 16
abbrev s_multiples_within : Stmt := topS 17
abbrev s_columns_within : Stmt := topS 19
abbrev s_row_of : Stmt := topS 20
abbrev s_rows_within : Stmt := topS 21
abbrev s_divided : Stmt := topS 22
abbrev s_left_by : Stmt := topS 23
abbrev s_what_is_left : Stmt := topS 24
abbrev s_pieces_between : Stmt := topS 37
abbrev s_is_digit : Stmt := topS 38
abbrev s_read_whole : Stmt := topS 39
abbrev s_read_number : Stmt := topS 40
abbrev s_read_power : Stmt := topS 41
abbrev s_read_product : Stmt := topS 42
abbrev s_read_term : Stmt := topS 43
abbrev s_signed_words : Stmt := topS 44
abbrev s_read_polynomial : Stmt := topS 45
abbrev s_are_letters : Stmt := topS 56
abbrev s_has_other_letter : Stmt := topS 57
abbrev s_is_too_large : Stmt := topS 58
abbrev s_first_refusal : Stmt := topS 59
abbrev s_product_text : Stmt := topS 62
abbrev s_number_text : Stmt := topS 63
abbrev s_term_text : Stmt := topS 64
abbrev s_polynomial_text : Stmt := topS 65
abbrev s_written : Stmt := topS 66
abbrev s_in_letters : Stmt := topS 69
abbrev s_answer_of : Stmt := topS 70
abbrev s_refusal_within : Stmt := topS 71
abbrev s_left : Stmt := topS 72
/-! ### heaps and data -/
theorem same_upd {H : Hp} {p : Addr} {o : HO} (h : H p = none) : Same H (upd H p o) := fun b x e => by
  rw [upd_ne (ne_of_none e h)]
  exact e
theorem same_sqT {K : PySem.W.Frag} {H H' : Hp} {a : Addr} {xs : List V} (e : Same H H') (h : SqT K H a xs) : SqT K H' a xs := by
  rcases h with (h | ⟨o, h⟩) | h
  · exact .inl (.inl (e _ _ h))
  · exact .inl (.inr ⟨o, e _ _ h⟩)
  · exact .inr h
mutual
theorem same_dp {K : PySem.W.Frag} {H H' : Hp} (e : Same H H') : ∀ (d : PyData) (v : V), Dp K H v d → Dp K H' v d
  | .none, _, h => by cases h; exact .non
  | .bool b, _, h => by cases h; exact .bl b
  | .int i, _, h => by cases h; exact .int i
  | .str x, _, h => by cases h; exact .str x
  | .list ds, _, h => by
    cases h with
    | lst h1 h2 => exact .lst (e.seq h1) (same_dpAll e ds _ h2)
  | .tuple ds, _, h => by
    cases h with
    | tup h1 h2 => exact .tup (same_sqT e h1) (same_dpAll e ds _ h2)
theorem same_dpAll {K : PySem.W.Frag} {H H' : Hp} (e : Same H H') : ∀ (ds : List PyData) (vs : List V), DpAll K H vs ds → DpAll K H' vs ds
  | [], _, h => by cases h; exact .nil
  | d :: ds, _, h => by
    cases h with
    | cons h1 h2 => exact .cons (same_dp e d _ h1) (same_dpAll e ds _ h2)
end
end E94H
set_option Elab.async false
set_option linter.all false
set_option maxRecDepth 100000
set_option maxHeartbeats 2000000
namespace E94H
open PySem PySem.Spec PyProof.Rows L2
section
variable {P : Program} {w : World} {K : PySem.W.Frag} {mg : Str → Option Value} {base : Heap}
/-! ### common_divisor -/
theorem sc_common_divisor : FnScope ["one", "other", "larger", "smaller", "rest"] ["one", "other"] (defScope s_common_divisor) := ⟨rfl, rfl, rfl, by decide +kernel, rfl, by decide +kernel, by decide +kernel⟩
def sp_common_divisor : Sp := fun vs H Q _ => ∃ a b : Int, vs = [.int a, .int b] ∧ Q (.int (Nat.gcd a.natAbs b.natAbs : Nat)) H
theorem abs_nat (i : Int) : (if i < 0 then -i else i) = (i.natAbs : Int) := by split <;> omega
theorem ok_common_divisor {f : Addr} {fd : FuncData} {k : Nat} (F : Fun K "common_divisor" "common_divisor" s_common_divisor f fd) (mabs : mg "abs" = none) : FnOk P w K mg base CX0 (k + 1) f fd ["one", "other"] sp_common_divisor := by
  refine F.ok sc_common_divisor (fun vs H Q E h => ?_) (fun cdv A outer s H vs Q E hr h => ?_)
  · obtain ⟨a, b, rfl, _⟩ := h
    rfl
  · obtain ⟨a, b, rfl, q⟩ := h
    refine ⟨_, pss_cons (ps_set (i := 2) sc_common_divisor.nd rfl (.inl rfl) (pe_callB call_abs (by rfl) mabs (by decide +kernel) (pa_cons (pv 0) pa_nil)))
      (pss_cons (ps_set (i := 3) sc_common_divisor.nd rfl (.inl rfl) (pe_callB call_abs (by rfl) mabs (by decide +kernel) (pa_cons (pv 1) pa_nil)))
      (pss_cons (ps_while PassesOwn.never (pt_cmpR op_gt (pv 3) pe_int (nomark _))
        (pss_cons (ps_set (i := 4) sc_common_divisor.nd rfl (.inl rfl) (pe_op op_mod (pv 2) (pv 3)))
        (pss_cons (ps_set (i := 2) sc_common_divisor.nd rfl (.inl rfl) (pv 3))
        (pss_one (ps_set (i := 3) sc_common_divisor.nd rfl (.inl rfl) (pv 4))))))
      (pss_one (ps_ret (pv 2))))), ?_⟩
    refine ⟨_, rfl, a, rfl, ?_⟩
    refine ⟨_, rfl, b, rfl, ?_⟩
    rw [abs_nat, abs_nat]
    refine while_by (fun σ H' => H' = H ∧ ∃ (x y : Nat) (z : Option V), σ = [some (.int a), some (.int b), some (.int (x : Int)), some (.int (y : Int)), z] ∧ Nat.gcd x y = Nat.gcd a.natAbs b.natAbs) (fun σ _ => match σ with | [_, _, _, some (.int y), _] => y.natAbs | _ => 0) ⟨rfl, _, _, none, rfl, rfl⟩ ?_ ?_
    · rintro σ H' ⟨rfl, x, y, z, rfl, hg⟩
      refine ⟨_, rfl, _, _, rfl, rfl, _, rfl, ite2 (fun e => ?_) (fun e => ?_)⟩
      · have y0 : (0 : Int) < (y : Int) := of_decide_eq_true e
        refine ⟨_, rfl, _, rfl, _, _, rfl, rfl, y0, ?_⟩
        refine ⟨_, rfl, _, rfl, ⟨rfl, y, x % y, _, rfl, ?_⟩, ?_⟩
        · rw [← hg, Nat.gcd_comm x y, Nat.gcd_rec y x, Nat.gcd_comm]
        · show ((x : Int) % (y : Int)).natAbs < (y : Int).natAbs
          have := Nat.mod_lt x (show 0 < y by omega)
          omega
      · have y0 : y = 0 := by
          have : ¬ (0 : Int) < (y : Int) := fun q => e (decide_eq_true q)
          omega
        subst y0
        rw [Nat.gcd_zero_right] at hg
        subst hg
        exact ⟨_, rfl, q⟩
    · intro σ H' R R' hR h
      obtain ⟨v, e, i, j, e1, e2, b, e3, h⟩ := h
      exact ⟨v, e, i, j, e1, e2, b, e3, hR _ _ h⟩
end
end E94H
set_option Elab.async false
set_option linter.all false
set_option maxRecDepth 100000
set_option maxHeartbeats 2000000
namespace E94H
open PySem PySem.Spec PyProof.Rows L2
/-! ### great numbers -/
/-- // by any number other than 0, of any size: the room that the library's own division wants -/
theorem op_fdivP {X : Cx} {env : Env} {l : List Env} (hS : X.base.NoSeer) (ht : X.prog.given.tree = none) (hr : X.A.depth + 100 < recursionLimit) (hst : X.stack = env :: l) (hgen : env.scope.isGenerator = false) (hco : env.scope.isCoroutine = false) (hb : env.builtins = builtinsNs) (hg : env.globals = mainGlobals) :
    OpR X (binaryOp .FloorDiv) (rI (fun _ j => j ≠ 0) fun i j => .int (i.fdiv j)) := by
  intro pins s σ H x y v u Q I rx ry h
  obtain ⟨i, j, rfl, rfl, hc, q⟩ := h
  obtain ⟨t, rfl⟩ := rx
  obtain ⟨t', rfl⟩ := ry
  refine floordiv_int hc ⟨.int (i.fdiv j), H, I.tok _, ⟨_, rfl⟩, q⟩ (.inr (PySem.PylongRoom.of I.nolimit hr (PySem.SeerAt.of (env := env) (l := l) (hS.keeps I.bk) ht ?_ hgen hco hb hg)))
  rw [I.ok.frames, hst]
def CMulB (i j : Int) : Prop := i.natAbs.log2 + j.natAbs.log2 < 134000000
theorem CMulB.ok {i j : Int} (h : CMulB i j) : IntMulOk i j := by
  have b : ∀ x : Int, Builtin.Int.intBits x ≤ x.natAbs.log2 + 1 := fun x => by
    unfold Builtin.Int.intBits
    split <;> omega
  have h1 := b i
  have h2 := b j
  have h3 : i.natAbs.log2 + j.natAbs.log2 < 134000000 := h
  have e : bitsLine = 134217728 := by decide
  intro z
  rw [Bool.and_eq_true] at z
  have z3 : (Builtin.Int.intBits i : Int) + Builtin.Int.intBits j > (bitsLine : Int) := of_decide_eq_true z.2
  rw [e] at z3
  omega
theorem op_mulB {X : Cx} : OpR X (binaryOp .Mult) (rI CMulB fun i j => .int (i * j)) := opI fun _ _ _ _ _ _ _ hc q => mul_int q hc.ok
section
variable {P : Program} {w : World} {K : PySem.W.Frag} {mg : Str → Option Value} {base : Heap}
theorem room100 {k : Nat} {A : Around} (hr : Room k A) (hk : 32 ≤ k) : A.depth + 100 < recursionLimit := by
  have := hr.dp
  omega
/-! ### common_multiple -/
theorem sc_common_multiple : FnScope ["one", "other"] ["one", "other"] (defScope s_common_multiple) := ⟨rfl, rfl, rfl, by decide +kernel, rfl, by decide +kernel, by decide +kernel⟩
def sp_common_multiple : Sp := fun vs H Q _ => ∃ a b : Nat, vs = [.int a, .int b] ∧ 0 < a ∧ 0 < b ∧ b < 1000000 ∧ Q (.int (Nat.lcm a b : Nat)) H
theorem lcm_way {a b : Nat} : a / Nat.gcd a b * b = Nat.lcm a b := by
  unfold Nat.lcm
  obtain ⟨c, hc⟩ := Nat.gcd_dvd_left a b
  by_cases g : Nat.gcd a b = 0
  · have := Nat.eq_zero_of_gcd_eq_zero_left g
    rw [g, this]
    simp
  · have hp : 0 < Nat.gcd a b := Nat.pos_of_ne_zero g
    have e1 : a / Nat.gcd a b = c := by
      have := Nat.mul_div_cancel_left c hp
      rw [← hc] at this
      exact this
    have e2 : a * b = Nat.gcd a b * (c * b) := by
      conv => lhs; rw [hc]
      rw [Nat.mul_assoc]
    rw [e1, e2, Nat.mul_div_cancel_left _ hp]
theorem ok_common_multiple {f fG : Addr} {fd fdG : FuncData} {k : Nat} (F : Fun K "common_multiple" "common_multiple" s_common_multiple f fd) (FG : Fun K "common_divisor" "common_divisor" s_common_divisor fG fdG) (bG : Binds K fdG ["one", "other"] []) (gG : mg "common_divisor" = some (.ref fG)) (mabs : mg "abs" = none) :
    FnOk P w K mg base CX0 (k + 2) f fd ["one", "other"] sp_common_multiple := by
  have GG : FnOk P w K mg base CX0 (k + 1) fG fdG ["one", "other"] sp_common_divisor := ok_common_divisor FG mabs
  refine F.ok sc_common_multiple (fun vs H Q E h => ?_) (fun cdv A outer s H vs Q E hr h => ?_)
  · obtain ⟨a, b, rfl, _⟩ := h
    rfl
  · obtain ⟨a, b, rfl, ha, hb, hb2, q⟩ := h
    refine ⟨_, pss_one (ps_ret (pe_op op_mul (pe_op op_fdiv (pv 0) (pe_call GG hr (by rfl) gG FG.kp bG .nil pass0 (pa_cons (pv 0) (pa_cons (pv 1) pa_nil)))) (pv 1))), ?_⟩
    have hg : 0 < Nat.gcd a b := Nat.gcd_pos_of_pos_left _ ha
    have hg2 : Nat.gcd a b ≤ b := Nat.gcd_le_right _ hb
    refine ⟨_, rfl, _, rfl, _, rfl, a, b, rfl, _, _, rfl, rfl, ⟨?_, ?_⟩, _, rfl, _, _, rfl, rfl, .inr ⟨?_, ?_⟩, ?_⟩
    · show (0 : Int) < ((Nat.gcd a b : Nat) : Int)
      omega
    · show ((Nat.gcd a b : Nat) : Int) < _
      omega
    · omega
    · omega
    · have e : (a : Int) / ((Nat.gcd (a : Int).natAbs (b : Int).natAbs : Nat) : Int) * (b : Int) = ((Nat.lcm a b : Nat) : Int) := by
        rw [← lcm_way]
        push_cast
        rfl
      show Q (.int ((a : Int) / ((Nat.gcd (a : Int).natAbs (b : Int).natAbs : Nat) : Int) * (b : Int))) H
      rw [e]
      exact q
/-! ### lowest_terms -/
theorem sc_lowest_terms : FnScope ["top", "bottom", "divisor"] ["top", "bottom"] (defScope s_lowest_terms) := ⟨rfl, rfl, rfl, by decide +kernel, rfl, by decide +kernel, by decide +kernel⟩
def sp_lowest_terms : Sp := fun vs H Q _ => ∃ a b : Int, vs = [.int a, .int b] ∧ b ≠ 0 ∧ ∀ p, H p = none → Q (.ref p) (upd H p (.tup [.int (E94.low a b).1, .int ((E94.low a b).2 : Nat)]))
theorem low_way {a b : Int} (hb : b ≠ 0) : a.fdiv (if b < 0 then -((Nat.gcd a.natAbs b.natAbs : Nat) : Int) else ((Nat.gcd a.natAbs b.natAbs : Nat) : Int)) = (E94.low a b).1 ∧ b.fdiv (if b < 0 then -((Nat.gcd a.natAbs b.natAbs : Nat) : Int) else ((Nat.gcd a.natAbs b.natAbs : Nat) : Int)) = (((E94.low a b).2 : Nat) : Int) := by
  generalize hg : Nat.gcd a.natAbs b.natAbs = g
  have g0 : 0 < g := by rw [← hg]; exact Nat.gcd_pos_of_pos_right _ (by omega)
  obtain ⟨x, hx⟩ : (g : Int) ∣ a := Int.ofNat_dvd_left.mpr (by rw [← hg]; exact Nat.gcd_dvd_left ..)
  obtain ⟨y, hy⟩ : (g : Int) ∣ b := Int.ofNat_dvd_left.mpr (by rw [← hg]; exact Nat.gcd_dvd_right ..)
  have cop : Nat.gcd x.natAbs y.natAbs = 1 := by
    have h1 : a.natAbs = g * x.natAbs := by rw [hx, Int.natAbs_mul]; rfl
    have h2 : b.natAbs = g * y.natAbs := by rw [hy, Int.natAbs_mul]; rfl
    rw [h1, h2, Nat.gcd_mul_left] at hg
    have : g * Nat.gcd x.natAbs y.natAbs = g * 1 := by omega
    exact Nat.eq_of_mul_eq_mul_left g0 this
  have y0 : y ≠ 0 := fun q => hb (by rw [hy, q, Int.mul_zero])
  have gz : (g : Int) ≠ 0 := by omega
  have key : ∀ (z : Int) (d : Nat), 0 < d → Nat.gcd z.natAbs d = 1 → ((a : Rat) / (b : Rat) = (z : Rat) / ((d : Int) : Rat)) → (E94.low a b).1 = z ∧ (E94.low a b).2 = d := by
    intro z d hd hc e
    unfold E94.low
    rw [e]
    exact E94.rat_norm hd (.inr hc)
  have ratE : ∀ (u v : Int), v ≠ 0 → a * v = u * b → (a : Rat) / (b : Rat) = (u : Rat) / (v : Rat) := by
    intro u v hv e
    have hb' : (b : Rat) ≠ 0 := fun q => hb (by exact_mod_cast q)
    have hv' : (v : Rat) ≠ 0 := fun q => hv (by exact_mod_cast q)
    have e' : (a : Rat) * (v : Rat) = (u : Rat) * (b : Rat) := by exact_mod_cast e
    grind
  by_cases h : b < 0
  · have yn : y < 0 := by
      rcases Int.lt_trichotomy y 0 with q | q | q
      · exact q
      · exact absurd q y0
      · have : 0 < (g : Int) * y := Int.mul_pos (by omega) q
        omega
    rw [if_pos h]
    have k := key (-x) y.natAbs (by omega) (by rw [Int.natAbs_neg]; exact cop) (by
      have := ratE (-x) ((y.natAbs : Nat) : Int) (by omega) (by
        have e : ((y.natAbs : Nat) : Int) = -y := by omega
        rw [e, hx, hy, Int.mul_neg, Int.neg_mul, Int.mul_left_comm x, Int.mul_assoc])
      exact this)
    rw [k.1, k.2]
    have f1 : a.fdiv (-(g : Int)) = -x := by
      have : a = (-x) * (-(g : Int)) := by rw [hx, Int.neg_mul_neg, Int.mul_comm]
      rw [this]
      exact Int.mul_fdiv_cancel _ (by omega)
    have f2 : b.fdiv (-(g : Int)) = -y := by
      have : b = (-y) * (-(g : Int)) := by rw [hy, Int.neg_mul_neg, Int.mul_comm]
      rw [this]
      exact Int.mul_fdiv_cancel _ (by omega)
    rw [f1, f2]
    refine ⟨rfl, ?_⟩
    omega
  · have yp : 0 < y := by
      rcases Int.lt_trichotomy y 0 with q | q | q
      · have : (g : Int) * y < 0 := Int.mul_neg_of_pos_of_neg (by omega) q
        omega
      · exact absurd q y0
      · exact q
    rw [if_neg h]
    have k := key x y.natAbs (by omega) cop (by
      have := ratE x ((y.natAbs : Nat) : Int) (by omega) (by
        have e : ((y.natAbs : Nat) : Int) = y := by omega
        rw [e, hx, hy, Int.mul_left_comm x, Int.mul_assoc])
      exact this)
    rw [k.1, k.2]
    have f1 : a.fdiv (g : Int) = x := by
      have : a = x * (g : Int) := by rw [hx, Int.mul_comm]
      rw [this]
      exact Int.mul_fdiv_cancel _ (by omega)
    have f2 : b.fdiv (g : Int) = y := by
      have : b = y * (g : Int) := by rw [hy, Int.mul_comm]
      rw [this]
      exact Int.mul_fdiv_cancel _ (by omega)
    rw [f1, f2]
    refine ⟨rfl, ?_⟩
    omega
theorem ok_lowest_terms {f fG : Addr} {fd fdG : FuncData} {k : Nat} (hk : 32 ≤ k) (hS : base.NoSeer) (hT : P.given.tree = none) (F : Fun K "lowest_terms" "lowest_terms" s_lowest_terms f fd) (FG : Fun K "common_divisor" "common_divisor" s_common_divisor fG fdG) (bG : Binds K fdG ["one", "other"] []) (gG : mg "common_divisor" = some (.ref fG)) (mabs : mg "abs" = none) :
    FnOk P w K mg base CX0 (k + 1) f fd ["top", "bottom"] sp_lowest_terms := by
  obtain ⟨j, rfl⟩ : ∃ j, k = j + 1 := ⟨k - 1, by omega⟩
  have GG : FnOk P w K mg base CX0 (j + 1) fG fdG ["one", "other"] sp_common_divisor := ok_common_divisor FG mabs
  refine F.ok sc_lowest_terms (fun vs H Q E h => ?_) (fun cdv A outer s H vs Q E hr h => ?_)
  · obtain ⟨a, b, rfl, _⟩ := h
    rfl
  · obtain ⟨a, b, rfl, hb, q⟩ := h
    have h100 := room100 hr hk
    refine ⟨_, pss_cons (ps_set (i := 2) sc_lowest_terms.nd rfl (.inl rfl) (pe_call GG hr (by rfl) gG FG.kp bG .nil pass0 (pa_cons (pv 0) (pa_cons (pv 1) pa_nil))))
      (pss_cons (ps_if (pt_cmpR op_lt (pv 1) pe_int (nomark _)) (pss_one (ps_set (i := 2) sc_lowest_terms.nd rfl (.inl rfl) (pe_un un_neg (pv 2)))) pss_nil)
      (pss_one (ps_ret (pe_tup (pa_cons (pe_op (op_fdivP hS hT h100 rfl rfl rfl rfl rfl) (pv 0) (pv 2)) (pa_cons (pe_op (op_fdivP hS hT h100 rfl rfl rfl rfl rfl) (pv 1) (pv 2)) pa_nil)))))), ?_⟩
    have g0 : 0 < Nat.gcd a.natAbs b.natAbs := Nat.gcd_pos_of_pos_right _ (by omega)
    have lw := low_way (a := a) hb
    refine ⟨_, rfl, _, rfl, a, b, rfl, ?_⟩
    refine ⟨_, rfl, _, _, rfl, rfl, _, rfl, ite2 (fun e => ?_) (fun e => ?_)⟩
    · have hn : b < 0 := of_decide_eq_true e
      rw [if_pos hn] at lw
      refine ⟨_, rfl, _, rfl, ?_⟩
      refine ⟨_, rfl, _, rfl, _, _, rfl, rfl, ?_, _, rfl, _, rfl, _, _, rfl, rfl, ?_, by show 2 ≤ sizeLine; decide, fun p hp => ?_⟩
      · show -((Nat.gcd a.natAbs b.natAbs : Nat) : Int) ≠ 0
        omega
      · show -((Nat.gcd a.natAbs b.natAbs : Nat) : Int) ≠ 0
        omega
      · have := q p hp
        rw [← lw.1, ← lw.2] at this
        exact this
    · have hn : ¬ b < 0 := fun z => e (decide_eq_true z)
      rw [if_neg hn] at lw
      refine ⟨_, rfl, _, rfl, _, _, rfl, rfl, ?_, _, rfl, _, rfl, _, _, rfl, rfl, ?_, by show 2 ≤ sizeLine; decide, fun p hp => ?_⟩
      · show ((Nat.gcd a.natAbs b.natAbs : Nat) : Int) ≠ 0
        omega
      · show ((Nat.gcd a.natAbs b.natAbs : Nat) : Int) ≠ 0
        omega
      · have := q p hp
        rw [← lw.1, ← lw.2] at this
        exact this
end
end E94H
set_option Elab.async false
set_option linter.all false
set_option maxRecDepth 100000
set_option maxHeartbeats 2000000
namespace E94H
open PySem PySem.Spec PyProof.Rows L2
section
variable {P : Program} {w : World} {K : PySem.W.Frag} {mg : Str → Option Value} {base : Heap}
theorem get_int {ns : List Int} {i : Nat} {x : V} (h : (ns.map V.int)[i]? = some x) : ∃ z, ns[i]? = some z ∧ x = .int z := by
  rw [List.getElem?_map] at h
  cases e : ns[i]? with
  | none => rw [e] at h; cases h
  | some z => rw [e] at h; exact ⟨z, rfl, (Option.some.inj h).symm⟩
theorem take_more {α : Type} {l : List α} {i : Nat} {x : α} (h : l[i]? = some x) : l.take (i + 1) = l.take i ++ [x] := by
  rw [List.take_add_one, h]
  rfl
/-! ### cleared -/
theorem sc_cleared : FnScope ["row", "divisor", "number"] ["row"] (defScope s_cleared) := ⟨rfl, rfl, rfl, by decide +kernel, rfl, by decide +kernel, by decide +kernel⟩
def sp_cleared (K : PySem.W.Frag) : Sp := fun vs H Q _ => ∃ (a : Addr) (ns : List Int), vs = [.ref a] ∧ SqL K H a (ns.map V.int) ∧ ns.length < sizeLine ∧ ∀ H' p, Same H H' → SqL K H' p ((E94.cleared ns).map V.int) → Q (.ref p) H'
theorem gcdL_take {ns : List Int} {i : Nat} {z : Int} (h : ns[i]? = some z) : E94.gcdL (ns.take (i + 1)) = Nat.gcd (E94.gcdL (ns.take i)) z.natAbs := by
  unfold E94.gcdL
  rw [take_more h, List.foldl_append]
  rfl
theorem cleared_one {ns : List Int} {i : Nat} (h : E94.gcdL (ns.take i) = 1) : E94.cleared ns = ns := by
  have h1 : E94.gcdL ns = 1 := by
    have : E94.gcdL ns ∣ E94.gcdL (ns.take i) := E94.dvd_gcdL fun x hx => by
      have := E94.gcdL_dvd (List.mem_of_mem_take hx)
      exact Int.ofNat_dvd_left.mp this
    rw [h] at this
    exact Nat.dvd_one.mp this
  unfold E94.cleared
  rw [h1]
  have : ∀ x ∈ ns, x / ((1 : Nat) : Int) = x := fun x _ => Int.ediv_one x
  calc ns.map (fun x => x / ((1 : Nat) : Int)) = ns.map id := List.map_congr_left this
    _ = ns := List.map_id _
theorem ok_cleared {f fG : Addr} {fd fdG : FuncData} {k : Nat} (hk : 32 ≤ k) (hS : base.NoSeer) (hT : P.given.tree = none) (F : Fun K "cleared" "cleared" s_cleared f fd) (FG : Fun K "common_divisor" "common_divisor" s_common_divisor fG fdG) (bG : Binds K fdG ["one", "other"] []) (gG : mg "common_divisor" = some (.ref fG)) (mabs : mg "abs" = none) :
    FnOk P w K mg base CX0 (k + 1) f fd ["row"] (sp_cleared K) := by
  obtain ⟨j, rfl⟩ : ∃ j, k = j + 1 := ⟨k - 1, by omega⟩
  have GG : FnOk P w K mg base CX0 (j + 1) fG fdG ["one", "other"] sp_common_divisor := ok_common_divisor FG mabs
  refine F.ok sc_cleared (fun vs H Q E h => ?_) (fun cdv A outer s H vs Q E hr h => ?_)
  · obtain ⟨a, ns, rfl, _⟩ := h
    rfl
  · obtain ⟨a, ns, rfl, hA, hlen, q⟩ := h
    have h100 := room100 hr hk
    refine ⟨_, pss_cons (ps_set (i := 1) sc_cleared.nd rfl (.inr rfl) pe_int)
      (pss_cons (ps_for PassesOwn.never rfl (pi_list (pv 0)) (pg_name (i := 2) sc_cleared.nd rfl (.inl rfl))
        (pss_cons (ps_set (i := 1) sc_cleared.nd rfl (.inr rfl) (pe_call GG hr (by rfl) gG FG.kp bG .nil pass0 (pa_cons (pv 1) (pa_cons (pv 2) pa_nil))))
        (pss_one (ps_if (pt_cmpR op_eq (pv 1) pe_int (nomark _)) (pss_one (ps_ret (pv 0))) pss_nil))))
      (pss_cons (ps_if (pt_cmpR op_eq (pv 1) pe_int (nomark _)) (pss_one (ps_ret (pv 0))) pss_nil)
      (pss_one (ps_ret (pe_lc (own := [("number", 2)]) (g := gName 2) (tt := tYes) (by rfl) sc_cleared.nd (pi_list (pv 0)) (blkOk_by (own := [("number", 2)]) (N := ["row", "divisor", "number"]) (sc := defScope s_cleared) (by decide +kernel)) (fun _ _ _ _ _ => pg_name (i := 2) sc_cleared.nd rfl (.inl rfl)) (fun _ _ _ _ _ => pts_nil) (fun _ _ _ _ _ => pe_op (op_fdivP hS hT h100 rfl rfl rfl rfl rfl) (pv 2) (pv 1))))))), ?_⟩
    refine ⟨_, rfl, a, rfl, ⟨_, hA⟩, for_list (K := K) (a := a) (xs := ns.map V.int) (fun i σ H' => H' = H ∧ ∃ y, σ = [some (.ref a), some (.int (E94.gcdL (ns.take i) : Nat)), y]) ⟨rfl, none, rfl⟩ (fun i σ H' _ ⟨e, _⟩ => by rw [e]; exact hA) ?_ ?_⟩
    · rintro i x σ H' hi ⟨rfl, y, rfl⟩
      obtain ⟨z, hz, rfl⟩ := get_int hi
      refine ⟨_, rfl, _, rfl, _, _, rfl, ?_⟩
      have e1 : ((Nat.gcd ((E94.gcdL (ns.take i) : Nat) : Int).natAbs z.natAbs : Nat) : Int) = ((E94.gcdL (ns.take (i + 1)) : Nat) : Int) := by rw [gcdL_take hz]; rfl
      rw [e1]
      refine ⟨_, rfl, rfl, _, rfl, ite2 (fun e => ?_) (fun e => ?_)⟩
      · have e2 : ((E94.gcdL (ns.take (i + 1)) : Nat) : Int) = 1 := V.int.inj (of_decide_eq_true e)
        have e3 := cleared_one (ns := ns) (i := i + 1) (by omega)
        exact ⟨_, rfl, q _ a (Same.refl _) (by rw [e3]; exact hA)⟩
      · exact ⟨rfl, _, rfl⟩
    · rintro σ H' ⟨rfl, y, rfl⟩
      rw [List.length_map, List.take_length]
      refine ⟨_, rfl, rfl, _, rfl, ite2 (fun e => ?_) (fun e => ?_)⟩
      · have e2 : ((E94.gcdL ns : Nat) : Int) = 0 := V.int.inj (of_decide_eq_true e)
        have e3 := E94.cleared_id_of_zero (row := ns) (by omega)
        exact ⟨_, rfl, q _ a (Same.refl _) (by rw [e3]; exact hA)⟩
      · have g0 : ((E94.gcdL ns : Nat) : Int) ≠ 0 := fun z => e (decide_eq_true (by rw [z]))
        refine ⟨_, rfl, a, rfl, ⟨_, hA⟩, fun D hD => lc_list (K := K) (a := a) (xs := ns.map V.int) (fun i H2 => H2 = upd H' D (.lst ((ns.take i).map fun x => V.int (x / (E94.gcdL ns : Int))))) rfl (fun i H2 _ e => by rw [e]; exact (same_upd hD).seq hA) ?_ ?_⟩
        · rintro i x H2 hi rfl
          obtain ⟨z, hz, rfl⟩ := get_int hi
          refine ⟨rfl, ?_⟩
          refine ⟨_, rfl, _, rfl, _, _, rfl, rfl, g0, _, upd_same, ?_, ?_⟩
          · rw [List.length_map, List.length_take]
            exact Nat.lt_of_le_of_lt (Nat.min_le_right _ _) hlen
          · rw [upd_upd, take_more hz, List.map_append]
            have : z.fdiv (E94.gcdL ns : Int) = z / (E94.gcdL ns : Int) := Int.fdiv_eq_ediv_of_nonneg z (by omega)
            show upd H' D _ = upd H' D (.lst (_ ++ [V.int (z / (E94.gcdL ns : Int))]))
            rw [← this]
        · rintro H2 rfl
          refine q _ D (same_upd hD) (SqL.of ?_)
          rw [upd_same, List.length_map, List.take_length]
          unfold E94.cleared
          rw [List.map_map]
          rfl
end
end E94H
set_option Elab.async false
set_option linter.all false
set_option maxRecDepth 100000
set_option maxHeartbeats 2000000
namespace E94H
open PySem PySem.Spec PyProof.Rows L2
section
variable {P : Program} {w : World} {K : PySem.W.Frag} {mg : Str → Option Value} {base : Heap}
theorem log2_le {n b : Nat} (h : n < 2 ^ b) : n.log2 ≤ b := by
  by_cases h0 : n = 0
  · subst h0; simp
  · exact Nat.le_of_lt ((Nat.log2_lt h0).mpr h)
/-- all numbers below 2 ^ b -/
def Bnd (b : Nat) (row : List Int) : Prop := ∀ x ∈ row, x.natAbs < 2 ^ b
theorem Bnd.get {b : Nat} {row : List Int} (h : Bnd b row) (j : Nat) : (row.getD j 0).natAbs < 2 ^ b := by
  rcases E94.getD_mem_or row j with q | q
  · exact h _ q
  · rw [q]; exact Nat.pow_pos (by decide)
theorem Bnd.cleared {b : Nat} {row : List Int} (h : Bnd b row) : Bnd b (E94.cleared row) := by
  intro x hx
  obtain ⟨y, hy, rfl⟩ := List.mem_map.mp hx
  refine Nat.lt_of_le_of_lt ?_ (h y hy)
  exact Int.natAbs_ediv_le_natAbs _ _
theorem Bnd.comb {b c : Nat} {row other : List Int} (h1 : Bnd b row) (h2 : Bnd c other) (place : Nat) : Bnd (b + c + 1) (E94.comb (other.getD place 0) (row.getD place 0) row other) := by
  intro x hx
  obtain ⟨z, hz, rfl⟩ := List.mem_map.mp hx
  have m := List.of_mem_zip hz
  have a1 : (other.getD place 0 * z.1).natAbs < 2 ^ (b + c) := by
    rw [Nat.add_comm]
    exact wide_lt (h2.get place) (h1 _ m.1)
  have a2 : (row.getD place 0 * z.2).natAbs < 2 ^ (b + c) := wide_lt (h1.get place) (h2 _ m.2)
  have e : (2 : Nat) ^ (b + c + 1) = 2 ^ (b + c) + 2 ^ (b + c) := by rw [Nat.pow_succ]; omega
  show (other.getD place 0 * z.1 - row.getD place 0 * z.2).natAbs < _
  rw [e]
  omega
theorem Bnd.withZero {b c : Nat} {row other : List Int} (h1 : Bnd b row) (h2 : Bnd c other) (place : Nat) : Bnd (b + c + 1) (E94.withZero place row other) := by
  unfold E94.withZero
  split
  · intro x hx
    refine Nat.lt_of_lt_of_le (h1 x hx) (Nat.pow_le_pow_right (by decide) (by omega))
  · exact (h1.comb h2 place).cleared
theorem ix_int {ns : List Int} {j : Nat} (h : j < ns.length) : atI (ns.map V.int) (j : Int) = some (.int (ns.getD j 0)) := atI_nat (by
  rw [List.getElem?_map, List.getD_eq_getElem?_getD, List.getElem?_eq_getElem h]
  rfl)
/-! ### with_zero_at -/
theorem sc_with_zero_at : FnScope ["place", "row", "other", "keep", "less", "first", "second"] ["place", "row", "other"] (defScope s_with_zero_at) := ⟨rfl, rfl, rfl, by decide +kernel, rfl, by decide +kernel, by decide +kernel⟩
def sp_with_zero_at (K : PySem.W.Frag) : Sp := fun vs H Q _ => ∃ (a b : Addr) (j : Nat) (ns ms : List Int) (x y : Nat), vs = [.int (j : Int), .ref a, .ref b] ∧ SqL K H a (ns.map V.int) ∧ SqL K H b (ms.map V.int) ∧ ns.length = ms.length ∧ j < ns.length ∧ ns.length < sizeLine ∧ Bnd x ns ∧ Bnd y ms ∧ x + y < 133000000 ∧
  ∀ H' p, Same H H' → SqL K H' p ((E94.withZero j ns ms).map V.int) → Q (.ref p) H'
theorem ok_with_zero_at {f fC fG : Addr} {fd fdC fdG : FuncData} {k : Nat} (hk : 32 ≤ k) (hS : base.NoSeer) (hT : P.given.tree = none) (F : Fun K "with_zero_at" "with_zero_at" s_with_zero_at f fd) (FC : Fun K "cleared" "cleared" s_cleared fC fdC) (bC : Binds K fdC ["row"] []) (gC : mg "cleared" = some (.ref fC)) (FG : Fun K "common_divisor" "common_divisor" s_common_divisor fG fdG) (bG : Binds K fdG ["one", "other"] []) (gG : mg "common_divisor" = some (.ref fG)) (mabs : mg "abs" = none) (mzip : mg "zip" = none) :
    FnOk P w K mg base CX0 (k + 2) f fd ["place", "row", "other"] (sp_with_zero_at K) := by
  have GC : FnOk P w K mg base CX0 (k + 1) fC fdC ["row"] (sp_cleared K) := ok_cleared hk hS hT FC FG bG gG mabs
  refine F.ok sc_with_zero_at (fun vs H Q E h => ?_) (fun cdv A outer s H vs Q E hr h => ?_)
  · obtain ⟨a, b, j, ns, ms, x, y, rfl, _⟩ := h
    rfl
  · obtain ⟨a, b, j, ns, ms, x, y, rfl, hA, hB, hl, hj, hlen, bx, bY, hxy, q⟩ := h
    refine ⟨_, pss_cons (ps_if (pt_cmpR op_eq (pe_ix ix_list (pv 1) (pv 0) (fun _ _ => rfl)) pe_int (nomark _)) (pss_one (ps_ret (pv 1))) pss_nil)
      (pss_cons (ps_set (i := 3) sc_with_zero_at.nd rfl (.inr rfl) (pe_ix ix_list (pv 2) (pv 0) (fun _ _ => rfl)))
      (pss_cons (ps_set (i := 4) sc_with_zero_at.nd rfl (.inr rfl) (pe_ix ix_list (pv 1) (pv 0) (fun _ _ => rfl)))
      (pss_one (ps_ret (pe_call GC hr (by rfl) gC FC.kp bC .nil pass0 (pa_cons
        (pe_lc (own := [("first", 5), ("second", 6)]) (g := gTup K 2 (gCons (gName 5) (gCons (gName 6) gNil))) (tt := tYes) (by rfl) sc_with_zero_at.nd (pi_zip (by rfl) mzip (pa_cons (pv 1) (pa_cons (pv 2) pa_nil))) (blkOk_by (own := [("first", 5), ("second", 6)]) (N := ["place", "row", "other", "keep", "less", "first", "second"]) (sc := defScope s_with_zero_at) (by decide +kernel))
          (fun _ _ _ _ _ => pg_tup rfl (pgs_cons (pg_name (i := 5) sc_with_zero_at.nd rfl (.inl rfl)) (pgs_cons (pg_name (i := 6) sc_with_zero_at.nd rfl (.inl rfl)) pgs_nil))) (fun _ _ _ _ _ => pts_nil)
          (fun _ _ _ _ _ => pe_op op_sub (pe_op op_mulB (pv 3) (pv 5)) (pe_op op_mulB (pv 4) (pv 6)))) pa_nil)))))), ?_⟩
    have hj2 : j < ms.length := by omega
    refine ⟨_, rfl, _, rfl, a, _, _, _, rfl, rfl, hA, ix_int hj, rfl, _, rfl, ite2 (fun e => ?_) (fun e => ?_)⟩
    · have e2 : ns.getD j 0 = 0 := V.int.inj (of_decide_eq_true e)
      refine ⟨_, rfl, q _ a (Same.refl _) ?_⟩
      unfold E94.withZero
      rw [if_pos e2]
      exact hA
    · have e2 : ¬ ns.getD j 0 = 0 := fun z => e (decide_eq_true (by rw [z]))
      refine ⟨_, rfl, _, rfl, b, _, _, _, rfl, rfl, hB, ix_int hj2, ?_⟩
      refine ⟨_, rfl, _, rfl, a, _, _, _, rfl, rfl, hA, ix_int hj, ?_⟩
      refine ⟨_, rfl, _, rfl, a, b, _, _, rfl, hA, hB, fun D hD => lc_it (walk_zip (xs := ns.map V.int) (ys := ms.map V.int) (n := ns.length) (by rw [List.length_map, List.length_map, hl, Nat.min_self])) (fun i H2 => Same H H2 ∧ H2 D = some (.lst (((E94.comb (ms.getD j 0) (ns.getD j 0) ns ms).take i).map V.int))) ⟨same_upd hD, upd_same⟩ (fun i H2 _ h => ⟨h.1.seq hA, h.1.seq hB⟩) ?_ ?_⟩
      · rintro i v H2 H3 hi ⟨sm, hd⟩ ⟨T, x1, x2, rfl, nT, rfl, g1, g2⟩
        obtain ⟨z1, hz1, rfl⟩ := get_int g1
        obtain ⟨z2, hz2, rfl⟩ := get_int g2
        have TD : D ≠ T := ne_of_none hd nT
        have smT : Same H2 (upd H2 T (.tup [.int z1, .int z2])) := same_upd nT
        have hd2 : (upd H2 T (.tup [.int z1, .int z2])) D = some (.lst (((E94.comb (ms.getD j 0) (ns.getD j 0) ns ms).take i).map V.int)) := by rw [upd_ne TD]; exact hd
        have m1 : z1 ∈ ns := List.mem_of_getElem? hz1
        have m2 : z2 ∈ ms := List.mem_of_getElem? hz2
        have hz : (E94.comb (ms.getD j 0) (ns.getD j 0) ns ms)[i]? = some (ms.getD j 0 * z1 - ns.getD j 0 * z2) := by
          unfold E94.comb
          rw [List.getElem?_map, (List.getElem?_zip_eq_some (z := (z1, z2))).mpr ⟨hz1, hz2⟩]
          rfl
        refine ⟨T, _, rfl, .inl (.inl upd_same), rfl, _, _, rfl, _, _, rfl, rfl, rfl, ?_⟩
        refine ⟨_, rfl, _, rfl, _, _, rfl, rfl, ?_, _, rfl, _, rfl, _, _, rfl, rfl, ?_, _, _, rfl, rfl, _, hd2, ?_, ?_, ?_⟩
        · have a1 := log2_le (bY.get j)
          have a2 := log2_le (bx z1 m1)
          show (ms.getD j 0).natAbs.log2 + z1.natAbs.log2 < 134000000
          omega
        · have a1 := log2_le (bx.get j)
          have a2 := log2_le (bY z2 m2)
          show (ns.getD j 0).natAbs.log2 + z2.natAbs.log2 < 134000000
          omega
        · rw [List.length_map, List.length_take]
          exact Nat.lt_of_le_of_lt (Nat.min_le_left _ _) (by omega)
        · intro b0 o0 e0
          have : b0 ≠ D := ne_of_none e0 hD
          rw [upd_ne this]
          exact smT _ _ (sm _ _ e0)
        · rw [upd_same, take_more hz, List.map_append]
          rfl
      · rintro H2 ⟨sm, hd⟩
        have cl : (E94.comb (ms.getD j 0) (ns.getD j 0) ns ms).length = ns.length := E94.comb_len hl
        rw [List.take_of_length_le (by omega)] at hd
        refine ⟨D, _, rfl, SqL.of hd, by omega, fun H' p sm' hp => q H' p (sm.trans sm') ?_⟩
        unfold E94.withZero
        rw [if_neg e2]
        exact hp
/-! ### first_place -/
theorem sc_first_place : FnScope ["row", "place", "number"] ["row"] (defScope s_first_place) := ⟨rfl, rfl, rfl, by decide +kernel, rfl, by decide +kernel, by decide +kernel⟩
def placeI (o : Option Nat) : Int := match o with
  | some f => (f : Int)
  | none => -1
def sp_first_place (K : PySem.W.Frag) : Sp := fun vs H Q _ => ∃ (a : Addr) (ns : List Int), vs = [.ref a] ∧ SqL K H a (ns.map V.int) ∧ ∀ H', Same H H' → Q (.int (placeI (E94.firstPlace ns))) H'
theorem firstPlace_at {ns : List Int} {i : Nat} {z : Int} (h0 : ∀ j, j < i → ns.getD j 0 = 0) (hz : ns[i]? = some z) (z0 : z ≠ 0) : E94.firstPlace ns = some i := by
  induction ns generalizing i with
  | nil => cases hz
  | cons x r ih =>
    cases i with
    | zero =>
      have : x = z := Option.some.inj hz
      unfold E94.firstPlace
      rw [if_pos (by rw [this]; exact z0)]
    | succ i =>
      have hx : x = 0 := h0 0 (by omega)
      unfold E94.firstPlace
      rw [if_neg (by rw [hx]; exact fun q => q rfl), ih (fun j hj => h0 (j + 1) (by omega)) hz]
      rfl
theorem firstPlace_no {ns : List Int} (h0 : ∀ j, j < ns.length → ns.getD j 0 = 0) : E94.firstPlace ns = none := by
  induction ns with
  | nil => rfl
  | cons x r ih =>
    have hx : x = 0 := h0 0 (by simp)
    unfold E94.firstPlace
    rw [if_neg (by rw [hx]; exact fun q => q rfl), ih fun j hj => h0 (j + 1) (by simpa using hj)]
    rfl
theorem ok_first_place {f : Addr} {fd : FuncData} {k : Nat} (F : Fun K "first_place" "first_place" s_first_place f fd) (menum : mg "enumerate" = none) : FnOk P w K mg base CX0 (k + 1) f fd ["row"] (sp_first_place K) := by
  refine F.ok sc_first_place (fun vs H Q E h => ?_) (fun cdv A outer s H vs Q E hr h => ?_)
  · obtain ⟨a, ns, rfl, _⟩ := h
    rfl
  · obtain ⟨a, ns, rfl, hA, q⟩ := h
    refine ⟨_, pss_cons (ps_for PassesOwn.never rfl (pi_enum (by rfl) menum (pa_cons (pv 0) pa_nil)) (pg_tup rfl (pgs_cons (pg_name (i := 1) sc_first_place.nd rfl (.inl rfl)) (pgs_cons (pg_name (i := 2) sc_first_place.nd rfl (.inl rfl)) pgs_nil)))
        (pss_one (ps_if (pt_cmpR op_ne (pv 2) pe_int (nomark _)) (pss_one (ps_ret (pv 1))) pss_nil)))
      (pss_one (ps_ret (pe_un un_neg pe_int))), ?_⟩
    refine ⟨_, rfl, a, _, rfl, hA, for_it (walk_enum (xs := ns.map V.int)) (fun i σ H2 => Same H H2 ∧ (∀ j, j < i → ns.getD j 0 = 0) ∧ ∃ y1 y2, σ = [some (.ref a), y1, y2]) ⟨Same.refl _, fun j hj => absurd hj (Nat.not_lt_zero _), none, none, rfl⟩ (fun i σ H2 _ h => h.1.seq hA) ?_ ?_⟩
    · rintro i v σ H2 H3 hi ⟨sm, h0, y1, y2, rfl⟩ ⟨T, x1, x2, rfl, nT, rfl, g1, g2⟩
      have e1 : x1 = .int (i : Nat) := (Option.some.inj g1).symm
      subst e1
      obtain ⟨z, hz, rfl⟩ := get_int g2
      have smT : Same H2 (upd H2 T (.tup [.int (i : Nat), .int z])) := same_upd nT
      refine ⟨T, _, rfl, .inl (.inl upd_same), rfl, _, _, rfl, _, _, rfl, rfl, ?_⟩
      refine ⟨_, rfl, rfl, _, rfl, ite2 (fun e => ?_) (fun e => ?_)⟩
      · have z0 : z ≠ 0 := by
          intro q0
          subst q0
          exact absurd e (by decide)
        have := q _ (sm.trans smT)
        rw [firstPlace_at h0 hz z0] at this
        exact ⟨_, rfl, this⟩
      · have z0 : z = 0 := by
          refine Classical.byContradiction fun q0 => e ?_
          have : ¬ (V.int z = V.int 0) := fun w => q0 (V.int.inj w)
          simp [this]
        refine ⟨sm.trans smT, fun j hj => ?_, _, _, rfl⟩
        by_cases q0 : j = i
        · subst q0
          rw [List.getD_eq_getElem?_getD, hz]
          exact z0
        · exact h0 j (by omega)
    · rintro σ H2 ⟨sm, h0, y1, y2, rfl⟩
      rw [List.length_map] at h0
      have := q _ sm
      rw [firstPlace_no h0] at this
      exact ⟨_, rfl, this⟩
end
end E94H
set_option Elab.async false
set_option linter.all false
set_option maxRecDepth 100000
set_option maxHeartbeats 2000000
namespace E94H
open PySem PySem.Spec PyProof.Rows L2
section
variable {P : Program} {w : World} {K : PySem.W.Frag} {mg : Str → Option Value} {base : Heap}
/-! ### data of rows -/
abbrev dRow (r : List Int) : PyData := .list (r.map .int)
abbrev dRows (rs : List (List Int)) : PyData := .list (rs.map dRow)
theorem dp_ints {K : PySem.W.Frag} {H : Hp} : ∀ {ns : List Int} {vs : List V}, DpAll K H vs (ns.map .int) → vs = ns.map V.int
  | [], _, h => by cases h; rfl
  | n :: ns, _, h => by
    cases h with
    | cons h1 h2 =>
      cases h1
      rw [List.map_cons, dp_ints h2]
theorem ints_dp {K : PySem.W.Frag} {H : Hp} : ∀ (ns : List Int), DpAll K H (ns.map V.int) (ns.map .int)
  | [] => .nil
  | n :: ns => .cons (.int n) (ints_dp ns)
theorem dp_row {H : Hp} {v : V} {ns : List Int} (h : Dp K H v (dRow ns)) : ∃ a, v = .ref a ∧ SqL K H a (ns.map V.int) := by
  cases h with
  | lst h1 h2 => rw [dp_ints h2] at h1; exact ⟨_, rfl, h1⟩
theorem row_dp {H : Hp} {a : Addr} {ns : List Int} (h : SqL K H a (ns.map V.int)) : Dp K H (.ref a) (dRow ns) := .lst h (ints_dp ns)
theorem dpAll_get {H : Hp} {α : Type} {f : α → PyData} : ∀ {xs : List α} {vs : List V} {i : Nat} {v : V}, DpAll K H vs (xs.map f) → vs[i]? = some v → ∃ x, xs[i]? = some x ∧ Dp K H v (f x)
  | [], _, i, v, h, hv => by cases h; cases hv
  | x :: xs, _, i, v, h, hv => by
    cases h with
    | cons h1 h2 =>
      cases i with
      | zero =>
        have e := Option.some.inj hv
        subst e
        exact ⟨x, rfl, h1⟩
      | succ i => exact dpAll_get (xs := xs) h2 (show _ = some v from hv)
theorem dpAll_len {H : Hp} : ∀ {ds : List PyData} {vs : List V}, DpAll K H vs ds → vs.length = ds.length
  | [], _, h => by cases h; rfl
  | d :: ds, _, h => by
    cases h with
    | cons h1 h2 => rw [List.length_cons, List.length_cons, dpAll_len h2]
theorem dpAll_snoc {H : Hp} : ∀ {ds : List PyData} {vs : List V} {v : V} {d : PyData}, DpAll K H vs ds → Dp K H v d → DpAll K H (vs ++ [v]) (ds ++ [d])
  | [], _, v, d, h, hv => by cases h; exact .cons hv .nil
  | e :: ds, _, v, d, h, hv => by
    cases h with
    | cons h1 h2 => exact .cons h1 (dpAll_snoc h2 hv)
/-- what is no list may be changed -/
theorem sq_upd {H : Hp} {p d : Addr} {xs : List V} {o o' : HO} (h : SqL K H p xs) (hd : H d = some o) (h1 : ∀ ys, o ≠ .lst ys) (h2 : ∀ q ys, o ≠ .frz q (.lst ys)) : SqL K (upd H d o') p xs := by
  rcases h with (h | ⟨q, h⟩) | h
  · refine .inl (.inl ?_)
    rw [upd_ne (fun e => ?_)]
    · exact h
    · subst e
      rw [h] at hd
      exact h1 _ (Option.some.inj hd).symm
  · refine .inl (.inr ⟨q, ?_⟩)
    rw [upd_ne (fun e => ?_)]
    · exact h
    · subst e
      rw [h] at hd
      exact h2 _ _ (Option.some.inj hd).symm
  · exact .inr h
/-- the reduced rows in a dict -/
def FAt (K : PySem.W.Frag) (H : Hp) : List (Key × V) → E94.Found → Prop
  | [], [] => True
  | (k, v) :: r, y :: F => k = Sum.inl (y.1 : Int) ∧ (∃ a, v = .ref a ∧ SqL K H a (y.2.map V.int)) ∧ FAt K H r F
  | _, _ => False
theorem FAt.get {H : Hp} : ∀ {kvs : List (Key × V)} {F : E94.Found} {i : Nat} {k : Key} {v : V}, FAt K H kvs F → kvs[i]? = some (k, v) → ∃ y a, F[i]? = some y ∧ k = Sum.inl (y.1 : Int) ∧ v = .ref a ∧ SqL K H a (y.2.map V.int)
  | [], [], _, _, _, _, h => by cases h
  | [], _ :: _, _, _, _, h, _ => h.elim
  | _ :: _, [], _, _, _, h, _ => h.elim
  | (k, v) :: r, y :: F, i, k', v', h, e => by
    obtain ⟨h1, ⟨a, h2, h3⟩, h4⟩ := h
    cases i with
    | zero =>
      have e := Prod.mk.inj (Option.some.inj e)
      rw [← e.1, ← e.2]
      exact ⟨y, a, rfl, h1, h2, h3⟩
    | succ i => exact h4.get e
theorem FAt.len {H : Hp} : ∀ {kvs : List (Key × V)} {F : E94.Found}, FAt K H kvs F → kvs.length = F.length
  | [], [], _ => rfl
  | [], _ :: _, h => h.elim
  | _ :: _, [], h => h.elim
  | (k, v) :: r, y :: F, h => by rw [List.length_cons, List.length_cons, FAt.len h.2.2]
theorem FAt.mono {H H' : Hp} (hs : ∀ a xs, SqL K H a xs → SqL K H' a xs) : ∀ {kvs : List (Key × V)} {F : E94.Found}, FAt K H kvs F → FAt K H' kvs F
  | [], [], _ => trivial
  | [], _ :: _, h => h.elim
  | _ :: _, [], h => h.elim
  | (k, v) :: r, y :: F, h => ⟨h.1, let ⟨a, h2, h3⟩ := h.2.1; ⟨a, h2, hs a _ h3⟩, FAt.mono hs h.2.2⟩
theorem FAt.snoc {H : Hp} : ∀ {kvs : List (Key × V)} {F : E94.Found} {y : Nat × List Int} {a : Addr}, FAt K H kvs F → SqL K H a (y.2.map V.int) → FAt K H (kvs ++ [(Sum.inl (y.1 : Int), .ref a)]) (F ++ [y])
  | [], [], y, a, _, h => ⟨rfl, ⟨a, rfl, h⟩, trivial⟩
  | [], _ :: _, _, _, h, _ => h.elim
  | _ :: _, [], _, _, h, _ => h.elim
  | (k, v) :: r, z :: F, y, a, h, h2 => ⟨h.1, h.2.1, FAt.snoc h.2.2 h2⟩
theorem FAt.noKey {H : Hp} : ∀ {kvs : List (Key × V)} {F : E94.Found} {j : Nat}, FAt K H kvs F → (∀ y ∈ F, y.1 ≠ j) → (kvs.any fun kv => decide (kv.1 = Sum.inl (j : Int))) = false
  | [], [], _, _, _ => rfl
  | [], _ :: _, _, h, _ => h.elim
  | _ :: _, [], _, h, _ => h.elim
  | (k, v) :: r, y :: F, j, h, hn => by
    rw [List.any_cons, FAt.noKey h.2.2 fun z hz => hn z (List.mem_cons_of_mem _ hz), h.1, Bool.or_false]
    refine decide_eq_false fun e => hn y (List.mem_cons_self ..) ?_
    have : (y.1 : Int) = (j : Int) := Sum.inl.inj e
    omega
/-! ### how large -/
def BB : Nat := 1732641
theorem red_bits {wd : Nat} {done U : List (List Int)} {F : E94.Found} (h : E94.Red wd done U F) (hw : wd ≤ 169) (hd : ∀ r ∈ done, r.length = wd ∧ Bnd 173 r) (hF : F.length ≤ 56) : ∀ y ∈ F, Bnd BB y.2 := by
  intro y hy x hx
  have hb := h.bound (A := 2 ^ 173) (Nat.pow_pos (by decide)) (fun r hr => ⟨(hd r hr).1, fun b hb => Nat.le_of_lt ((hd r hr).2 b hb)⟩) y hy x hx
  have hU : U.length ≤ 56 := by rw [h.cnt]; exact hF
  have w0 : 0 < wd := Nat.lt_of_le_of_lt (Nat.zero_le _) (h.lt y hy)
  have e0 : 2 * wd * 2 ^ 173 ≤ 2 ^ 182 := by
    have : (2 : Nat) ^ 182 = 512 * 2 ^ 173 := by decide
    rw [this]
    exact Nat.mul_le_mul_right _ (by omega)
  have p0 : 0 < 2 * wd * 2 ^ 173 := Nat.mul_pos (by omega) (Nat.pow_pos (by decide))
  have e1 : (2 * wd * 2 ^ 173) ^ U.length ≤ 2 ^ (182 * 56) := by
    calc (2 * wd * 2 ^ 173) ^ U.length ≤ (2 ^ 182) ^ U.length := Nat.pow_le_pow_left e0 _
      _ ≤ (2 ^ 182) ^ 56 := Nat.pow_le_pow_right (Nat.pow_pos (by decide)) hU
      _ = 2 ^ (182 * 56) := by rw [← Nat.pow_mul]
  have e2 : ((2 * wd * 2 ^ 173) ^ U.length) ^ (wd + 1) ≤ 2 ^ (182 * 56 * 170) := by
    calc ((2 * wd * 2 ^ 173) ^ U.length) ^ (wd + 1) ≤ (2 ^ (182 * 56)) ^ (wd + 1) := Nat.pow_le_pow_left e1 _
      _ ≤ (2 ^ (182 * 56)) ^ 170 := Nat.pow_le_pow_right (Nat.pow_pos (by decide)) (by omega)
      _ = 2 ^ (182 * 56 * 170) := by rw [← Nat.pow_mul]
  have e3 : (2 : Nat) ^ (182 * 56 * 170) < 2 ^ BB := Nat.pow_lt_pow_right (by decide) (by decide)
  omega
theorem redStep_len (F : E94.Found) (row : List Int) : (E94.redStep F row).length ≤ F.length + 1 := by
  unfold E94.redStep
  split
  · omega
  · simp
theorem reduced_len : ∀ (rows : List (List Int)) (F : E94.Found), (rows.foldl E94.redStep F).length ≤ F.length + rows.length
  | [], F => by simp
  | r :: rows, F => by
    have := reduced_len rows (E94.redStep F r)
    have h2 := redStep_len F r
    rw [List.foldl_cons, List.length_cons]
    omega
theorem reduced_take {rows : List (List Int)} {i : Nat} {r : List Int} (h : rows[i]? = some r) : E94.reduced (rows.take (i + 1)) = E94.redStep (E94.reduced (rows.take i)) r := by
  unfold E94.reduced
  rw [take_more h, List.foldl_append]
  rfl
/-- the rest behind some of the rows found -/
def restAt (F : E94.Found) (row : List Int) (m : Nat) : List Int := (F.take m).foldl (fun r y => E94.withZero y.1 r y.2) (E94.cleared row)
theorem restAt_more {F : E94.Found} {row : List Int} {m : Nat} {y : Nat × List Int} (h : F[m]? = some y) : restAt F row (m + 1) = E94.withZero y.1 (restAt F row m) y.2 := by
  unfold restAt
  rw [take_more h, List.foldl_append]
  rfl
theorem restAt_all (F : E94.Found) (row : List Int) : restAt F row F.length = E94.restOf F row := by
  unfold restAt E94.restOf
  rw [List.take_length]
theorem restAt_len {wd : Nat} {F : E94.Found} {row : List Int} (hr : row.length = wd) (hF : ∀ y ∈ F, y.2.length = wd) : ∀ m, m ≤ F.length → (restAt F row m).length = wd
  | 0, _ => by
    show (E94.cleared row).length = wd
    rw [E94.cleared_len, hr]
  | m + 1, hm => by
    have h := List.getElem?_eq_getElem (show m < F.length by omega)
    rw [restAt_more h, E94.withZero_len, restAt_len hr hF m (by omega)]
    rw [restAt_len hr hF m (by omega), hF _ (List.getElem_mem ..)]
theorem restAt_bits {F : E94.Found} {row : List Int} (hr : Bnd 173 row) (hF : ∀ y ∈ F, Bnd BB y.2) : ∀ m, m ≤ F.length → Bnd (173 + m * (BB + 1)) (restAt F row m)
  | 0, _ => by
    have := hr.cleared
    simpa [restAt] using this
  | m + 1, hm => by
    have h := List.getElem?_eq_getElem (show m < F.length by omega)
    rw [restAt_more h]
    have := (restAt_bits hr hF m (by omega)).withZero (hF (F[m]'(by omega)) (List.getElem_mem ..)) (F[m]'(by omega)).1
    have e : 173 + (m + 1) * (BB + 1) = 173 + m * (BB + 1) + BB + 1 := by rw [Nat.succ_mul]; omega
    rw [e]
    exact this
end
end E94H
set_option Elab.async false
set_option linter.all false
set_option maxRecDepth 100000
set_option maxHeartbeats 2000000
namespace E94H
open PySem PySem.Spec PyProof.Rows L2
section
variable {P : Program} {w : World} {K : PySem.W.Frag} {mg : Str → Option Value} {base : Heap}
/-! ### reduced -/
theorem sc_reduced : FnScope ["rows", "found", "row", "rest", "place", "other", "first", "longer"] ["rows"] (defScope s_reduced) := ⟨rfl, rfl, rfl, by decide +kernel, rfl, by decide +kernel, by decide +kernel⟩
structure RowsOk (wd : Nat) (rows : List (List Int)) : Prop where
  few : rows.length ≤ 56 ∨ wd ≤ 56
  pos : 0 < wd
  wide : wd ≤ 169
  all : ∀ r ∈ rows, r.length = wd ∧ Bnd 173 r
theorem RowsOk.found {wd : Nat} {rows : List (List Int)} (h : RowsOk wd rows) (i : Nat) : (E94.reduced (rows.take i)).length ≤ 56 := by
  rcases h.few with h3 | h3
  · have h1 := reduced_len (rows.take i) []
    have h2 : (rows.take i).length ≤ rows.length := by rw [List.length_take]; exact Nat.min_le_right _ _
    show ((rows.take i).foldl E94.redStep []).length ≤ 56
    simp at h1
    omega
  · obtain ⟨U, RD⟩ := E94.red_all (w := wd) (rows := rows.take i) fun r hr' => (h.all r (List.mem_of_mem_take hr')).1
    have h4 : ((E94.reduced (rows.take i)).map (·.1)).length ≤ (List.range wd).length := E94.nodup_len RD.keys_nodup fun j hj => by
      obtain ⟨y, hy, rfl⟩ := List.mem_map.mp hj
      exact List.mem_range.mpr (RD.lt y hy)
    rw [List.length_map, List.length_range] at h4
    omega
theorem RowsOk.found_all {wd : Nat} {rows : List (List Int)} (h : RowsOk wd rows) : (E94.reduced rows).length ≤ 56 := by
  have := h.found rows.length
  rw [List.take_length] at this
  exact this
def sp_reduced (K : PySem.W.Frag) : Sp := fun vs H Q _ => ∃ (v : V) (rows : List (List Int)) (wd : Nat), vs = [v] ∧ Dp K H v (dRows rows) ∧ RowsOk wd rows ∧
  ∀ H' d kvs, Same H H' → H d = none → H' d = some (.dK kvs) → FAt K H' kvs (E94.reduced rows) → Q (.ref d) H'
theorem same_of_two {H H' : Hp} {d : Addr} {o : HO} (hd : H d = some o) (h : ∀ b x, H b = some x → b ≠ d → H' b = some x) : Same H (upd H' d o) := fun b x e => by
  by_cases q : b = d
  · subst q
    rw [upd_same, ← hd, e]
  · rw [upd_ne q]
    exact h b x e q
def newF (F : E94.Found) (fp : Nat) (R : List Int) (m : Nat) : E94.Found := (fp, R) :: (F.take m).map fun y => (y.1, E94.withZero fp y.2 R)
theorem ok_reduced {f fW fP fC fG : Addr} {fd fdW fdP fdC fdG : FuncData} {k : Nat} (hk : 32 ≤ k) (hS : base.NoSeer) (hT : P.given.tree = none) (F : Fun K "reduced" "reduced" s_reduced f fd)
    (FW : Fun K "with_zero_at" "with_zero_at" s_with_zero_at fW fdW) (bW : Binds K fdW ["place", "row", "other"] []) (gW : mg "with_zero_at" = some (.ref fW))
    (FP : Fun K "first_place" "first_place" s_first_place fP fdP) (bP : Binds K fdP ["row"] []) (gP : mg "first_place" = some (.ref fP))
    (FC : Fun K "cleared" "cleared" s_cleared fC fdC) (bC : Binds K fdC ["row"] []) (gC : mg "cleared" = some (.ref fC)) (FG : Fun K "common_divisor" "common_divisor" s_common_divisor fG fdG) (bG : Binds K fdG ["one", "other"] []) (gG : mg "common_divisor" = some (.ref fG))
    (mabs : mg "abs" = none) (mzip : mg "zip" = none) (menum : mg "enumerate" = none) :
    FnOk P w K mg base CX0 (k + 3) f fd ["rows"] (sp_reduced K) := by
  have GW : FnOk P w K mg base CX0 (k + 2) fW fdW ["place", "row", "other"] (sp_with_zero_at K) := ok_with_zero_at hk hS hT FW FC bC gC FG bG gG mabs mzip
  have GC : FnOk P w K mg base CX0 (k + 1) fC fdC ["row"] (sp_cleared K) := ok_cleared hk hS hT FC FG bG gG mabs
  have GP : FnOk P w K mg base CX0 (k + 1) fP fdP ["row"] (sp_first_place K) := ok_first_place FP menum
  refine F.ok sc_reduced (fun vs H Q E h => ?_) (fun cdv A outer s H vs Q E hr h => ?_)
  · obtain ⟨v, rows, wd, rfl, _⟩ := h
    rfl
  · obtain ⟨v, rows, wd, rfl, hD, hR, q⟩ := h
    have hr1 : Room (k + 1) _ := hr.mono (by omega)
    have hu := hu_of hr
    cases hD with
    | @lst aR xs _ hA hAll =>
    refine ⟨_, pss_cons (ps_set (i := 1) sc_reduced.nd rfl (.inl rfl) pe_dnewK)
      (pss_cons (ps_for PassesOwn.never rfl (pi_list (pv 0)) (pg_name (i := 2) sc_reduced.nd rfl (.inl rfl))
        (pss_cons (ps_set (i := 3) sc_reduced.nd rfl (.inl rfl) (pe_call GC hr1 (by rfl) gC FC.kp bC .nil pass0 (pa_cons (pv 2) pa_nil)))
        (pss_cons (ps_lock (ps_for PassesOwn.never rfl (pi_items (pv 1)) (pg_tup rfl (pgs_cons (pg_name (i := 4) sc_reduced.nd rfl (.inl rfl)) (pgs_cons (pg_name (i := 5) sc_reduced.nd rfl (.inl rfl)) pgs_nil)))
          (pss_one (ps_set (i := 3) sc_reduced.nd rfl (.inl rfl) (pe_call GW hr (by rfl) gW FW.kp bW .nil pass0 (pa_cons (pv 4) (pa_cons (pv 3) (pa_cons (pv 5) pa_nil))))))))
        (pss_cons (ps_set (i := 6) sc_reduced.nd rfl (.inl rfl) (pe_call GP hr1 (by rfl) gP FP.kp bP .nil pass0 (pa_cons (pv 3) pa_nil)))
        (pss_one (ps_if (pt_cmpR op_ge (pv 6) pe_int (nomark _))
          (pss_cons (ps_set (i := 7) sc_reduced.nd rfl (.inl rfl) (pe_disp (pps_cons (pv 6) (pv 3) pps_nil) (by rfl) (by rfl) (fun z => by cases z) (by decide)))
          (pss_cons (ps_lock (ps_for PassesOwn.never rfl (pi_items (pv 1)) (pg_tup rfl (pgs_cons (pg_name (i := 4) sc_reduced.nd rfl (.inl rfl)) (pgs_cons (pg_name (i := 5) sc_reduced.nd rfl (.inl rfl)) pgs_nil)))
            (pss_one (ps_dput hu (pv 7) (pv 4) (pe_call GW hr (by rfl) gW FW.kp bW .nil pass0 (pa_cons (pv 6) (pa_cons (pv 5) (pa_cons (pv 3) pa_nil)))) rfl))))
          (pss_one (ps_set (i := 1) sc_reduced.nd rfl (.inl rfl) (pv 7))))) pss_nil))))))
      (pss_one (ps_ret (pv 1)))), ?_⟩
    -- found = {}
    intro d0 nd0
    -- the rows one by one
    refine ⟨_, rfl, aR, rfl, ⟨_, (same_upd nd0).seq hA⟩, for_list (K := K) (a := aR) (xs := xs) (fun i σ H2 => Same H H2 ∧ ∃ d kvs y2 y3 y4 y5 y6 y7, σ = [some (.ref aR), some (.ref d), y2, y3, y4, y5, y6, y7] ∧ H d = none ∧ H2 d = some (.dK kvs) ∧ FAt K H2 kvs (E94.reduced (rows.take i))) ⟨same_upd nd0, d0, [], none, none, none, none, none, none, rfl, nd0, upd_same, trivial⟩ (fun i σ H2 _ h => h.1.seq hA) ?_ ?_⟩
    · rintro i x σ H2 hx ⟨sm, d, kvs, y2, y3, y4, y5, y6, y7, rfl, hHd, hd, hF⟩
      obtain ⟨row, hrow, hdp⟩ := dpAll_get hAll hx
      obtain ⟨ar, rfl, hSr⟩ := dp_row hdp
      have hrm : row ∈ rows := List.mem_of_getElem? hrow
      have hrw := hR.all row hrm
      have hrt := reduced_take hrow
      -- what is known of the rows found
      obtain ⟨U, RD⟩ := E94.red_all (w := wd) (rows := rows.take i) fun r hr' => (hR.all r (List.mem_of_mem_take hr')).1
      have hFl : (E94.reduced (rows.take i)).length ≤ 56 := hR.found i
      have hFb := red_bits RD hR.wide (fun r hr' => hR.all r (List.mem_of_mem_take hr')) hFl
      generalize hFF : E94.reduced (rows.take i) = FF at RD hFl hFb hF hrt
      have hwl : wd < sizeLine := Nat.lt_of_le_of_lt hR.wide (by decide)
      -- rest = cleared(row)
      refine ⟨_, rfl, ar, row, rfl, sm.seq hSr, by rw [hrw.1]; exact hwl, fun H3 p3 sm3 hp3 => ?_⟩
      have hd3 : H3 d = some (.dK kvs) := sm3 _ _ hd
      have hF3 : FAt K H3 kvs FF := hF.mono fun a xs h => sm3.seq h
      -- the first walk over found
      refine ⟨d, .dK kvs, hd3, trivial, fun od => ?_⟩
      have toL : ∀ a xs, SqL K H3 a xs → SqL K (upd H3 d (.frz od (.dK kvs))) a xs := fun a xs h => sq_upd h hd3 (fun _ z => nomatch z) (fun _ _ z => nomatch z)
      refine ⟨_, rfl, d, od, kvs, rfl, upd_same, for_it (walk_items (kvs := kvs)) (fun m σ2 H4 => Same (upd H3 d (.frz od (.dK kvs))) H4 ∧ ∃ p z4 z5, σ2 = [some (.ref aR), some (.ref d), some (.ref ar), some (.ref p), z4, z5, y6, y7] ∧ SqL K H4 p ((restAt FF row m).map V.int)) ⟨Same.refl _, p3, y4, y5, rfl, toL _ _ hp3⟩ (fun m σ2 H4 _ h => h.1 _ _ upd_same) ?_ ?_⟩
      · rintro m vv σ2 H4 H5 hm ⟨sm4, p, z4, z5, rfl, hp⟩ ⟨T, t1, t2, rfl, nT, rfl, g1, g2⟩
        obtain ⟨kv, hkv⟩ : ∃ kv, kvs[m]? = some kv := ⟨_, List.getElem?_eq_getElem hm⟩
        dsimp only at g1 g2
        rw [hkv] at g1 g2
        have e1 : t1 = kV kv.1 := (Option.some.inj g1).symm
        have e2 : t2 = kv.2 := (Option.some.inj g2).symm
        subst e1 e2
        obtain ⟨y, ay, hy, ek, ev, hSy⟩ := hF3.get (k := kv.1) (v := kv.2) hkv
        have hyF : y ∈ FF := List.mem_of_getElem? hy
        have hmF : m < FF.length := by
          rcases Nat.lt_or_ge m FF.length with h | h
          · exact h
          · rw [List.getElem?_eq_none h] at hy; cases hy
        have smT := same_upd (o := .tup [kV kv.1, kv.2]) nT
        refine ⟨T, _, rfl, .inl (.inl upd_same), rfl, _, _, rfl, _, _, rfl, rfl, ?_⟩
        have lr := restAt_len (F := FF) hrw.1 RD.len m (by omega)
        refine ⟨_, rfl, _, rfl, _, rfl, p, ay, y.1, restAt FF row m, y.2, _, _, ?_, smT.seq hp, smT.seq (sm4.seq (toL _ _ hSy)), by rw [lr, RD.len y hyF], by rw [lr]; exact RD.lt y hyF, by rw [lr]; exact hwl, restAt_bits hrw.2 hFb m (by omega), hFb y hyF, ?_, fun H6 p6 sm6 hp6 => ?_⟩
        · rw [ek, ev]; rfl
        · have : m * (BB + 1) ≤ 56 * (BB + 1) := Nat.mul_le_mul_right _ (by omega)
          have : 56 * (BB + 1) + BB + 173 < 133000000 := by decide
          omega
        · refine ⟨sm4.trans (smT.trans sm6), p6, _, _, rfl, ?_⟩
          rw [restAt_more hy]
          exact hp6
      · rintro σ2 H4 ⟨sm4, p, z4, z5, rfl, hp⟩
        rw [hF3.len, restAt_all] at hp
        have hd4 : H4 d = some (.frz od (.dK kvs)) := sm4 _ _ upd_same
        refine ⟨hd4, ?_⟩
        -- unlocked
        have sm34 : Same H3 (upd H4 d (.dK kvs)) := same_of_two hd3 fun b o e ne => sm4 b o (by rw [upd_ne ne]; exact e)
        have hp' : SqL K (upd H4 d (.dK kvs)) p ((E94.restOf FF row).map V.int) := sq_upd hp hd4 (fun _ z => nomatch z) (fun _ _ z => nomatch z)
        generalize hH7 : upd H4 d (.dK kvs) = H7 at sm34 hp'
        have hd7 : H7 d = some (.dK kvs) := sm34 _ _ hd3
        have sm07 : Same H H7 := (sm.trans sm3).trans sm34
        have hF7 : FAt K H7 kvs FF := hF3.mono fun a xs h => sm34.seq h
        -- first = first_place(rest)
        refine ⟨_, rfl, p, E94.restOf FF row, rfl, hp', fun H8 sm8 => ?_⟩
        refine ⟨_, rfl, _, _, rfl, rfl, _, rfl, ite2 (fun e => ?_) (fun e => ?_)⟩
        · have e' : (0 : Int) ≤ placeI (E94.firstPlace (E94.restOf FF row)) := of_decide_eq_true e
          obtain ⟨fp, hfp⟩ : ∃ fp, E94.firstPlace (E94.restOf FF row) = some fp := by
            cases h : E94.firstPlace (E94.restOf FF row) with
            | none => rw [h] at e'; exact absurd e' (by decide)
            | some fp => exact ⟨fp, rfl⟩
          rw [hfp]
          have rl : (E94.restOf FF row).length = wd := by rw [← restAt_all]; exact restAt_len hrw.1 RD.len _ (Nat.le_refl _)
          have rb : Bnd (173 + FF.length * (BB + 1)) (E94.restOf FF row) := by rw [← restAt_all]; exact restAt_bits hrw.2 hFb _ (Nat.le_refl _)
          have fps := E94.firstPlace_some hfp
          -- the new place is none of the old
          have rz := E94.rest_fold (F := FF) (r := E94.cleared row) ⟨RD.len, RD.piv, RD.off⟩ (by rw [E94.cleared_len, hrw.1]) (E94.cleared_prim row)
          dsimp only at rz
          have fnew : ∀ y ∈ FF, y.1 ≠ fp := fun y hy z => fps.2.1 (by rw [← z]; exact rz.2.2.1 y hy)
          have hd8 : H8 d = some (.dK kvs) := sm8 _ _ hd7
          have hF8 : FAt K H8 kvs FF := hF7.mono fun a xs h => sm8.seq h
          have hp8 := sm8.seq hp'
          have sm08 : Same H H8 := sm07.trans sm8
          -- longer = {first: rest}
          intro g ng
          have gd : d ≠ g := ne_of_none hd8 ng
          refine ⟨_, rfl, _, rfl, upd_same, [(Sum.inl (fp : Int), .ref p)], rfl, (by show 1 ≤ 15; decide), ?_⟩
          have em : mergeK [] [((Sum.inl (fp : Int) : Key), V.ref p)] = [(Sum.inl (fp : Int), .ref p)] := rfl
          rw [em, upd_upd]
          have hg9 : (upd H8 g (.dK [(Sum.inl (fp : Int), .ref p)])) d = some (.dK kvs) := by rw [upd_ne gd]; exact hd8
          -- the second walk
          refine ⟨d, .dK kvs, hg9, trivial, fun od2 => ?_⟩
          have toG : ∀ a xs, SqL K H8 a xs → SqL K (upd (upd H8 g (.dK [(Sum.inl (fp : Int), .ref p)])) d (.frz od2 (.dK kvs))) a xs := fun a xs h => sq_upd ((same_upd ng).seq h) hg9 (fun _ z => nomatch z) (fun _ _ z => nomatch z)
          refine ⟨_, rfl, d, od2, kvs, rfl, upd_same, for_it (walk_items (kvs := kvs)) (fun m σ3 H10 => (∀ b o, (upd (upd H8 g (.dK [(Sum.inl (fp : Int), .ref p)])) d (.frz od2 (.dK kvs))) b = some o → b ≠ g → H10 b = some o) ∧ ∃ kv2 z4 z5, σ3 = [some (.ref aR), some (.ref d), some (.ref ar), some (.ref p), z4, z5, some (.int (fp : Int)), some (.ref g)] ∧ H10 g = some (.dK kv2) ∧ FAt K H10 kv2 (newF FF fp (E94.restOf FF row) m)) ⟨fun b o e _ => e, [(Sum.inl (fp : Int), .ref p)], _, _, rfl, by rw [upd_ne gd.symm, upd_same], rfl, ⟨p, rfl, toG _ _ hp8⟩, trivial⟩ (fun m σ3 H10 _ h => h.1 _ _ upd_same gd) ?_ ?_⟩
          · rintro m vv σ3 H10 H11 hm ⟨kp, kv2, z4, z5, rfl, hg, hFg⟩ ⟨T, t1, t2, rfl, nT, rfl, g1, g2⟩
            obtain ⟨kv, hkv⟩ : ∃ kv, kvs[m]? = some kv := ⟨_, List.getElem?_eq_getElem hm⟩
            dsimp only at g1 g2
            rw [hkv] at g1 g2
            have e1 : t1 = kV kv.1 := (Option.some.inj g1).symm
            have e2 : t2 = kv.2 := (Option.some.inj g2).symm
            subst e1 e2
            obtain ⟨y, ay, hy, ek, ev, hSy⟩ := hF8.get (k := kv.1) (v := kv.2) hkv
            have hyF : y ∈ FF := List.mem_of_getElem? hy
            have gT : g ≠ T := ne_of_none hg nT
            have smT := same_upd (o := .tup [kV kv.1, kv.2]) nT
            have inL : ∀ a xs, SqL K H8 a xs → SqL K (upd H10 T (.tup [kV kv.1, kv.2])) a xs := fun a xs h => by
              refine smT.seq ?_
              rcases h with (h | ⟨o2, h⟩) | h
              · refine .inl (.inl (kp a _ ?_ ?_))
                · rw [upd_ne (ne_of h hd8 (fun z => nomatch z)), upd_ne (ne_of_none h ng)]
                  exact h
                · exact ne_of_none h ng
              · refine .inl (.inr ⟨o2, kp a _ ?_ ?_⟩)
                · rw [upd_ne (ne_of h hd8 (fun z => nomatch z)), upd_ne (ne_of_none h ng)]
                  exact h
                · exact ne_of_none h ng
              · exact .inr h
            refine ⟨T, _, rfl, .inl (.inl upd_same), rfl, _, _, rfl, _, _, rfl, rfl, ?_⟩
            refine ⟨_, rfl, _, rfl, _, rfl, ay, p, fp, y.2, E94.restOf FF row, _, _, ?_, inL _ _ hSy, inL _ _ hp8, by rw [rl, RD.len y hyF], by rw [RD.len y hyF, ← rl]; exact fps.1, by rw [RD.len y hyF]; exact hwl, hFb y hyF, rb, ?_, fun H12 p12 sm12 hp12 => ?_⟩
            · rw [ev]; rfl
            · have : FF.length * (BB + 1) ≤ 56 * (BB + 1) := Nat.mul_le_mul_right _ hFl
              have : 56 * (BB + 1) + BB + 173 < 133000000 := by decide
              omega
            · have hg12 : H12 g = some (.dK kv2) := sm12 _ _ (smT _ _ hg)
              have hFg12 := hFg.mono (H' := H12) fun a xs h => sm12.seq (smT.seq h)
              have nk : (kv2.any fun kv => decide (kv.1 = Sum.inl (y.1 : Int))) = false := by
                refine hFg12.noKey fun z hz => ?_
                rcases List.mem_cons.mp hz with rfl | hz
                · exact fun q => fnew y hyF q.symm
                · obtain ⟨u, hu, rfl⟩ := List.mem_map.mp hz
                  intro q
                  obtain ⟨j, hj, ej⟩ := List.mem_iff_getElem.mp hu
                  rw [List.length_take] at hj
                  rw [List.getElem_take] at ej
                  have kn := RD.keys_nodup
                  have e1 : (FF.map (·.1))[j]? = some y.1 := by
                    rw [List.getElem?_map, List.getElem?_eq_getElem (by omega), ej]
                    show some u.1 = some y.1
                    rw [show u.1 = y.1 from q]
                  have e2 : (FF.map (·.1))[m]? = some y.1 := by rw [List.getElem?_map, hy]; rfl
                  have := nd_ix kn e1 e2
                  omega
              have ep : putK kv2 (Sum.inl (y.1 : Int)) (.ref p12) = kv2 ++ [(Sum.inl (y.1 : Int), .ref p12)] := by
                unfold putK
                rw [nk]
                rfl
              have l2 : kv2.length < sizeLine := by
                rw [hFg12.len]
                show ((FF.take m).map _).length + 1 < sizeLine
                rw [List.length_map, List.length_take]
                have : min m FF.length ≤ FF.length := Nat.min_le_right _ _
                exact Nat.lt_of_le_of_lt (show min m FF.length + 1 ≤ 57 by omega) (by decide)
              refine ⟨_, rfl, _, rfl, g, upd H12 g (.dK (putK kv2 kv.1 (.ref p12))), rfl, ?_, ?_⟩
              · have := DPut.k (k := (Sum.inl (y.1 : Int) : Key)) (v := .ref p12) hg12 l2
                rw [← ek] at this
                exact this
              · rw [ek, ep]
                have up12 : ∀ a xs, SqL K H12 a xs → SqL K (upd H12 g (.dK (kv2 ++ [(Sum.inl (y.1 : Int), .ref p12)]))) a xs := fun a xs h => sq_upd h hg12 (fun _ z => nomatch z) (fun _ _ z => nomatch z)
                refine ⟨fun b o eb nb => ?_, _, _, _, rfl, upd_same, ?_⟩
                · rw [upd_ne nb]
                  exact sm12 _ _ (smT _ _ (kp b o eb nb))
                · show FAt K _ _ ((fp, E94.restOf FF row) :: (FF.take (m + 1)).map fun y => (y.1, E94.withZero fp y.2 (E94.restOf FF row)))
                  rw [take_more hy, List.map_append]
                  have := (hFg12.mono up12).snoc (y := (y.1, E94.withZero fp y.2 (E94.restOf FF row))) (a := p12) (up12 _ _ hp12)
                  exact this
          · rintro σ3 H10 ⟨kp, kv2, z4, z5, rfl, hg, hFg⟩
            have hd10 : H10 d = some (.frz od2 (.dK kvs)) := kp _ _ upd_same gd
            unfold newF at hFg
            rw [hF8.len, List.take_length] at hFg
            refine ⟨hd10, ?_⟩
            have hgd : (upd H10 d (.dK kvs)) g = some (.dK kv2) := by rw [upd_ne gd.symm]; exact hg
            refine ⟨_, rfl, fun b o e0 => ?_, g, kv2, _, _, _, _, _, _, rfl, sm08.free ng, hgd, ?_⟩
            · have bd : b ≠ d := ne_of_none e0 hHd
              have bg : b ≠ g := fun z => by
                subst z
                rw [sm08.free ng] at e0
                cases e0
              rw [upd_ne bd]
              refine kp b o ?_ bg
              rw [upd_ne bd, upd_ne bg]
              exact sm08 _ _ e0
            · have : E94.reduced (rows.take (i + 1)) = (fp, E94.restOf FF row) :: FF.map fun y => (y.1, E94.withZero fp y.2 (E94.restOf FF row)) := by
                rw [hrt]
                unfold E94.redStep
                rw [hfp]
              rw [this]
              exact hFg.mono fun a xs h => sq_upd h hd10 (fun _ z => nomatch z) (fun _ _ z => nomatch z)
        · have e' : ¬ (0 : Int) ≤ placeI (E94.firstPlace (E94.restOf FF row)) := fun z => e (decide_eq_true z)
          have hfp : E94.firstPlace (E94.restOf FF row) = none := by
            cases h : E94.firstPlace (E94.restOf FF row) with
            | none => rfl
            | some fp => rw [h] at e'; exact absurd (Int.natCast_nonneg fp) e'
          refine ⟨sm07.trans sm8, d, kvs, _, _, _, _, _, _, rfl, hHd, sm8 _ _ hd7, ?_⟩
          have : E94.reduced (rows.take (i + 1)) = FF := by
            rw [hrt]
            unfold E94.redStep
            rw [hfp]
          rw [this]
          exact hF7.mono fun a xs h => sm8.seq h
    · rintro σ H2 ⟨sm, d, kvs, y2, y3, y4, y5, y6, y7, rfl, hHd, hd, hF⟩
      rw [dpAll_len hAll, List.length_map, List.take_length] at hF
      exact ⟨_, rfl, q H2 d kvs sm hHd hd hF⟩
end
end E94H
set_option Elab.async false
set_option linter.all false
set_option maxRecDepth 100000
set_option maxHeartbeats 2000000
namespace E94H
open PySem PySem.Spec PyProof.Rows L2
section
variable {P : Program} {w : World} {K : PySem.W.Frag} {mg : Str → Option Value} {base : Heap}
/-! ### products and polynomials in the heap -/
def ofN (c : List Nat) : List Int := c.map fun (n : Nat) => (n : Int)
def tupC (c : List Nat) : List Int := (c.sum : Int) :: ofN c
abbrev dTup (c : List Nat) : PyData := .tuple ((tupC c).map .int)
abbrev dTerm (t : E94.MT) : PyData := .tuple [dTup t.1, .int t.2.1, .int (t.2.2 : Nat)]
abbrev dPoly (q : E94.MP) : PyData := .list (q.map dTerm)
theorem ofN_len (c : List Nat) : (ofN c).length = c.length := List.length_map ..
theorem tupC_len (c : List Nat) : (tupC c).length = c.length + 1 := by
  show (ofN c).length + 1 = _
  rw [ofN_len]
theorem ofN_sum : ∀ c : List Nat, (ofN c).sum = (c.sum : Int)
  | [] => rfl
  | n :: c => by
    show ((n : Int) :: ofN c).sum = ((n :: c).sum : Nat)
    rw [List.sum_cons, List.sum_cons, ofN_sum c]
    omega
theorem dp_tup {H : Hp} {v : V} {c : List Nat} (h : Dp K H v (dTup c)) : ∃ a, v = .ref a ∧ SqT K H a ((tupC c).map V.int) := by
  cases h with
  | tup h1 h2 => rw [dp_ints h2] at h1; exact ⟨_, rfl, h1⟩
theorem tup_dp {H : Hp} {a : Addr} {c : List Nat} (h : SqT K H a ((tupC c).map V.int)) : Dp K H (.ref a) (dTup c) := .tup h (ints_dp _)
theorem dp_term {H : Hp} {v : V} {t : E94.MT} (h : Dp K H v (dTerm t)) : ∃ a b, v = .ref a ∧ SqT K H a [.ref b, .int t.2.1, .int (t.2.2 : Nat)] ∧ SqT K H b ((tupC t.1).map V.int) := by
  cases h with
  | tup h1 h2 =>
    cases h2 with
    | cons x1 y1 =>
      cases y1 with
      | cons x2 y2 =>
        cases y2 with
        | cons x3 y3 =>
          cases y3
          cases x2
          cases x3
          obtain ⟨b, rfl, hb⟩ := dp_tup x1
          exact ⟨_, b, rfl, h1, hb⟩
theorem term_dp {H : Hp} {a b : Addr} {t : E94.MT} (h : SqT K H a [.ref b, .int t.2.1, .int (t.2.2 : Nat)]) (hb : SqT K H b ((tupC t.1).map V.int)) : Dp K H (.ref a) (dTerm t) := .tup h (.cons (tup_dp hb) (.cons (.int _) (.cons (.int _) .nil)))
theorem dp_poly {H : Hp} {v : V} {q : E94.MP} (h : Dp K H v (dPoly q)) : ∃ a vs, v = .ref a ∧ SqL K H a vs ∧ DpAll K H vs (q.map dTerm) := by
  cases h with
  | lst h1 h2 => exact ⟨_, _, rfl, h1, h2⟩
/-! shapes -/
theorem lay_ints : ∀ ns : List Int, PyData.canLayAll0 (ns.map .int) = true
  | [] => by simp [PyData.canLayAll0]
  | n :: ns => by simp [PyData.canLayAll0, PyData.canLay0, lay_ints ns]
theorem depth_ints : ∀ ns : List Int, PyData.depthAll (ns.map .int) = 0
  | [] => by simp [PyData.depthAll]
  | n :: ns => by simp [PyData.depthAll, PyData.depth, depth_ints ns]
theorem lay_all {α : Type} {f : α → PyData} (h : ∀ x, PyData.canLay0 (f x) = true) : ∀ xs : List α, PyData.canLayAll0 (xs.map f) = true
  | [] => by simp [PyData.canLayAll0]
  | x :: xs => by simp [PyData.canLayAll0, h x, lay_all h xs]
theorem depth_all {α : Type} {f : α → PyData} {n : Nat} (h : ∀ x, PyData.depth (f x) ≤ n) : ∀ xs : List α, PyData.depthAll (xs.map f) ≤ n
  | [] => by simp [PyData.depthAll]
  | x :: xs => by
    have := depth_all h xs
    have h1 := h x
    simp only [List.map_cons, PyData.depthAll]
    omega
theorem lay_tup (c : List Nat) : PyData.canLay0 (dTup c) = true := by simp only [PyData.canLay0]; exact lay_ints _
theorem depth_tup (c : List Nat) : PyData.depth (dTup c) = 1 := by simp only [PyData.depth, depth_ints]
theorem lay_term (t : E94.MT) : PyData.canLay0 (dTerm t) = true := by simp [PyData.canLay0, PyData.canLayAll0, lay_ints]
theorem depth_term (t : E94.MT) : PyData.depth (dTerm t) ≤ 2 := by simp [PyData.depth, PyData.depthAll, depth_ints]
theorem shaped_poly (q : E94.MP) : SeqAt.shaped (dPoly q) = true := by
  unfold SeqAt.shaped
  rw [Bool.and_eq_true]
  refine ⟨?_, decide_eq_true ?_⟩
  · simp only [PyData.canLay0]
    exact lay_all lay_term q
  · simp only [PyData.depth]
    have := depth_all depth_term q
    omega
theorem shaped_nil : SeqAt.shaped (.list []) = true := by decide +kernel
theorem eqv_nil (ds : List PyData) : PyData.eqv (.list ds) (.list []) = decide (ds = []) := by
  cases ds with
  | nil => simp [PyData.eqv, PyData.eqvAll]
  | cons => simp [PyData.eqv, PyData.eqvAll]
/-! ### product_of -/
theorem sc_product_of : FnScope ["counts"] ["counts"] (defScope s_product_of) := ⟨rfl, rfl, rfl, by decide +kernel, rfl, by decide +kernel, by decide +kernel⟩
def sp_product_of (K : PySem.W.Frag) : Sp := fun vs H Q _ => ∃ (a : Addr) (c : List Nat), vs = [.ref a] ∧ SqL K H a ((ofN c).map V.int) ∧ 0 < c.length ∧ c.length ≤ 1000 ∧ ∀ H' p, Same H H' → H' p = some (.tup ((tupC c).map V.int)) → Q (.ref p) H'
theorem ok_product_of {f : Addr} {fd : FuncData} {k : Nat} (F : Fun K "product_of" "product_of" s_product_of f fd) (msum : mg "sum" = none) (mtup : mg "tuple" = none) : FnOk P w K mg base CX0 (k + 1) f fd ["counts"] (sp_product_of K) := by
  refine F.ok sc_product_of (fun vs H Q E h => ?_) (fun cdv A outer s H vs Q E hr h => ?_)
  · obtain ⟨a, c, rfl, _⟩ := h
    rfl
  · obtain ⟨a, c, rfl, hA, h0, h1, q⟩ := h
    refine ⟨_, pss_one (ps_ret (pe_op op_catT (pe_tup (pa_cons (pe_callB (cr_sum rfl) (by rfl) msum (by decide +kernel) (pa_cons (pv 0) pa_nil)) pa_nil)) (pe_callTy call_tuple_of (by rfl) mtup (by decide +kernel) (pa_cons (pv 0) pa_nil)))), ?_⟩
    refine ⟨_, rfl, a, ofN c, rfl, hA, by show 1 ≤ sizeLine; decide, fun t nt => ?_⟩
    have s1 := same_upd (o := .tup [V.int (ofN c).sum]) nt
    refine ⟨_, rfl, a, _, rfl, .inl ⟨s1.seq hA, fun l nl => ?_⟩⟩
    have s2 := same_upd (o := .tup ((ofN c).map V.int)) nl
    refine ⟨t, l, _, _, rfl, rfl, same_sqT s2 (SqT.of upd_same), SqT.of upd_same, (fun z => nomatch z), ?_, fun z => ?_, fun _ p np => ?_⟩
    · rw [List.length_map, ofN_len, sizeLine_eq]
      show 1 + c.length ≤ 16777216
      omega
    · exfalso
      have := congrArg List.length z
      rw [List.length_map, ofN_len] at this
      simp at this
      rw [this] at h0
      cases h0
    · refine q _ p ((s1.trans s2).trans (same_upd np)) ?_
      rw [upd_same, ofN_sum]
      rfl
/-! ### times -/
theorem walk_zipT {a b : Addr} {xs ys : List V} {n : Nat} (hn : n = min xs.length ys.length) : Walk (RZ.ItzT K a b) n (fun H => SqT K H a xs ∧ SqT K H b ys) (YPair (fun i => xs[i]?) (fun i => ys[i]?)) := by
  subst hn
  refine ⟨fun i _ hi q => ?_, fun _ q => ⟨xs, ys, q.1, q.2, by omega⟩, fun i H v H' _ q y => ?_⟩
  · exact ⟨xs, ys, xs[i]'(by omega), ys[i]'(by omega), q.1, q.2, List.getElem?_eq_getElem _, List.getElem?_eq_getElem _⟩
  · obtain ⟨T, x, z, h1, h2, h3, h4, h5⟩ := y
    exact ⟨T, x, z, h1, h2, h3, h4 xs q.1, h5 ys q.2⟩
theorem sc_times : FnScope ["one", "other", "first", "second"] ["one", "other"] (defScope s_times) := ⟨rfl, rfl, rfl, by decide +kernel, rfl, by decide +kernel, by decide +kernel⟩
def sp_times (K : PySem.W.Frag) : Sp := fun vs H Q _ => ∃ (a b : Addr) (c d : List Nat), vs = [.ref a, .ref b] ∧ SqT K H a ((tupC c).map V.int) ∧ SqT K H b ((tupC d).map V.int) ∧ c.length = d.length ∧ c.length ≤ 1000 ∧ ∀ H' p, Same H H' → H' p = some (.tup ((tupC (E94.addC c d)).map V.int)) → Q (.ref p) H'
theorem tupC_add {c d : List Nat} (h : c.length = d.length) : tupC (E94.addC c d) = ((tupC c).zip (tupC d)).map fun z => z.1 + z.2 := by
  have key : ∀ (c d : List Nat), c.length = d.length → ofN (E94.addC c d) = ((ofN c).zip (ofN d)).map fun z => z.1 + z.2 := by
    intro c
    induction c with
    | nil => intro d h; cases d with
      | nil => rfl
      | cons => cases h
    | cons i c ih =>
      intro d h
      cases d with
      | nil => cases h
      | cons j d =>
        show ((i + j : Nat) : Int) :: ofN (E94.addC c d) = ((i : Int) + (j : Int)) :: ((ofN c).zip (ofN d)).map fun z => z.1 + z.2
        rw [ih d (by simpa using h)]
        congr 1
  show ((E94.addC c d).sum : Int) :: ofN (E94.addC c d) = ((c.sum : Int) + (d.sum : Int)) :: ((ofN c).zip (ofN d)).map fun z => z.1 + z.2
  rw [key c d h, E94.addC_sum h]
  congr 1
theorem ok_times {f : Addr} {fd : FuncData} {k : Nat} (F : Fun K "times" "times" s_times f fd) (mzip : mg "zip" = none) (mtup : mg "tuple" = none) : FnOk P w K mg base CX0 (k + 1) f fd ["one", "other"] (sp_times K) := by
  refine F.ok sc_times (fun vs H Q E h => ?_) (fun cdv A outer s H vs Q E hr h => ?_)
  · obtain ⟨a, b, c, d, rfl, _⟩ := h
    rfl
  · obtain ⟨a, b, c, d, rfl, hA, hB, hl, hlen, q⟩ := h
    refine ⟨_, pss_one (ps_ret (pe_callTy call_tuple_of (by rfl) mtup (by decide +kernel) (pa_cons
      (pe_lc (own := [("first", 2), ("second", 3)]) (g := gTup K 2 (gCons (gName 2) (gCons (gName 3) gNil))) (tt := tYes) (by rfl) sc_times.nd (RZ.pi_zipA (by rfl) mzip (pa_cons (pv 0) (pa_cons (pv 1) pa_nil))) (blkOk_by (own := [("first", 2), ("second", 3)]) (N := ["one", "other", "first", "second"]) (sc := defScope s_times) (by decide +kernel))
        (fun _ _ _ _ _ => pg_tup rfl (pgs_cons (pg_name (i := 2) sc_times.nd rfl (.inl rfl)) (pgs_cons (pg_name (i := 3) sc_times.nd rfl (.inl rfl)) pgs_nil))) (fun _ _ _ _ _ => pts_nil)
        (fun _ _ _ _ _ => pe_op op_add (pv 2) (pv 3))) pa_nil))), ?_⟩
    have el : (tupC c).length = (tupC d).length := by rw [tupC_len, tupC_len, hl]
    have zl : (((tupC c).zip (tupC d)).map fun z => z.1 + z.2).length = c.length + 1 := by rw [List.length_map, List.length_zip, tupC_len, tupC_len, hl, Nat.min_self]
    refine ⟨_, rfl, _, rfl, a, b, _, _, rfl, .inr ⟨hA, hB, fun D hD => lc_it (walk_zipT (xs := (tupC c).map V.int) (ys := (tupC d).map V.int) (n := c.length + 1) (by rw [List.length_map, List.length_map, tupC_len, tupC_len, hl, Nat.min_self])) (fun i H2 => Same H H2 ∧ H2 D = some (.lst (((((tupC c).zip (tupC d)).map fun z => z.1 + z.2).take i).map V.int))) ⟨same_upd hD, upd_same⟩ (fun i H2 _ h => ⟨same_sqT h.1 hA, same_sqT h.1 hB⟩) ?_ ?_⟩⟩
    · rintro i v H2 H3 hi ⟨sm, hd⟩ ⟨T, x1, x2, rfl, nT, rfl, g1, g2⟩
      obtain ⟨z1, hz1, rfl⟩ := get_int g1
      obtain ⟨z2, hz2, rfl⟩ := get_int g2
      have TD : D ≠ T := ne_of_none hd nT
      have smT : Same H2 (upd H2 T (.tup [.int z1, .int z2])) := same_upd nT
      have hz : (((tupC c).zip (tupC d)).map fun z => z.1 + z.2)[i]? = some (z1 + z2) := by
        rw [List.getElem?_map, (List.getElem?_zip_eq_some (z := (z1, z2))).mpr ⟨hz1, hz2⟩]
        rfl
      refine ⟨T, _, rfl, .inl (.inl upd_same), rfl, _, _, rfl, _, _, rfl, rfl, rfl, ?_⟩
      refine ⟨_, rfl, _, rfl, _, _, rfl, rfl, _, by rw [upd_ne TD]; exact hd, ?_, fun b0 o0 e0 => ?_, ?_⟩
      · rw [List.length_map, List.length_take, zl]
        exact Nat.lt_of_le_of_lt (Nat.min_le_right _ _) (Nat.lt_of_le_of_lt (Nat.succ_le_succ hlen) (by decide))
      · have : b0 ≠ D := ne_of_none e0 hD
        rw [upd_ne this]
        exact smT _ _ (sm _ _ e0)
      · rw [upd_same, take_more hz, List.map_append]
        rfl
    · rintro H2 ⟨sm, hd⟩
      rw [List.take_of_length_le (by omega), ← tupC_add hl] at hd
      exact ⟨D, _, rfl, .inl ⟨SqL.of hd, fun l nl => q _ l (sm.trans (same_upd nl)) upd_same⟩⟩
/-! ### degree_of -/
theorem sc_degree_of : FnScope ["polynomial", "highest"] ["polynomial"] (defScope s_degree_of) := ⟨rfl, rfl, rfl, by decide +kernel, rfl, by decide +kernel, by decide +kernel⟩
def sp_degree_of (K : PySem.W.Frag) : Sp := fun vs H Q _ => ∃ (v : V) (p : E94.MP), vs = [v] ∧ Dp K H v (dPoly p) ∧ ∀ H', Same H H' → Q (.int (E94.degM p : Nat)) H'
theorem ok_degree_of {f : Addr} {fd : FuncData} {k : Nat} (F : Fun K "degree_of" "degree_of" s_degree_of f fd) : FnOk P w K mg base CX0 (k + 1) f fd ["polynomial"] (sp_degree_of K) := by
  refine F.ok sc_degree_of (fun vs H Q E h => ?_) (fun cdv A outer s H vs Q E hr h => ?_)
  · obtain ⟨v, p, rfl, _⟩ := h
    rfl
  · obtain ⟨v, p, rfl, hD, q⟩ := h
    refine ⟨_, pss_cons (ps_if (pt_cmpR (op_eqD hr.units) (pv 0) (pe_lst pa_nil) (nomark _)) (pss_one (ps_ret pe_int)) pss_nil)
      (pss_cons (ps_set (i := 1) sc_degree_of.nd rfl (.inl rfl) (pe_ix ix_tup (pe_ix ix_list (pv 0) pe_int (fun _ _ => rfl)) pe_int (fun _ _ => rfl)))
      (pss_one (ps_ret (pe_ix ix_tup (pv 1) pe_int (fun _ _ => rfl))))), ?_⟩
    refine ⟨_, rfl, Nat.zero_le _, fun l nl => ?_⟩
    have s1 := same_upd (o := .lst []) nl
    refine ⟨_, _, same_dp s1 _ _ hD, .lst (SqL.of upd_same) .nil, shaped_poly p, shaped_nil, _, rfl, ?_⟩
    rw [eqv_nil]
    cases p with
    | nil => exact iteT (q _ s1)
    | cons t p =>
      refine iteF ?_
      obtain ⟨a, vs, rfl, hL, hAll⟩ := dp_poly (same_dp s1 _ _ hD)
      cases hAll with
      | cons h1 h2 =>
        obtain ⟨b, c, rfl, hT, hC⟩ := dp_term h1
        refine ⟨_, rfl, a, _, 0, _, rfl, rfl, hL, atI_nat (j := 0) rfl, b, _, 0, _, rfl, rfl, hT, atI_nat (j := 0) rfl, ?_⟩
        exact ⟨_, rfl, c, _, 0, _, rfl, rfl, hC, atI_nat (j := 0) rfl, q _ s1⟩
end
end E94H
set_option Elab.async false
set_option linter.all false
set_option maxRecDepth 100000
set_option maxHeartbeats 2000000
namespace E94H
open PySem PySem.Spec PyProof.Rows L2
section
variable {P : Program} {w : World} {K : PySem.W.Frag} {mg : Str → Option Value} {base : Heap}
/-! ### products_within -/
/-- lists that may be read and joined -/
def Trk (H : Hp) : List V → List (List Nat) → Prop
  | [], [] => True
  | v :: vs, c :: cs => (∃ r, v = .ref r ∧ H r = some (.lst ((ofN c).map V.int))) ∧ Trk H vs cs
  | _, _ => False
theorem Trk.len {H : Hp} : ∀ {vs : List V} {cs : List (List Nat)}, Trk H vs cs → vs.length = cs.length
  | [], [], _ => rfl
  | [], _ :: _, h => h.elim
  | _ :: _, [], h => h.elim
  | v :: vs, c :: cs, h => by rw [List.length_cons, List.length_cons, Trk.len h.2]
theorem Trk.get {H : Hp} : ∀ {vs : List V} {cs : List (List Nat)} {i : Nat} {v : V}, Trk H vs cs → vs[i]? = some v → ∃ r c, cs[i]? = some c ∧ v = .ref r ∧ H r = some (.lst ((ofN c).map V.int))
  | [], [], _, _, _, h => by cases h
  | [], _ :: _, _, _, h, _ => h.elim
  | _ :: _, [], _, _, h, _ => h.elim
  | x :: vs, c :: cs, i, v, h, e => by
    obtain ⟨⟨r, h1, h2⟩, h3⟩ := h
    cases i with
    | zero =>
      have e := Option.some.inj e
      rw [← e]
      exact ⟨r, c, rfl, h1, h2⟩
    | succ i => exact Trk.get (cs := cs) h3 (show vs[i]? = some v from e)
theorem Trk.mono {H H' : Hp} (hs : Same H H') : ∀ {vs : List V} {cs : List (List Nat)}, Trk H vs cs → Trk H' vs cs
  | [], [], _ => trivial
  | [], _ :: _, h => h.elim
  | _ :: _, [], h => h.elim
  | v :: vs, c :: cs, h => ⟨let ⟨r, h1, h2⟩ := h.1; ⟨r, h1, hs _ _ h2⟩, Trk.mono hs h.2⟩
theorem Trk.snoc {H : Hp} : ∀ {vs : List V} {cs : List (List Nat)} {r : Addr} {c : List Nat}, Trk H vs cs → H r = some (.lst ((ofN c).map V.int)) → Trk H (vs ++ [.ref r]) (cs ++ [c])
  | [], [], r, c, _, h => ⟨⟨r, rfl, h⟩, trivial⟩
  | [], _ :: _, _, _, h, _ => h.elim
  | _ :: _, [], _, _, h, _ => h.elim
  | v :: vs, d :: cs, r, c, h, h2 => ⟨h.1, Trk.snoc h.2 h2⟩
/-- the part of the longer ones that is made of the first i, and o of the next -/
def longOf (d : Int) (cs : List (List Nat)) : List (List Nat) := cs.flatMap fun c => (List.range (d - (c.sum : Int) + 1).toNat).map fun o => c ++ [o]
theorem cnts_long (d : Int) (k : Nat) : E94.cnts d (k + 1) = longOf d (E94.cnts d k) := rfl
theorem longOf_len {d : Int} (hd : d ≤ 5) (cs : List (List Nat)) : (longOf d cs).length ≤ 6 * cs.length := by
  unfold longOf
  induction cs with
  | nil => simp
  | cons c cs ih =>
    rw [List.flatMap_cons, List.length_append, List.length_map, List.length_range, List.length_cons]
    have : (d - (c.sum : Int) + 1).toNat ≤ 6 := by omega
    omega
theorem longOf_snoc (d : Int) (cs : List (List Nat)) (c : List Nat) : longOf d (cs ++ [c]) = longOf d cs ++ (List.range (d - (c.sum : Int) + 1).toNat).map fun o => c ++ [o] := by
  unfold longOf
  rw [List.flatMap_append]
  simp
theorem cnts_small {d : Int} (hd : d ≤ 5) : ∀ k, (E94.cnts d k).length ≤ 6 ^ k
  | 0 => by simp [E94.cnts]
  | k + 1 => by
    rw [cnts_long]
    have := longOf_len hd (E94.cnts d k)
    have ih := cnts_small hd k
    rw [Nat.pow_succ]
    omega
theorem cnts_64 {d : Int} (hd : d ≤ 5) {k : Nat} (h1 : 1 ≤ k) (h3 : k ≤ 3) : (E94.cnts d k).length < 64 := by
  by_cases h0 : d < 0
  · have : E94.cnts d k = [] := by
      obtain ⟨j, rfl⟩ : ∃ j, k = j + 1 := ⟨k - 1, by omega⟩
      refine List.eq_nil_iff_forall_not_mem.mpr fun c hc => ?_
      have := (E94.cnts_mem.mp hc).2
      omega
    rw [this]
    decide
  · have hd' : d = 0 ∨ d = 1 ∨ d = 2 ∨ d = 3 ∨ d = 4 ∨ d = 5 := by omega
    have hk' : k = 1 ∨ k = 2 ∨ k = 3 := by omega
    rcases hd' with rfl | rfl | rfl | rfl | rfl | rfl <;> rcases hk' with rfl | rfl | rfl <;> decide +kernel
theorem ofN_snoc (c : List Nat) (o : Nat) : ofN (c ++ [o]) = ofN c ++ [(o : Int)] := by
  unfold ofN
  rw [List.map_append]
  rfl
/-! the order by codes -/
theorem code_lex {B : Int} : ∀ {a b : List Nat}, a.length = b.length → TS.Bd B (ofN a) → TS.Bd B (ofN b) → E94.lexGt a b = true → TS.code B (ofN b) < TS.code B (ofN a)
  | [], _, _, _, _, h => by simp [E94.lexGt] at h
  | _ :: _, [], hl, _, _, _ => by cases hl
  | i :: a, j :: b, hl, ha, hb, h => by
    have hl' : (ofN b).length = (ofN a).length := by rw [ofN_len, ofN_len]; simpa using hl.symm
    unfold E94.lexGt at h
    split at h
    · rename_i e
      subst e
      show TS.code B ((i : Int) :: ofN b) < TS.code B ((i : Int) :: ofN a)
      rw [TS.code_same hl']
      exact code_lex (by simpa using hl) (TS.Bd.tail ha) (TS.Bd.tail hb) h
    · have : j < i := of_decide_eq_true h
      exact TS.code_lt hl' (TS.Bd.tail hb) (TS.Bd.tail ha) (show (j : Int) < (i : Int) by omega)
theorem code_cnt {B : Int} {a b : List Nat} (hl : a.length = b.length) (ha : TS.Bd B (ofN a)) (hb : TS.Bd B (ofN b)) (h : E94.cntGt a b = true) : TS.code B (tupC b) < TS.code B (tupC a) := by
  have hl' : (ofN b).length = (ofN a).length := by rw [ofN_len, ofN_len]; exact hl.symm
  unfold E94.cntGt at h
  split at h
  · rename_i e
    show TS.code B ((b.sum : Int) :: ofN b) < TS.code B ((a.sum : Int) :: ofN a)
    rw [e, TS.code_same hl']
    exact code_lex hl ha hb h
  · have : b.sum < a.sum := of_decide_eq_true h
    exact TS.code_lt hl' hb ha (by omega)
theorem perm_map {α β : Type} {f : α → β} {l m : List β} (h : l.Perm m) : ∀ {zs : List α}, m = zs.map f → ∃ zs' : List α, zs'.Perm zs ∧ l = zs'.map f := by
  induction h with
  | nil =>
    intro zs e
    exact ⟨zs, List.Perm.refl _, e⟩
  | cons x _ ih =>
    intro zs e
    cases zs with
    | nil => cases e
    | cons z zs =>
      obtain ⟨e1, e2⟩ := List.cons.inj e
      obtain ⟨zs', hp, he⟩ := ih e2
      exact ⟨z :: zs', hp.cons z, by rw [List.map_cons, ← he, e1]⟩
  | swap x y l =>
    intro zs e
    match zs, e with
    | a :: b :: zs, e =>
      obtain ⟨e1, e2⟩ := List.cons.inj e
      obtain ⟨e3, e4⟩ := List.cons.inj e2
      exact ⟨b :: a :: zs, List.Perm.swap _ _ _, by rw [List.map_cons, List.map_cons, ← e1, ← e3, ← e4]⟩
  | trans _ _ ih1 ih2 =>
    intro zs e
    obtain ⟨z2, p2, e2⟩ := ih2 e
    obtain ⟨z1, p1, e1⟩ := ih1 e2
    exact ⟨z1, p1.trans p2, e1⟩
/-- a tracked tuple -/
def PT (H : Hp) (z : V × List Nat) : Prop := ∃ r, z.1 = .ref r ∧ H r = some (.tup ((tupC z.2).map V.int))
/-- tracked tuples -/
def TrT (H : Hp) : List V → List (List Nat) → Prop
  | [], [] => True
  | v :: vs, c :: cs => PT H (v, c) ∧ TrT H vs cs
  | _, _ => False
theorem TrT.len {H : Hp} : ∀ {vs : List V} {cs : List (List Nat)}, TrT H vs cs → vs.length = cs.length
  | [], [], _ => rfl
  | _ :: _, _ :: _, h => by rw [List.length_cons, List.length_cons, TrT.len h.2]
  | [], _ :: _, h => h.elim
  | _ :: _, [], h => h.elim
theorem TrT.get {H : Hp} : ∀ {vs : List V} {cs : List (List Nat)} {i : Nat} {v : V}, TrT H vs cs → vs[i]? = some v → ∃ r c, cs[i]? = some c ∧ v = .ref r ∧ H r = some (.tup ((tupC c).map V.int))
  | [], [], i, v, _, e => by simp at e
  | u :: vs, c :: cs, i, v, h, e => by
    cases i with
    | zero =>
      have : u = v := Option.some.inj e
      subst this
      obtain ⟨r, e1, h1⟩ := h.1
      exact ⟨r, c, rfl, e1, h1⟩
    | succ i => exact TrT.get (vs := vs) (cs := cs) (i := i) h.2 (by simpa using e)
  | [], _ :: _, _, _, h, _ => h.elim
  | _ :: _, [], _, _, h, _ => h.elim
theorem TrT.mono {H H' : Hp} (hs : Same H H') : ∀ {vs : List V} {cs : List (List Nat)}, TrT H vs cs → TrT H' vs cs
  | [], [], _ => trivial
  | _ :: _, _ :: _, h => by
    obtain ⟨r, e1, h1⟩ := h.1
    exact ⟨⟨r, e1, hs _ _ h1⟩, TrT.mono hs h.2⟩
  | [], _ :: _, h => h.elim
  | _ :: _, [], h => h.elim
theorem trt_of {H : Hp} : ∀ {zs : List (V × List Nat)}, (∀ z ∈ zs, PT H z) → TrT H (zs.map (·.1)) (zs.map (·.2))
  | [], _ => trivial
  | z :: zs, h => ⟨h z (List.mem_cons_self ..), trt_of fun y hy => h y (List.mem_cons_of_mem _ hy)⟩
theorem PT.dp {K : PySem.W.Frag} {H : Hp} {z : V × List Nat} (h : PT H z) : Dp K H z.1 (dTup z.2) := by
  obtain ⟨r, e, h⟩ := h
  rw [e]
  exact tup_dp (SqT.of h)
theorem PT.upd {H : Hp} {z : V × List Nat} {d : Addr} {acc : List V} {o' : HO} (h : PT H z) (hd : H d = some (.lst acc)) : PT (upd H d o') z := by
  obtain ⟨r, e, h⟩ := h
  refine ⟨r, e, ?_⟩
  rw [upd_ne (ne_of h hd (fun z => nomatch z))]
  exact h
theorem PT.mono {H H' : Hp} {z : V × List Nat} (h : PT H z) (hs : Same H H') : PT H' z := by
  obtain ⟨r, e, h⟩ := h
  exact ⟨r, e, hs _ _ h⟩
theorem sc_products_within : FnScope ["degree", "letter_count", "found", "letter", "longer", "counts", "often"] ["degree", "letter_count"] (defScope s_products_within) := ⟨rfl, rfl, rfl, by decide +kernel, rfl, by decide +kernel, by decide +kernel⟩
abbrev dProds (cs : List (List Nat)) : PyData := .list (cs.map dTup)
def sp_products_within (K : PySem.W.Frag) : Sp := fun vs H Q _ => ∃ (d : Int) (k : Nat), vs = [.int d, .int (k : Int)] ∧ 1 ≤ k ∧ k ≤ 3 ∧ -1000 ≤ d ∧ d ≤ 5 ∧ ∀ H' a vs, Same H H' → H a = none → H' a = some (.lst vs) → TrT H' vs (E94.prodsW d k) → Q (.ref a) H'
theorem pairs_dp {H : Hp} : ∀ {zs : List (V × List Nat)}, (∀ z ∈ zs, Dp K H z.1 (dTup z.2)) → DpAll K H (zs.map (·.1)) ((zs.map (·.2)).map dTup)
  | [], _ => .nil
  | z :: zs, h => .cons (h z (List.mem_cons_self ..)) (pairs_dp fun y hy => h y (List.mem_cons_of_mem _ hy))
theorem dp_pairs {H : Hp} : ∀ {cs : List (List Nat)} {vs : List V}, DpAll K H vs (cs.map dTup) → ∃ zs : List (V × List Nat), vs = zs.map (·.1) ∧ cs = zs.map (·.2) ∧ ∀ z ∈ zs, Dp K H z.1 (dTup z.2)
  | [], _, h => by cases h; exact ⟨[], rfl, rfl, fun _ h => nomatch h⟩
  | c :: cs, _, h => by
    cases h with
    | cons h1 h2 =>
      obtain ⟨zs, e1, e2, h3⟩ := dp_pairs h2
      refine ⟨(_, c) :: zs, by rw [e1]; rfl, by rw [e2]; rfl, fun z hz => ?_⟩
      rcases List.mem_cons.mp hz with rfl | hz
      · exact h1
      · exact h3 z hz
theorem le_sum {n : Nat} : ∀ {c : List Nat}, n ∈ c → n ≤ c.sum
  | [], h => nomatch h
  | m :: c, h => by
    rw [List.sum_cons]
    rcases List.mem_cons.mp h with rfl | h
    · omega
    · have := le_sum h
      omega
theorem sqT_upd {H : Hp} {p d : Addr} {xs acc : List V} {o' : HO} (h : SqT K H p xs) (hd : H d = some (.lst acc)) : SqT K (upd H d o') p xs := by
  rcases h with (h | ⟨q, h⟩) | h
  · refine .inl (.inl ?_)
    rw [upd_ne (ne_of h hd (fun z => nomatch z))]
    exact h
  · refine .inl (.inr ⟨q, ?_⟩)
    rw [upd_ne (ne_of h hd (fun z => nomatch z))]
    exact h
  · exact .inr h
theorem tup_upd {H : Hp} {v : V} {c : List Nat} {d : Addr} {acc : List V} {o' : HO} (h : Dp K H v (dTup c)) (hd : H d = some (.lst acc)) : Dp K (upd H d o') v (dTup c) := by
  obtain ⟨a, rfl, ha⟩ := dp_tup h
  exact tup_dp (sqT_upd ha hd)
theorem ok_products_within {f fO : Addr} {fd fdO : FuncData} {k : Nat} (F : Fun K "products_within" "products_within" s_products_within f fd) (FO : Fun K "product_of" "product_of" s_product_of fO fdO) (bO : Binds K fdO ["counts"] []) (gO : mg "product_of" = some (.ref fO)) (msum : mg "sum" = none) (mtup : mg "tuple" = none) (mrange : mg "range" = none) (msorted : mg "sorted" = none) :
    FnOk P w K mg base CX0 (k + 2) f fd ["degree", "letter_count"] (sp_products_within K) := by
  have GO : FnOk P w K mg base CX0 (k + 1) fO fdO ["counts"] (sp_product_of K) := ok_product_of FO msum mtup
  refine F.ok sc_products_within (fun vs H Q E h => ?_) (fun cdv A outer s H vs Q E hr h => ?_)
  · obtain ⟨d, kk, rfl, _⟩ := h
    rfl
  · obtain ⟨d, kk, rfl, k1, k3, dlo, dhi, q⟩ := h
    refine ⟨_, pss_cons (ps_set (i := 2) sc_products_within.nd rfl (.inl rfl) (pe_lst (pa_cons (pe_lst pa_nil) pa_nil)))
      (pss_cons (ps_for PassesOwn.never rfl (pi_range1 (by rfl) mrange (pa_cons (pv 1) pa_nil)) (pg_name (i := 3) sc_products_within.nd rfl (.inl rfl))
        (pss_cons (ps_set (i := 4) sc_products_within.nd rfl (.inl rfl) (pe_lst pa_nil))
        (pss_cons (ps_for PassesOwn.never rfl (pi_list (pv 2)) (pg_name (i := 5) sc_products_within.nd rfl (.inl rfl))
          (pss_one (ps_for PassesOwn.never rfl (pi_range1 (by rfl) mrange (pa_cons (pe_op op_add (pe_op op_sub (pv 0) (pe_callB (cr_sum rfl) (by rfl) msum (by decide +kernel) (pa_cons (pv 5) pa_nil))) pe_int) pa_nil)) (pg_name (i := 6) sc_products_within.nd rfl (.inl rfl))
            (pss_one (ps_expr (pe_bm PySem.F.plainAttrs_list PySem.F.slot_list_append PySem.F.type_list_append mt_append (pv 4) (pa_cons (pe_op op_cat (pv 5) (pe_lst (pa_cons (pv 6) pa_nil))) pa_nil)))))))
        (pss_one (ps_set (i := 2) sc_products_within.nd rfl (.inl rfl) (pv 4))))))
      (pss_one (ps_ret (pe_callB (cr_sortT (d := kk + 1) (B := 64) (by omega)) (by rfl) msorted (by decide +kernel) (pa_cons
        (pe_lc (own := [("counts", 5)]) (g := gName 5) (tt := tYes) (by rfl) sc_products_within.nd (pi_list (pv 2)) (blkOk_by (own := [("counts", 5)]) (N := ["degree", "letter_count", "found", "letter", "longer", "counts", "often"]) (sc := defScope s_products_within) (by decide +kernel))
          (fun _ _ _ _ _ => pg_name (i := 5) sc_products_within.nd rfl (.inl rfl)) (fun _ _ _ _ _ => pts_nil)
          (fun _ _ _ _ _ => pe_call GO hr (by rfl) gO FO.kp bO .nil pass0 (pa_cons (pv 5) pa_nil))) pa_nil))))), ?_⟩
    -- found = [[]]
    refine ⟨Nat.zero_le _, fun l0 nl0 => ⟨by show 1 ≤ sizeLine; decide, fun f0 nf0 => ?_⟩⟩
    have s0 : Same H (upd (upd H l0 (.lst [])) f0 (.lst [.ref l0])) := (same_upd nl0).trans (same_upd nf0)
    have hl0 : (upd (upd H l0 (.lst [])) f0 (.lst [.ref l0])) l0 = some (.lst ((ofN []).map V.int)) := same_upd nf0 _ _ upd_same
    -- the letters one by one
    refine ⟨_, rfl, kk, rfl, by omega, by omega, for_range (lo := 0) (n := (kk : Int).toNat) (fun j σ H2 => Same H H2 ∧ ∃ f vs y3 y4 y5 y6, σ = [some (.int d), some (.int (kk : Int)), some (.ref f), y3, y4, y5, y6] ∧ H f = none ∧ H2 f = some (.lst vs) ∧ Trk H2 vs (E94.cnts d j)) ⟨s0, f0, [.ref l0], none, none, none, none, rfl, (same_upd nl0).free nf0, upd_same, ⟨l0, rfl, hl0⟩, trivial⟩ ?_ ?_⟩
    · rintro j σ H2 hj ⟨sm, f, vs, y3, y4, y5, y6, rfl, hHf, hf, hT⟩
      -- longer = []
      refine ⟨Nat.zero_le _, fun l nl => ?_⟩
      have sl := same_upd (o := .lst []) nl
      have hjk : j < kk := by omega
      have cs6 : (E94.cnts d j).length ≤ 36 := by
        have h1 := cnts_small dhi j
        have h2 : 6 ^ j ≤ 6 ^ 2 := Nat.pow_le_pow_right (by decide) (by omega)
        omega
      refine ⟨_, rfl, f, rfl, ⟨_, SqL.of (sl _ _ hf)⟩, for_list (K := K) (a := f) (xs := vs) (fun i σ3 H3 => Same H2 H3 ∧ ∃ ws z5 z6, σ3 = [some (.int d), some (.int (kk : Int)), some (.ref f), some (.int (0 + (j : Int))), some (.ref l), z5, z6] ∧ H3 l = some (.lst ws) ∧ Trk H3 ws (longOf d ((E94.cnts d j).take i))) ⟨sl, [], _, _, rfl, upd_same, trivial⟩ (fun i σ3 H3 _ h => SqL.of (h.1 _ _ hf)) ?_ ?_⟩
      · rintro i x σ3 H3 hx ⟨sm3, ws, z5, z6, rfl, hw, hTw⟩
        obtain ⟨r, c, hc, rfl, hr3⟩ := hT.get hx
        have hrr : H3 r = some (.lst ((ofN c).map V.int)) := sm3 _ _ hr3
        have hi : i < (E94.cnts d j).length := by
          rcases Nat.lt_or_ge i (E94.cnts d j).length with h | h
          · exact h
          · rw [List.getElem?_eq_none h] at hc; cases hc
        have lenW : (longOf d ((E94.cnts d j).take i)).length ≤ 216 := by
          have h1 := longOf_len dhi ((E94.cnts d j).take i)
          rw [List.length_take] at h1
          have : min i (E94.cnts d j).length ≤ 36 := Nat.le_trans (Nat.min_le_right _ _) cs6
          omega
        have clen : c.length ≤ 1000 := by
          have hm : c ∈ E94.cnts d j := List.mem_of_getElem? hc
          cases j with
          | zero =>
            have : c = [] := by simpa [E94.cnts] using hm
            rw [this]; decide
          | succ j => rw [(E94.cnts_mem.mp hm).1]; omega
        have s0' : 0 ≤ (c.sum : Int) := Int.natCast_nonneg _
        have sumb : (c.sum : Int) ≤ 5 ∨ j = 0 := by
          have hm : c ∈ E94.cnts d j := List.mem_of_getElem? hc
          cases j with
          | zero => exact .inr rfl
          | succ j => exact .inl (Int.le_trans (E94.cnts_mem.mp hm).2 dhi)
        have sumc : (c.sum : Int) ≤ 5 := by
          rcases sumb with h | h
          · exact h
          · subst h
            have hm : c ∈ E94.cnts d 0 := List.mem_of_getElem? hc
            have : c = [] := by simpa [E94.cnts] using hm
            rw [this]; decide
        refine ⟨_, rfl, _, rfl, r, ofN c, rfl, SqL.of hrr, _, _, rfl, rfl, _, _, rfl, rfl, ?_⟩
        rw [ofN_sum]
        refine ⟨_, rfl, by omega, by omega, for_range (lo := 0) (n := (d - (c.sum : Int) + 1).toNat) (fun o σ4 H4 => Same H2 H4 ∧ H4 r = some (.lst ((ofN c).map V.int)) ∧ ∃ ws z6, σ4 = [some (.int d), some (.int (kk : Int)), some (.ref f), some (.int (0 + (j : Int))), some (.ref l), some (.ref r), z6] ∧ H4 l = some (.lst ws) ∧ Trk H4 ws (longOf d ((E94.cnts d j).take i) ++ (List.range o).map fun o => c ++ [o])) ⟨sm3, hrr, ws, _, rfl, hw, by simpa using hTw⟩ ?_ ?_⟩
        · rintro o σ4 H4 ho ⟨sm4, hr4, ws, z6, rfl, hw4, hT4⟩
          have nlr : l ≠ r := fun e => by
            subst e
            rw [hr3] at nl
            cases nl
          refine ⟨_, rfl, .inl ⟨rfl, _, SqL.of hw4⟩, _, rfl, _, rfl, by show 1 ≤ sizeLine; decide, fun t nt => ?_⟩
          have st := same_upd (o := .lst [V.int (0 + (o : Int))]) nt
          refine ⟨r, t, _, _, rfl, rfl, st _ _ hr4, upd_same, ?_, fun p np => ?_⟩
          · rw [List.length_map, ofN_len, sizeLine_eq]
            show c.length + 1 ≤ 16777216
            omega
          · have sp := same_upd (o := .lst ((ofN c).map V.int ++ [V.int (0 + (o : Int))])) np
            have hw5 := sp _ _ (st _ _ hw4)
            refine ⟨l, _, _, rfl, rfl, hw5, ?_, ?_⟩
            · rw [hT4.len, List.length_append, List.length_map, List.length_range]
              have : o ≤ 6 := by omega
              exact Nat.lt_of_le_of_lt (show _ ≤ 222 by omega) (by decide)
            · have pl : p ≠ l := fun e => by
                subst e
                have := st _ _ hw4
                rw [this] at np
                cases np
              have keep : ∀ b x, b ≠ l → H4 b = some x → (upd (upd (upd H4 t (.lst [V.int (0 + (o : Int))])) p (.lst ((ofN c).map V.int ++ [V.int (0 + (o : Int))]))) l (.lst (ws ++ [.ref p]))) b = some x := fun b x nb e => by
                rw [upd_ne nb]
                exact sp _ _ (st _ _ e)
              refine ⟨fun b x e => ?_, keep r _ nlr.symm hr4, _, _, rfl, upd_same, ?_⟩
              · exact keep b x (ne_of_none e nl) (sm4 _ _ e)
              · rw [List.range_succ, List.map_append, ← List.append_assoc]
                refine Trk.snoc ?_ ?_
                · -- the old ones: none of them is l
                  have key : ∀ {us : List V} {cs : List (List Nat)}, Trk H4 us cs → (∀ r0, V.ref r0 ∈ us → r0 ≠ l) → Trk (upd (upd (upd H4 t (.lst [V.int (0 + (o : Int))])) p (.lst ((ofN c).map V.int ++ [V.int (0 + (o : Int))]))) l (.lst (ws ++ [.ref p]))) us cs := by
                    intro us
                    induction us with
                    | nil => intro cs h _; cases cs with
                      | nil => trivial
                      | cons => exact h.elim
                    | cons u us ih =>
                      intro cs h hn
                      cases cs with
                      | nil => exact h.elim
                      | cons c2 cs =>
                        obtain ⟨⟨r0, e0, h0⟩, h1⟩ := h
                        exact ⟨⟨r0, e0, keep r0 _ (hn r0 (by rw [e0]; exact List.mem_cons_self ..)) h0⟩, ih h1 fun r1 hr1 => hn r1 (List.mem_cons_of_mem _ hr1)⟩
                  refine key hT4 fun r0 hr0 e0 => ?_
                  obtain ⟨n0, hn0⟩ := List.mem_iff_getElem?.mp hr0
                  obtain ⟨r1, c1, _, e1, h1⟩ := hT4.get hn0
                  have e2 : r0 = r1 := V.ref.inj e1
                  rw [← e2, e0, hw4] at h1
                  have e3 : ws = (ofN c1).map V.int := HO.lst.inj (Option.some.inj h1)
                  rw [e3] at hr0
                  obtain ⟨_, _, e4⟩ := List.mem_map.mp hr0
                  cases e4
                · rw [upd_ne pl, upd_same, ofN_snoc, List.map_append]
                  simp
        · rintro σ4 H4 ⟨sm4, hr4, ws, z6, rfl, hw4, hT4⟩
          refine ⟨sm4, ws, _, _, rfl, hw4, ?_⟩
          rw [take_more hc, longOf_snoc]
          exact hT4
      · rintro σ3 H3 ⟨sm3, ws, z5, z6, rfl, hw, hTw⟩
        rw [hT.len, List.take_length] at hTw
        exact ⟨_, rfl, sm.trans sm3, l, ws, _, _, _, _, rfl, sm.free nl, hw, hTw⟩
    · rintro σ H2 ⟨sm, f, vs, y3, y4, y5, y6, rfl, hHf, hf, hT⟩
      have ek : (kk : Int).toNat = kk := by omega
      rw [ek] at hT
      refine ⟨_, rfl, f, rfl, ⟨_, SqL.of hf⟩, fun D hD => lc_list (K := K) (a := f) (xs := vs) (fun i H3 => Same H2 H3 ∧ ∃ zs : List (V × List Nat), H3 D = some (.lst (zs.map (·.1))) ∧ (E94.cnts d kk).take i = zs.map (·.2) ∧ ∀ z ∈ zs, PT H3 z) ⟨same_upd hD, [], upd_same, rfl, fun _ h => nomatch h⟩ (fun i H3 _ h => SqL.of (h.1 _ _ hf)) ?_ ?_⟩
      · rintro i x H3 hx ⟨sm3, zs, hd, hc, hz⟩
        obtain ⟨r, c, hcc, rfl, hr3⟩ := hT.get hx
        have hm : c ∈ E94.cnts d kk := List.mem_of_getElem? hcc
        obtain ⟨kj, rfl⟩ : ∃ kj, kk = kj + 1 := ⟨kk - 1, by omega⟩
        have hcl := (E94.cnts_mem.mp hm).1
        refine ⟨rfl, ?_⟩
        refine ⟨_, rfl, r, c, rfl, SqL.of (sm3 _ _ hr3), by omega, by omega, fun H4 p sm4 hp => ?_⟩
        have hd4 : H4 D = some (.lst (zs.map (·.1))) := sm4 _ _ hd
        refine ⟨_, hd4, ?_, fun b0 o0 e0 => ?_, zs ++ [(.ref p, c)], ?_, ?_, ?_⟩
        · rw [List.length_map]
          have e := congrArg List.length hc
          rw [List.length_take, List.length_map] at e
          have h64 := cnts_64 dhi k1 k3
          exact Nat.lt_of_le_of_lt (show zs.length ≤ 64 by omega) (by decide)
        · have : b0 ≠ D := ne_of_none e0 hD
          rw [upd_ne this]
          exact sm4 _ _ (sm3 _ _ e0)
        · rw [upd_same, List.map_append]
          rfl
        · rw [take_more hcc, hc, List.map_append]
          rfl
        · intro z hzz
          refine PT.upd ?_ hd4
          rcases List.mem_append.mp hzz with h | h
          · exact (hz z h).mono sm4
          · rw [List.mem_singleton.mp h]
            exact ⟨p, rfl, hp⟩
      · rintro H3 ⟨sm3, zs, hd, hc, hz⟩
        rw [hT.len, List.take_length] at hc
        obtain ⟨kj, rfl⟩ : ∃ kj, kk = kj + 1 := ⟨kk - 1, by omega⟩
        have hb : ∀ c ∈ E94.cnts d (kj + 1), c.length = kj + 1 ∧ TS.Bd 64 (ofN c) ∧ TS.Bd 64 (tupC c) := fun c hm => by
          have := E94.cnts_mem.mp hm
          have h1 : TS.Bd 64 (ofN c) := fun m hm2 => by
            obtain ⟨n, hn, rfl⟩ := List.mem_map.mp hm2
            have := le_sum hn
            show (0 : Int) ≤ (n : Int) ∧ (n : Int) < 64
            omega
          refine ⟨this.1, h1, fun m hm2 => ?_⟩
          rcases List.mem_cons.mp hm2 with rfl | hm2
          · omega
          · exact h1 m hm2
        refine ⟨D, _, rfl, SqL.of hd, ?_, fun x hx => ?_, fun ys p hperm hpw np => ?_⟩
        · rw [List.length_map]
          have e := congrArg List.length hc
          rw [List.length_map] at e
          have h64 := cnts_64 dhi k1 k3
          omega
        · obtain ⟨z, hzm, rfl⟩ := List.mem_map.mp hx
          obtain ⟨a, e, ha⟩ := dp_tup (K := K) (hz z hzm).dp
          have hm : z.2 ∈ E94.cnts d (kj + 1) := by rw [hc]; exact List.mem_map_of_mem hzm
          exact ⟨tupC z.2, ⟨a, e, ha⟩, by rw [tupC_len, (hb _ hm).1], (hb _ hm).2.2⟩
        · obtain ⟨zs', hp', rfl⟩ := perm_map hperm rfl
          have hz' : ∀ z ∈ zs', PT H3 z := fun z h => hz z (hp'.mem_iff.mp h)
          have hcs : (zs'.map (·.2)).Perm (E94.cnts d (kj + 1)) := by rw [hc]; exact hp'.map _
          have e : zs'.map (·.2) = E94.prodsW d (kj + 1) := by
            have hs := E94.prodsW_spec d (show 0 < kj + 1 by omega)
            refine E94.sorted_unique (r := fun a b => E94.cntGt b a = true) (fun a => by rw [E94.cntGt_irrefl]; exact Bool.false_ne_true) (fun h1 h2 => E94.cntGt_trans h2 h1) ?_ hs.1 fun c => ?_
            · have nd : (zs'.map (·.2)).Nodup := hcs.nodup_iff.mpr (E94.cnts_nodup d _)
              have h1 : zs'.Pairwise fun x y => x.2 ≠ y.2 := List.pairwise_map.mp nd
              have h2 := List.pairwise_map.mp hpw
              refine List.pairwise_map.mpr ((h1.and h2).imp_of_mem ?_)
              rintro x y hx hy ⟨ne, hle⟩
              have mx : x.2 ∈ E94.cnts d (kj + 1) := hcs.mem_iff.mp (List.mem_map_of_mem hx)
              have my : y.2 ∈ E94.cnts d (kj + 1) := hcs.mem_iff.mp (List.mem_map_of_mem hy)
              obtain ⟨ax, ex, hax⟩ := dp_tup (K := K) (hz' x hx).dp
              obtain ⟨ay, ey, hay⟩ := dp_tup (K := K) (hz' y hy).dp
              have le := hle _ _ ⟨ax, ex, hax⟩ ⟨ay, ey, hay⟩
              have hl : x.2.length = y.2.length := by rw [(hb _ mx).1, (hb _ my).1]
              cases g : E94.cntGt y.2 x.2 with
              | true => rfl
              | false =>
                have g2 := E94.cntGt_total hl.symm (Ne.symm ne) g
                have := code_cnt hl (hb _ mx).2.1 (hb _ my).2.1 g2
                omega
            · rw [hcs.mem_iff, E94.cnts_mem, hs.2 c]
          rw [← e] at q
          exact q _ _ _ ((sm.trans sm3).trans (same_upd np)) ((sm.trans sm3).free np) upd_same ((trt_of hz').mono (same_upd np))
end
end E94H
set_option Elab.async false
set_option linter.all false
set_option maxRecDepth 100000
set_option maxHeartbeats 2000000
namespace E94H
open PySem PySem.Spec PyProof.Rows L2
section
variable {P : Program} {w : World} {K : PySem.W.Frag} {mg : Str → Option Value} {base : Heap}
abbrev sp1 (sep : Nat) (t : List Nat) : List (List Nat) := AlBase.split sep t
/-! ### pieces_between -/
theorem split_snoc (sep b : Nat) : ∀ t : List Nat, sp1 sep (t ++ [b]) = if b = sep then sp1 sep t ++ [[]] else (sp1 sep t).dropLast ++ [((sp1 sep t).getLast (E94.split_ne sep t)) ++ [b]]
  | [] => by
    show AlBase.split sep [b] = if b = sep then [[]] ++ [[]] else [] ++ [[] ++ [b]]
    rw [AlBase.split]
    split
    · rfl
    · rfl
  | c :: t => by
    have ih := split_snoc sep b t
    have ne := E94.split_ne sep t
    show AlBase.split sep (c :: (t ++ [b])) = if b = sep then AlBase.split sep (c :: t) ++ [[]] else (AlBase.split sep (c :: t)).dropLast ++ [(AlBase.split sep (c :: t)).getLast (E94.split_ne sep (c :: t)) ++ [b]]
    by_cases hc : c = sep
    · have e1 : AlBase.split sep (c :: (t ++ [b])) = [] :: AlBase.split sep (t ++ [b]) := by rw [AlBase.split, if_pos hc]
      have e2 : AlBase.split sep (c :: t) = [] :: AlBase.split sep t := by rw [AlBase.split, if_pos hc]
      have ih' : AlBase.split sep (t ++ [b]) = _ := ih
      rw [e1, ih']
      simp only [e2]
      by_cases hb : b = sep
      · rw [if_pos hb, if_pos hb]; rfl
      · rw [if_neg hb, if_neg hb, List.dropLast_cons_of_ne_nil ne, List.getLast_cons ne]; rfl
    · have e1 : ∀ v r, AlBase.split sep (t ++ [b]) = v :: r → AlBase.split sep (c :: (t ++ [b])) = (c :: v) :: r := fun v r h => by rw [AlBase.split, if_neg hc, h]
      have e2 : ∀ v r, AlBase.split sep t = v :: r → AlBase.split sep (c :: t) = (c :: v) :: r := fun v r h => by rw [AlBase.split, if_neg hc, h]
      cases hs : AlBase.split sep t with
      | nil => exact absurd hs ne
      | cons v r =>
        simp only [e2 v r hs]
        simp only [sp1, hs] at ih
        by_cases hb : b = sep
        · rw [if_pos hb] at ih
          rw [if_pos hb, e1 v (r ++ [[]]) (by rw [ih]; rfl)]
          rfl
        · rw [if_neg hb] at ih
          rw [if_neg hb]
          cases r with
          | nil =>
            rw [e1 (v ++ [b]) [] ih]
            rfl
          | cons u r =>
            have e3 : AlBase.split sep (t ++ [b]) = v :: ((u :: r).dropLast ++ [(u :: r).getLast (by simp) ++ [b]]) := by
              rw [ih]
              rfl
            rw [e1 _ _ e3]
            rfl
theorem sc_pieces_between : FnScope ["text", "separator", "pieces", "byte"] ["text", "separator"] (defScope s_pieces_between) := ⟨rfl, rfl, rfl, by decide +kernel, rfl, by decide +kernel, by decide +kernel⟩
def sp_pieces_between (K : PySem.W.Frag) : Sp := fun vs H Q _ => ∃ (a : Addr) (t : List Nat) (sep : Nat), vs = [.ref a, .int (sep : Int)] ∧ SqL K H a ((ofN t).map V.int) ∧ t.length ≤ 1000 ∧ ∀ H' p vs, Same H H' → H p = none → H' p = some (.lst vs) → Trk H' vs (sp1 sep t) → Q (.ref p) H'
theorem Trk.split {H : Hp} : ∀ {vs : List V} {cs : List (List Nat)}, Trk H vs cs → ∀ (ne : cs ≠ []), ∃ us r, vs = us ++ [.ref r] ∧ Trk H us cs.dropLast ∧ H r = some (.lst ((ofN (cs.getLast ne)).map V.int))
  | [], [], _, ne => absurd rfl ne
  | [], _ :: _, h, _ => h.elim
  | _ :: _, [], h, _ => h.elim
  | v :: vs, c :: cs, h, ne => by
    obtain ⟨⟨r, e, hr⟩, h2⟩ := h
    cases cs with
    | nil =>
      cases vs with
      | nil => exact ⟨[], r, by rw [e]; rfl, trivial, hr⟩
      | cons => exact h2.elim
    | cons d cs =>
      obtain ⟨us, r', e', h3, h4⟩ := Trk.split h2 (by simp)
      refine ⟨v :: us, r', by rw [e']; rfl, ⟨⟨r, e, hr⟩, h3⟩, ?_⟩
      rw [List.getLast_cons (by simp)]
      exact h4
/-- an address that is none of the list's may be changed -/
theorem Trk.upd {H : Hp} {d : Addr} {o : HO} : ∀ {us : List V} {cs : List (List Nat)}, Trk H us cs → V.ref d ∉ us → Trk (upd H d o) us cs
  | [], [], _, _ => trivial
  | [], _ :: _, h, _ => h.elim
  | _ :: _, [], h, _ => h.elim
  | v :: us, c :: cs, h, hn => by
    obtain ⟨⟨r, e, hr⟩, h2⟩ := h
    refine ⟨⟨r, e, ?_⟩, Trk.upd h2 fun q => hn (List.mem_cons_of_mem _ q)⟩
    rw [upd_ne (fun q => hn (by rw [e, q]; exact List.mem_cons_self ..))]
    exact hr
theorem Trk.old {H : Hp} {d : Addr} (hd : H d = none) : ∀ {us : List V} {cs : List (List Nat)}, Trk H us cs → V.ref d ∉ us
  | [], [], _ => List.not_mem_nil
  | [], _ :: _, h => h.elim
  | _ :: _, [], h => h.elim
  | v :: us, c :: cs, h => fun q => by
    obtain ⟨⟨r, e, hr⟩, h2⟩ := h
    rcases List.mem_cons.mp q with q | q
    · rw [e] at q
      have : d = r := V.ref.inj q
      rw [this, hr] at hd
      cases hd
    · exact Trk.old hd h2 q
theorem split_len (sep : Nat) : ∀ t : List Nat, (sp1 sep t).length ≤ t.length + 1
  | [] => by simp [AlBase.split]
  | b :: t => by
    have ih := split_len sep t
    have ne := E94.split_ne sep t
    show (AlBase.split sep (b :: t)).length ≤ _
    rw [AlBase.split]
    split
    · simp only [List.length_cons]; exact Nat.succ_le_succ ih
    · cases hs : AlBase.split sep t with
      | nil => exact absurd hs ne
      | cons v r =>
        simp only [sp1, hs] at ih
        simp only [List.length_cons] at ih ⊢
        omega
theorem split_piece (sep : Nat) : ∀ (t : List Nat), ∀ v ∈ sp1 sep t, v.length ≤ t.length
  | [], v, h => by
    have : v = [] := by simpa [AlBase.split] using h
    rw [this]; simp
  | b :: t, v, h => by
    have ih := split_piece sep t
    have ne := E94.split_ne sep t
    have h : v ∈ AlBase.split sep (b :: t) := h
    rw [AlBase.split] at h
    split at h
    · rcases List.mem_cons.mp h with rfl | h
      · simp
      · have := ih v h; simp only [List.length_cons]; omega
    · cases hs : AlBase.split sep t with
      | nil => exact absurd hs ne
      | cons u r =>
        rw [hs] at h
        rcases List.mem_cons.mp h with rfl | h
        · have := ih u (by show u ∈ AlBase.split sep t; rw [hs]; exact List.mem_cons_self ..)
          simp only [List.length_cons]; omega
        · have := ih v (by show v ∈ AlBase.split sep t; rw [hs]; exact List.mem_cons_of_mem _ h)
          simp only [List.length_cons]; omega
theorem ok_pieces_between {f : Addr} {fd : FuncData} {k : Nat} (F : Fun K "pieces_between" "pieces_between" s_pieces_between f fd) : FnOk P w K mg base CX0 (k + 1) f fd ["text", "separator"] (sp_pieces_between K) := by
  refine F.ok sc_pieces_between (fun vs H Q E h => ?_) (fun cdv A outer s H vs Q E hr h => ?_)
  · obtain ⟨a, t, sep, rfl, _⟩ := h
    rfl
  · obtain ⟨a, t, sep, rfl, hA, hlen, q⟩ := h
    refine ⟨_, pss_cons (ps_set (i := 2) sc_pieces_between.nd rfl (.inl rfl) (pe_lst (pa_cons (pe_lst pa_nil) pa_nil)))
      (pss_cons (ps_for PassesOwn.never rfl (pi_list (pv 0)) (pg_name (i := 3) sc_pieces_between.nd rfl (.inl rfl))
        (pss_one (ps_if (pt_cmpR op_eq (pv 3) (pv 1) (nomark _))
          (pss_one (ps_expr (pe_bm PySem.F.plainAttrs_list PySem.F.slot_list_append PySem.F.type_list_append mt_append (pv 2) (pa_cons (pe_lst pa_nil) pa_nil))))
          (pss_one (ps_expr (pe_bm PySem.F.plainAttrs_list PySem.F.slot_list_append PySem.F.type_list_append mt_append (pe_ix ix_list (pv 2) (pe_un un_neg pe_int) (fun _ _ => rfl)) (pa_cons (pv 3) pa_nil)))))))
      (pss_one (ps_ret (pv 2)))), ?_⟩
    refine ⟨Nat.zero_le _, fun l0 nl0 => ⟨by show 1 ≤ sizeLine; decide, fun p np => ?_⟩⟩
    have s0 : Same H (upd (upd H l0 (.lst [])) p (.lst [.ref l0])) := (same_upd nl0).trans (same_upd np)
    have hl0 : (upd (upd H l0 (.lst [])) p (.lst [.ref l0])) l0 = some (.lst ((ofN []).map V.int)) := same_upd np _ _ upd_same
    have nHp : H p = none := (same_upd nl0).free np
    refine ⟨_, rfl, a, rfl, ⟨_, s0.seq hA⟩, for_list (K := K) (a := a) (xs := (ofN t).map V.int) (fun i σ H2 => Same H H2 ∧ ∃ vs y, σ = [some (.ref a), some (.int (sep : Int)), some (.ref p), y] ∧ H2 p = some (.lst vs) ∧ Trk H2 vs (sp1 sep (t.take i)) ∧ vs.Nodup ∧ ∀ r, V.ref r ∈ vs → H r = none) ⟨s0, [.ref l0], none, rfl, upd_same, ⟨⟨l0, rfl, hl0⟩, trivial⟩, by simp, fun r hr' => by rw [V.ref.inj (List.mem_singleton.mp hr')]; exact nl0⟩ (fun i σ H2 _ h => h.1.seq hA) ?_ ?_⟩
    · rintro i x σ H2 hx ⟨sm, vs, y, rfl, hp, hT, hN, hO⟩
      obtain ⟨z, hz, rfl⟩ := get_int hx
      obtain ⟨b, hb, rfl⟩ : ∃ b, t[i]? = some b ∧ (b : Int) = z := by
        unfold ofN at hz
        rw [List.getElem?_map] at hz
        cases e : t[i]? with
        | none => rw [e] at hz; cases hz
        | some b => rw [e] at hz; exact ⟨b, rfl, Option.some.inj hz⟩
      have hsn := split_snoc sep b (t.take i)
      rw [← take_more hb] at hsn
      have til : (t.take i).length ≤ 1000 := by rw [List.length_take]; omega
      have vl : vs.length ≤ 1001 := by
        rw [hT.len]
        have := split_len sep (t.take i)
        omega
      -- the list of pieces is none of them
      have ppn : V.ref p ∉ vs := fun hm => by
        obtain ⟨n0, hn0⟩ := List.mem_iff_getElem?.mp hm
        obtain ⟨r1, c1, _, e1, h1⟩ := hT.get hn0
        have e2 : p = r1 := V.ref.inj e1
        rw [← e2, hp] at h1
        have e3 : vs = (ofN c1).map V.int := HO.lst.inj (Option.some.inj h1)
        rw [e3] at hm
        obtain ⟨_, _, e4⟩ := List.mem_map.mp hm
        cases e4
      refine ⟨_, rfl, _, rfl, rfl, _, rfl, ite2 (fun e => ?_) (fun e => ?_)⟩
      · have eb : b = sep := by
          have := V.int.inj (of_decide_eq_true e)
          omega
        rw [if_pos eb] at hsn
        refine ⟨_, rfl, .inl ⟨rfl, _, SqL.of hp⟩, Nat.zero_le _, fun l nl => ?_⟩
        have sl := same_upd (o := .lst []) nl
        have lp : p ≠ l := ne_of_none hp nl
        refine ⟨p, vs, _, rfl, rfl, sl _ _ hp, Nat.lt_of_le_of_lt vl (by decide), fun b0 o0 e0 => ?_, _, _, rfl, upd_same, ?_, ?_, fun r hr' => ?_⟩
        · rw [upd_ne (ne_of_none e0 nHp)]
          exact sl _ _ (sm _ _ e0)
        · rw [hsn]
          refine Trk.snoc (Trk.upd (hT.mono sl) ppn) ?_
          rw [upd_ne lp.symm, upd_same]
          rfl
        · refine List.nodup_append.mpr ⟨hN, by simp, fun u hu v hv => ?_⟩
          rw [List.mem_singleton.mp hv]
          intro z
          rw [z] at hu
          exact Trk.old nl hT hu
        · rcases List.mem_append.mp hr' with h | h
          · exact hO r h
          · rw [V.ref.inj (List.mem_singleton.mp h)]
            exact sm.free nl
      · have eb : ¬ b = sep := fun z => e (decide_eq_true (by rw [z]))
        rw [if_neg eb] at hsn
        obtain ⟨us, r, rfl, hU, hr2⟩ := hT.split (E94.split_ne sep (t.take i))
        have hrN : H r = none := hO r (List.mem_append_right _ (List.mem_singleton.mpr rfl))
        have rp : p ≠ r := fun z => ppn (by rw [z]; exact List.mem_append_right _ (List.mem_singleton.mpr rfl))
        refine ⟨_, rfl, _, rfl, p, _, _, _, rfl, rfl, SqL.of hp, atI_last _ _, .inl ⟨rfl, _, SqL.of hr2⟩, _, rfl, r, _, _, rfl, rfl, hr2, ?_, fun b0 o0 e0 => ?_, _, _, rfl, ?_, ?_, hN, hO⟩
        · rw [List.length_map, ofN_len]
          have := split_piece sep (t.take i) _ (List.getLast_mem (E94.split_ne sep (t.take i)))
          exact Nat.lt_of_le_of_lt (Nat.le_trans this til) (by decide)
        · rw [upd_ne (ne_of_none e0 hrN)]
          exact sm _ _ e0
        · rw [upd_ne rp]
          exact hp
        · rw [hsn]
          refine Trk.snoc (Trk.upd hU fun hm => ?_) ?_
          · have := (List.nodup_append.mp hN).2.2 _ hm _ (List.mem_singleton.mpr rfl)
            exact this rfl
          · rw [upd_same, ofN_snoc, List.map_append]
            rfl
    · rintro σ H2 ⟨sm, vs, y, rfl, hp, hT, hN, hO⟩
      rw [List.length_map, ofN_len, List.take_length] at hT
      exact ⟨_, rfl, q H2 p vs sm nHp hp hT⟩
/-! ### is_digit -/
theorem sc_is_digit : FnScope ["byte"] ["byte"] (defScope s_is_digit) := ⟨rfl, rfl, rfl, by decide +kernel, rfl, by decide +kernel, by decide +kernel⟩
def sp_is_digit : Sp := fun vs H Q _ => ∃ b : Nat, vs = [.int (b : Int)] ∧ Q (.bl (E94.isDig b)) H
theorem ok_is_digit {f : Addr} {fd : FuncData} {k : Nat} {tz tn : Tok} (F : Fun K "is_digit" "is_digit" s_is_digit f fd) (gZ : mg "ZERO" = some (.int 48 tz)) (gN : mg "NINE" = some (.int 57 tn)) : FnOk P w K mg base CX0 (k + 1) f fd ["byte"] sp_is_digit := by
  refine F.ok sc_is_digit (fun vs H Q E h => ?_) (fun cdv A outer s H vs Q E hr h => ?_)
  · obtain ⟨b, rfl, _⟩ := h
    rfl
  · obtain ⟨b, rfl, q⟩ := h
    refine ⟨_, pss_one (ps_ret (pe_chain op_le op_le (pe_glob (v := .int 48) (by rfl) gZ ⟨_, rfl⟩) (pv 0) (pe_glob (v := .int 57) (by rfl) gN ⟨_, rfl⟩))), ?_⟩
    refine ⟨_, rfl, _, _, rfl, rfl, _, rfl, ?_⟩
    by_cases h1 : (48 : Int) ≤ (b : Int)
    · rw [decide_eq_true h1]
      refine iteT ⟨_, _, rfl, rfl, ?_⟩
      have : E94.isDig b = decide ((b : Int) ≤ 57) := by
        unfold E94.isDig
        rw [decide_eq_true (show 48 ≤ b by omega), Bool.true_and]
        exact decide_eq_decide.mpr (by omega)
      show Q (.bl (decide ((b : Int) ≤ 57))) H
      rw [← this]
      exact q
    · rw [decide_eq_false h1]
      refine iteF ?_
      have : E94.isDig b = false := by
        unfold E94.isDig
        rw [decide_eq_false (show ¬ 48 ≤ b by omega), Bool.false_and]
      show Q (.bl false) H
      rw [← this]
      exact q
end
end E94H
set_option Elab.async false
set_option linter.all false
set_option maxRecDepth 100000
set_option maxHeartbeats 2000000
namespace E94H
open PySem PySem.Spec PyProof.Rows L2
section
variable {P : Program} {w : World} {K : PySem.W.Frag} {mg : Str → Option Value} {base : Heap}
theorem shaped_row (ns : List Int) : SeqAt.shaped (dRow ns) = true := by
  unfold SeqAt.shaped
  rw [Bool.and_eq_true]
  refine ⟨?_, decide_eq_true ?_⟩
  · simp only [PyData.canLay0]
    exact lay_ints ns
  · simp only [PyData.depth, depth_ints]
    decide
theorem get_nat {t : List Nat} {i : Nat} {x : V} (h : ((ofN t).map V.int)[i]? = some x) : ∃ b, t[i]? = some b ∧ x = .int (b : Int) := by
  obtain ⟨z, hz, rfl⟩ := get_int h
  unfold ofN at hz
  rw [List.getElem?_map] at hz
  cases e : t[i]? with
  | none => rw [e] at hz; cases hz
  | some b => rw [e] at hz; exact ⟨b, rfl, by rw [← Option.some.inj hz]⟩
def oI : Option Nat → V
  | none => .non
  | some n => .int (n : Int)
/-! ### read_whole -/
theorem sc_read_whole : FnScope ["text", "value", "byte"] ["text"] (defScope s_read_whole) := ⟨rfl, rfl, rfl, by decide +kernel, rfl, by decide +kernel, by decide +kernel⟩
def sp_read_whole (K : PySem.W.Frag) : Sp := fun vs H Q _ => ∃ (a : Addr) (t : List Nat), vs = [.ref a] ∧ SqL K H a ((ofN t).map V.int) ∧ ∀ H', Same H H' → Q (oI (E94.readWhole t)) H'
theorem valOf_take {t : List Nat} {i b : Nat} (h : t[i]? = some b) : E94.valOf (t.take (i + 1)) = 10 * E94.valOf (t.take i) + (b - 48) := by
  rw [take_more h, E94.valOf_snoc]
theorem readWhole_bad {t : List Nat} {i b : Nat} (h : t[i]? = some b) (hb : E94.isDig b = false) : E94.readWhole t = none := by
  unfold E94.readWhole
  split
  · rfl
  · rw [if_neg]
    intro q
    rw [List.all_eq_true] at q
    rw [q b (List.mem_of_getElem? h)] at hb
    cases hb
theorem ok_read_whole {f fD : Addr} {fd fdD : FuncData} {k : Nat} {tz tn : Tok} (F : Fun K "read_whole" "read_whole" s_read_whole f fd) (FD : Fun K "is_digit" "is_digit" s_is_digit fD fdD) (bD : Binds K fdD ["byte"] []) (gD : mg "is_digit" = some (.ref fD)) (gZ : mg "ZERO" = some (.int 48 tz)) (gN : mg "NINE" = some (.int 57 tn)) (mlen : mg "len" = none) :
    FnOk P w K mg base CX0 (k + 2) f fd ["text"] (sp_read_whole K) := by
  have GD : FnOk P w K mg base CX0 (k + 1) fD fdD ["byte"] sp_is_digit := ok_is_digit FD gZ gN
  refine F.ok sc_read_whole (fun vs H Q E h => ?_) (fun cdv A outer s H vs Q E hr h => ?_)
  · obtain ⟨a, t, rfl, _⟩ := h
    rfl
  · obtain ⟨a, t, rfl, hA, q⟩ := h
    refine ⟨_, pss_cons (ps_if (PW.pt (pw_or (pt_cmpR (op_eqD hr.units) (pv 0) (pe_lst pa_nil) (nomark _)) (pw_or1 (PW.pt (pw_and (pt_cmpR op_eq (pe_ix ix_list (pv 0) pe_int (fun _ _ => rfl)) (pe_glob (v := .int 48) (by rfl) gZ ⟨_, rfl⟩) (nomark _)) (pw_and1 (pt_cmpR op_gt (pe_callB call_len_seq (by rfl) mlen PySem.boot_len (pa_cons (pv 0) pa_nil)) pe_int (nomark _))))))))
        (pss_one (ps_ret pe_non)) pss_nil)
      (pss_cons (ps_set (i := 1) sc_read_whole.nd rfl (.inl rfl) pe_int)
      (pss_cons (ps_for PassesOwn.never rfl (pi_list (pv 0)) (pg_name (i := 2) sc_read_whole.nd rfl (.inl rfl))
        (pss_cons (ps_if (pt_not (pt_val (pe_call GD hr (by rfl) gD FD.kp bD .nil pass0 (pa_cons (pv 2) pa_nil)))) (pss_one (ps_ret pe_non)) pss_nil)
        (pss_one (ps_set (i := 1) sc_read_whole.nd rfl (.inl rfl) (pe_op op_sub (pe_op op_add (pe_op op_mul (pv 1) pe_int) (pv 2)) (pe_glob (v := .int 48) (by rfl) gZ ⟨_, rfl⟩))))))
      (pss_one (ps_ret (pv 1))))), ?_⟩
    refine ⟨_, rfl, Nat.zero_le _, fun l nl => ?_⟩
    have s1 := same_upd (o := .lst []) nl
    refine ⟨_, _, row_dp (s1.seq hA), .lst (SqL.of upd_same) .nil, shaped_row _, shaped_nil, _, rfl, ?_⟩
    rw [eqv_nil]
    by_cases t0 : t = []
    · subst t0
      refine iteT ?_
      exact iteT (q _ s1)
    · have e0 : ((ofN t).map PyData.int) ≠ [] := fun z => t0 (List.map_eq_nil_iff.mp (List.map_eq_nil_iff.mp z))
      rw [decide_eq_false e0]
      refine iteF ?_
      obtain ⟨c, r, rfl⟩ : ∃ c r, t = c :: r := by
        cases t with
        | nil => exact absurd rfl t0
        | cons c r => exact ⟨c, r, rfl⟩
      -- behind the test
      have go : ¬ (c = 48 ∧ 1 < (c :: r).length) → (tSeq (tAsg (tC (.int 0)) (gName 1)) (tSeq (tFor (iList K (tVar 0)) (gName 2) (tSeq (tIfS (tNot (tB (tCall sp_is_digit [] E0 (tCons (tVar 2) tNil)))) (tRet (tC .non)) tNext) (tAsg (tOp (rI0 fun i j => .int (i - j)) (tOp (rI0 fun i j => .int (i + j)) (tOp (rI CMul fun i j => .int (i * j)) (tVar 1) (tC (.int 10))) (tVar 2)) (tC (.int 48))) (gName 1)))) (tRet (tVar 1)))) { nx := fun _ H' => Q .non H', rt := Q } (start ["text", "value", "byte"] [.ref a]) (upd H l (.lst [])) := by
        intro hc
        have hlead : ¬ ((c :: r) = [] ∨ ((c :: r).headD 0 = 48 ∧ 1 < (c :: r).length)) := by
          rintro (h | h)
          · cases h
          · exact hc h
        refine ⟨_, rfl, a, rfl, ⟨_, s1.seq hA⟩, for_list (K := K) (a := a) (xs := (ofN (c :: r)).map V.int) (fun i σ H2 => H2 = upd H l (.lst []) ∧ ((c :: r).take i).all E94.isDig = true ∧ ∃ y, σ = [some (.ref a), some (.int (E94.valOf ((c :: r).take i) : Nat)), y]) ⟨rfl, rfl, none, rfl⟩ (fun i σ H2 _ h => by rw [h.1]; exact s1.seq hA) ?_ ?_⟩
        · rintro i x σ H2 hx ⟨rfl, hall, y, rfl⟩
          obtain ⟨b, hb, rfl⟩ := get_nat hx
          refine ⟨_, rfl, b, rfl, _, rfl, ?_⟩
          cases hd : E94.isDig b with
          | false =>
            have := q _ s1
            rw [readWhole_bad hb hd] at this
            exact iteT this
          | true =>
            refine iteF ?_
            have h48 := E94.isDig_iff.mp hd
            refine ⟨_, rfl, _, _, rfl, rfl, .inr ⟨by decide, by decide⟩, _, rfl, _, _, rfl, rfl, _, _, rfl, rfl, rfl, ?_, some (.int (b : Int)), ?_⟩
            · rw [take_more hb, List.all_append, hall]
              simp [hd]
            · rw [valOf_take hb]
              have : ((E94.valOf ((c :: r).take i) : Nat) : Int) * 10 + (b : Int) - 48 = ((10 * E94.valOf ((c :: r).take i) + (b - 48) : Nat) : Int) := by omega
              show [some (V.ref a), some (V.int (((E94.valOf ((c :: r).take i) : Nat) : Int) * 10 + (b : Int) - 48)), some (V.int (b : Int))] = _
              rw [this]
        · rintro σ H2 ⟨rfl, hall, y, rfl⟩
          rw [List.length_map, ofN_len, List.take_length] at hall ⊢
          have := q _ s1
          unfold E94.readWhole at this
          rw [if_neg hlead, if_pos hall] at this
          exact ⟨_, rfl, this⟩
      refine ⟨_, rfl, a, _, 0, _, rfl, rfl, s1.seq hA, atI_nat (j := 0) rfl, rfl, _, rfl, ite2 (fun e => ?_) (fun e => ?_)⟩
      · have c48 : c = 48 := by
          have : ((c : Nat) : Int) = 48 := V.int.inj (of_decide_eq_true e)
          omega
        refine ⟨_, rfl, a, _, rfl, .inl (s1.seq hA), _, _, rfl, rfl, _, rfl, ite2 (fun e2 => ?_) (fun e2 => ?_)⟩
        · have hl : 1 < (c :: r).length := by
            have : (1 : Int) < (((ofN (c :: r)).map V.int).length : Int) := of_decide_eq_true e2
            rw [List.length_map, ofN_len] at this
            omega
          have := q _ s1
          unfold E94.readWhole at this
          rw [if_pos (.inr ⟨c48, hl⟩)] at this
          exact this
        · refine go fun hc => e2 (decide_eq_true ?_)
          rw [List.length_map, ofN_len]
          omega
      · refine go fun hc => e (decide_eq_true ?_)
        rw [hc.1]
        rfl
end
end E94H
set_option Elab.async false
set_option linter.all false
set_option maxRecDepth 100000
set_option maxHeartbeats 2000000
namespace E94H
open PySem PySem.Spec PyProof.Rows L2
section
variable {P : Program} {w : World} {K : PySem.W.Frag} {mg : Str → Option Value} {base : Heap}
theorem Trk.sq {H : Hp} {vs : List V} {cs : List (List Nat)} {i : Nat} {v : V} (h : Trk H vs cs) (e : vs[i]? = some v) : ∃ r c, cs[i]? = some c ∧ v = .ref r ∧ SqL K H r ((ofN c).map V.int) := by
  obtain ⟨r, c, h1, h2, h3⟩ := h.get e
  exact ⟨r, c, h1, h2, SqL.of h3⟩
/-! ### read_number -/
theorem sc_read_number : FnScope ["text", "parts", "piece"] ["text"] (defScope s_read_number) := ⟨rfl, rfl, rfl, by decide +kernel, rfl, by decide +kernel, by decide +kernel⟩
/-- a pair of numbers, new, or None -/
def PairOut (H H' : Hp) (o : Option (Nat × Nat)) (v : V) : Prop := match o with
  | none => v = .non
  | some n => ∃ p, v = .ref p ∧ H p = none ∧ H' p = some (.tup [.int (n.1 : Int), .int (n.2 : Int)])
def sp_read_number (K : PySem.W.Frag) : Sp := fun vs H Q _ => ∃ (a : Addr) (t : List Nat), vs = [.ref a] ∧ SqL K H a ((ofN t).map V.int) ∧ t.length ≤ 1000 ∧ ∀ H' v, Same H H' → PairOut H H' (E94.readNumberM t) v → Q v H'
theorem oI_flat (l : List (Option Nat)) : (l.map oI).all flatV = true := by
  rw [List.all_map, List.all_eq_true]
  intro x _
  cases x <;> rfl
theorem oI_none (l : List (Option Nat)) : inV .non (l.map oI) = decide (none ∈ l) := by
  unfold inV
  rw [List.any_map]
  induction l with
  | nil => rfl
  | cons x l ih =>
    rw [List.any_cons, ih]
    cases x with
    | none =>
      have : (none ∈ (none : Option Nat) :: l) := List.mem_cons_self ..
      rw [decide_eq_true this]
      rfl
    | some n =>
      show (false || decide (none ∈ l)) = _
      rw [Bool.false_or]
      exact decide_eq_decide.mpr ⟨fun h => List.mem_cons_of_mem _ h, fun h => by
        rcases List.mem_cons.mp h with h | h
        · cases h
        · exact h⟩
theorem ok_read_number {f fB fW fD fG : Addr} {fd fdB fdW fdD fdG : FuncData} {k : Nat} {tz tn ts : Tok} (F : Fun K "read_number" "read_number" s_read_number f fd)
    (FB : Fun K "pieces_between" "pieces_between" s_pieces_between fB fdB) (bB : Binds K fdB ["text", "separator"] []) (gB : mg "pieces_between" = some (.ref fB))
    (FW : Fun K "read_whole" "read_whole" s_read_whole fW fdW) (bW : Binds K fdW ["text"] []) (gW : mg "read_whole" = some (.ref fW))
    (FD : Fun K "is_digit" "is_digit" s_is_digit fD fdD) (bD : Binds K fdD ["byte"] []) (gD : mg "is_digit" = some (.ref fD))
    (FG : Fun K "common_divisor" "common_divisor" s_common_divisor fG fdG) (bG : Binds K fdG ["one", "other"] []) (gG : mg "common_divisor" = some (.ref fG))
    (gZ : mg "ZERO" = some (.int 48 tz)) (gN : mg "NINE" = some (.int 57 tn)) (gS : mg "SLASH" = some (.int 47 ts)) (mlen : mg "len" = none) (mabs : mg "abs" = none) :
    FnOk P w K mg base CX0 (k + 3) f fd ["text"] (sp_read_number K) := by
  have GW : FnOk P w K mg base CX0 (k + 2) fW fdW ["text"] (sp_read_whole K) := ok_read_whole FW FD bD gD gZ gN mlen
  have GB : FnOk P w K mg base CX0 (k + 1) fB fdB ["text", "separator"] (sp_pieces_between K) := ok_pieces_between FB
  have GG : FnOk P w K mg base CX0 (k + 1) fG fdG ["one", "other"] sp_common_divisor := ok_common_divisor FG mabs
  refine F.ok sc_read_number (fun vs H Q E h => ?_) (fun cdv A outer s H vs Q E hr h => ?_)
  · obtain ⟨a, t, rfl, _⟩ := h
    rfl
  · obtain ⟨a, t, rfl, hA, hlen, q⟩ := h
    have hr1 : Room (k + 1) _ := hr.mono (by omega)
    refine ⟨_, pss_cons (ps_setLc (i := 1) (own := [("piece", 2)]) (g := gName 2) (tt := tYes) (by rfl) sc_read_number.nd rfl rfl (sw_true rfl rfl rfl (by decide +kernel)) (pi_list (pe_call GB hr1 (by rfl) gB FB.kp bB .nil pass0 (pa_cons (pv 0) (pa_cons (pe_glob (v := .int 47) (by rfl) gS ⟨_, rfl⟩) pa_nil)))) (blkOk_by (own := [("piece", 2)]) (N := ["text", "parts", "piece"]) (sc := defScope s_read_number) (by decide +kernel))
        (fun _ _ _ _ _ => pg_name (i := 2) sc_read_number.nd rfl (.inl rfl)) (fun _ _ _ _ _ => pts_nil) (fun _ _ _ _ _ => pe_call GW hr (by rfl) gW FW.kp bW .nil pass0 (pa_cons (pv 2) pa_nil)))
      (pss_cons (ps_if (PW.pt (pw_or (pt_cmpR op_in_seq pe_non (pv 1) rfl) (pw_or1 (pt_cmpR op_gt (pe_callB call_len_seq (by rfl) mlen PySem.boot_len (pa_cons (pv 1) pa_nil)) pe_int (nomark _))))) (pss_one (ps_ret pe_non)) pss_nil)
      (pss_cons (ps_if (pt_cmpR op_eq (pe_callB call_len_seq (by rfl) mlen PySem.boot_len (pa_cons (pv 1) pa_nil)) pe_int (nomark _)) (pss_one (ps_ret (pe_tup (pa_cons (pe_ix ix_list (pv 1) pe_int (fun _ _ => rfl)) (pa_cons pe_int pa_nil))))) pss_nil)
      (pss_cons (ps_if (PW.pt (pw_or (pt_cmpR op_le (pe_ix ix_list (pv 1) pe_int (fun _ _ => rfl)) pe_int (nomark _)) (pw_or1 (pt_cmpR op_gt (pe_call GG hr1 (by rfl) gG FG.kp bG .nil pass0 (pa_cons (pe_ix ix_list (pv 1) pe_int (fun _ _ => rfl)) (pa_cons (pe_ix ix_list (pv 1) pe_int (fun _ _ => rfl)) pa_nil))) pe_int (nomark _))))) (pss_one (ps_ret pe_non)) pss_nil)
      (pss_one (ps_ret (pe_tup (pa_cons (pe_ix ix_list (pv 1) pe_int (fun _ _ => rfl)) (pa_cons (pe_ix ix_list (pv 1) pe_int (fun _ _ => rfl)) pa_nil)))))))), ?_⟩
    refine ⟨_, rfl, a, t, 47, rfl, hA, hlen, fun H2 p vs sm np hp hT => ?_⟩
    refine ⟨p, rfl, ⟨_, SqL.of hp⟩, fun D hD => lc_list (K := K) (a := p) (xs := vs) (fun i H3 => Same H2 H3 ∧ H3 D = some (.lst ((((sp1 47 t).take i).map E94.readWhole).map oI))) ⟨same_upd hD, upd_same⟩ (fun i H3 _ h => SqL.of (h.1 _ _ hp)) ?_ ?_⟩
    · rintro i x H3 hx ⟨sm3, hd⟩
      obtain ⟨r, c, hc, rfl, hr3⟩ := hT.get hx
      refine ⟨rfl, ?_⟩
      refine ⟨_, rfl, r, c, rfl, SqL.of (sm3 _ _ hr3), fun H4 sm4 => ?_⟩
      refine ⟨_, sm4 _ _ hd, ?_, fun b0 o0 e0 => ?_, ?_⟩
      · rw [List.length_map, List.length_map, List.length_take]
        have := split_len 47 t
        exact Nat.lt_of_le_of_lt (Nat.le_trans (Nat.min_le_right _ _) (show (sp1 47 t).length ≤ 1001 by omega)) (by decide)
      · rw [upd_ne (ne_of_none e0 hD)]
        exact sm4 _ _ (sm3 _ _ e0)
      · rw [upd_same, take_more hc, List.map_append, List.map_append]
        rfl
    · rintro H3 ⟨sm3, hd⟩
      rw [hT.len, List.take_length] at hd
      have s03 : Same H H3 := sm.trans sm3
      have hq : E94.readNumberM t = match (sp1 47 t).map E94.readWhole with
        | [some a] => some (a, 1)
        | [some a, some b] => if b ≤ 1 ∨ 1 < Nat.gcd a b then none else some (a, b)
        | _ => none := rfl
      have hne : (sp1 47 t).map E94.readWhole ≠ [] := fun z => E94.split_ne 47 t (List.map_eq_nil_iff.mp z)
      generalize (sp1 47 t).map E94.readWhole = M at hd hq hne
      refine ⟨_, rfl, D, _, rfl, .inl (SqL.of hd), rfl, oI_flat M, _, rfl, ?_⟩
      rw [if_neg Bool.false_ne_true, oI_none]
      have none_out : E94.readNumberM t = none → Q .non H3 := fun h => q H3 .non s03 (by rw [h]; rfl)
      refine ite2 (fun e => ?_) (fun e => ?_)
      · have hm : none ∈ M := of_decide_eq_true e
        refine iteT (none_out ?_)
        rw [hq]
        split
        · rename_i a0
          rcases List.mem_cons.mp hm with h | h
          · cases h
          · cases h
        · rcases List.mem_cons.mp hm with h | h
          · cases h
          · rcases List.mem_cons.mp h with h | h
            · cases h
            · cases h
        · rfl
      · have hm : none ∉ M := fun z => e (decide_eq_true z)
        refine ⟨_, rfl, D, _, rfl, .inl (SqL.of hd), _, _, rfl, rfl, _, rfl, ?_⟩
        match M, hne, hm, hd, hq with
        | [], hne, _, _, _ => exact absurd rfl hne
        | [none], _, hm, _, _ => exact absurd (List.mem_cons_self ..) hm
        | [some n], _, hm, hd, hq =>
          refine iteF ?_
          refine ⟨_, rfl, D, _, rfl, .inl (SqL.of hd), rfl, _, rfl, ?_⟩
          refine iteT ?_
          refine ⟨_, rfl, D, _, 0, _, rfl, rfl, SqL.of hd, atI_nat (j := 0) rfl, by show 2 ≤ sizeLine; decide, fun u nu => ?_⟩
          refine q _ (.ref u) (s03.trans (same_upd nu)) ?_
          rw [hq]
          exact ⟨u, rfl, s03.free nu, upd_same⟩
        | none :: y :: r, _, hm, _, _ => exact absurd (List.mem_cons_self ..) hm
        | some n :: none :: r, _, hm, _, _ => exact absurd (List.mem_cons_of_mem _ (List.mem_cons_self ..)) hm
        | [some n, some m], _, hm, hd, hq =>
          refine iteF ?_
          refine ⟨_, rfl, D, _, rfl, .inl (SqL.of hd), rfl, _, rfl, ?_⟩
          refine iteF ?_
          have fin : ¬ (m ≤ 1 ∨ 1 < Nat.gcd n m) → (tRet (tTup (tCons (tOp (rIxL K) (tVar 1) (tC (.int 0))) (tCons (tOp (rIxL K) (tVar 1) (tC (.int 1))) tNil)))) { nx := fun _ H' => Q .non H', rt := Q } [some (.ref a), some (.ref D), none] H3 := fun hc => by
            refine ⟨_, rfl, D, _, 0, _, rfl, rfl, SqL.of hd, atI_nat (j := 0) rfl, _, rfl, D, _, 1, _, rfl, rfl, SqL.of hd, atI_nat (j := 1) rfl, by show 2 ≤ sizeLine; decide, fun u nu => ?_⟩
            refine q _ (.ref u) (s03.trans (same_upd nu)) ?_
            rw [hq]
            show PairOut H _ (if m ≤ 1 ∨ 1 < Nat.gcd n m then none else some (n, m)) (.ref u)
            rw [if_neg hc]
            exact ⟨u, rfl, s03.free nu, upd_same⟩
          have bad : (m ≤ 1 ∨ 1 < Nat.gcd n m) → Q .non H3 := fun hc => none_out (by
            rw [hq]
            show (if m ≤ 1 ∨ 1 < Nat.gcd n m then none else some (n, m)) = none
            rw [if_pos hc])
          refine ⟨_, rfl, D, _, 1, _, rfl, rfl, SqL.of hd, atI_nat (j := 1) rfl, _, _, rfl, rfl, _, rfl, ite2 (fun e1 => ?_) (fun e1 => ?_)⟩
          · have : (m : Int) ≤ 1 := of_decide_eq_true e1
            exact iteT (bad (.inl (by omega)))
          · have h1 : ¬ (m : Int) ≤ 1 := fun z => e1 (decide_eq_true z)
            refine ⟨_, rfl, D, _, 0, _, rfl, rfl, SqL.of hd, atI_nat (j := 0) rfl, _, rfl, D, _, 1, _, rfl, rfl, SqL.of hd, atI_nat (j := 1) rfl, n, m, rfl, _, _, rfl, rfl, _, rfl, ite2 (fun e2 => ?_) (fun e2 => ?_)⟩
            · have h2 : (1 : Int) < ((Nat.gcd n m : Nat) : Int) := of_decide_eq_true e2
              exact bad (.inr (by omega))
            · have h2 : ¬ (1 : Int) < ((Nat.gcd n m : Nat) : Int) := fun z => e2 (decide_eq_true z)
              exact fin (by omega)
        | some n :: some m :: y :: r, _, hm, hd, hq =>
          have hl : (2 : Int) < ((((some n :: some m :: y :: r).map oI).length : Nat) : Int) := by
            simp only [List.map_cons, List.length_cons]
            omega
          rw [decide_eq_true hl]
          refine iteT (none_out ?_)
          rw [hq]
end
end E94H
set_option Elab.async false
set_option linter.all false
set_option maxRecDepth 100000
set_option maxHeartbeats 2000000
namespace E94H
open PySem PySem.Spec PyProof.Rows L2
section
variable {P : Program} {w : World} {K : PySem.W.Frag} {mg : Str → Option Value} {base : Heap}
/-! ### read_power -/
theorem sc_read_power : FnScope ["text", "parts", "byte", "often"] ["text"] (defScope s_read_power) := ⟨rfl, rfl, rfl, by decide +kernel, rfl, by decide +kernel, by decide +kernel⟩
def sp_read_power (K : PySem.W.Frag) : Sp := fun vs H Q _ => ∃ (a : Addr) (t : List Nat), vs = [.ref a] ∧ SqL K H a ((ofN t).map V.int) ∧ t.length ≤ 1000 ∧ ∀ H' v, Same H H' → PairOut H H' (E94.readPowerM t) v → Q v H'
theorem readPowerM_is (t : List Nat) : E94.readPowerM t = match sp1 94 t with
  | [[c]] => if c < 97 ∨ 122 < c then none else some (c - 97, 1)
  | [[c], e] => if c < 97 ∨ 122 < c then none else (match E94.readWhole e with
    | none => none
    | some n => if n ≤ 1 then none else some (c - 97, n))
  | _ => none := rfl
theorem ok_read_power {f fB fW fD : Addr} {fd fdB fdW fdD : FuncData} {k : Nat} {tz tn tc ta tl : Tok} (F : Fun K "read_power" "read_power" s_read_power f fd)
    (FB : Fun K "pieces_between" "pieces_between" s_pieces_between fB fdB) (bB : Binds K fdB ["text", "separator"] []) (gB : mg "pieces_between" = some (.ref fB))
    (FW : Fun K "read_whole" "read_whole" s_read_whole fW fdW) (bW : Binds K fdW ["text"] []) (gW : mg "read_whole" = some (.ref fW))
    (FD : Fun K "is_digit" "is_digit" s_is_digit fD fdD) (bD : Binds K fdD ["byte"] []) (gD : mg "is_digit" = some (.ref fD))
    (gZ : mg "ZERO" = some (.int 48 tz)) (gN : mg "NINE" = some (.int 57 tn)) (gC : mg "CARET" = some (.int 94 tc)) (gA : mg "SMALL_A" = some (.int 97 ta)) (gL : mg "SMALL_Z" = some (.int 122 tl)) (mlen : mg "len" = none) :
    FnOk P w K mg base CX0 (k + 3) f fd ["text"] (sp_read_power K) := by
  have GW : FnOk P w K mg base CX0 (k + 2) fW fdW ["text"] (sp_read_whole K) := ok_read_whole FW FD bD gD gZ gN mlen
  have GB : FnOk P w K mg base CX0 (k + 1) fB fdB ["text", "separator"] (sp_pieces_between K) := ok_pieces_between FB
  refine F.ok sc_read_power (fun vs H Q E h => ?_) (fun cdv A outer s H vs Q E hr h => ?_)
  · obtain ⟨a, t, rfl, _⟩ := h
    rfl
  · obtain ⟨a, t, rfl, hA, hlen, q⟩ := h
    have hr1 : Room (k + 1) _ := hr.mono (by omega)
    refine ⟨_, pss_cons (ps_set (i := 1) sc_read_power.nd rfl (.inl rfl) (pe_call GB hr1 (by rfl) gB FB.kp bB .nil pass0 (pa_cons (pv 0) (pa_cons (pe_glob (v := .int 94) (by rfl) gC ⟨_, rfl⟩) pa_nil))))
      (pss_cons (ps_if (PW.pt (pw_or (pt_cmpR op_gt (pe_callB call_len_seq (by rfl) mlen PySem.boot_len (pa_cons (pv 1) pa_nil)) pe_int (nomark _)) (pw_or1 (pt_cmpR op_ne (pe_callB call_len_seq (by rfl) mlen PySem.boot_len (pa_cons (pe_ix ix_list (pv 1) pe_int (fun _ _ => rfl)) pa_nil)) pe_int (nomark _))))) (pss_one (ps_ret pe_non)) pss_nil)
      (pss_cons (ps_set (i := 2) sc_read_power.nd rfl (.inl rfl) (pe_ix ix_list (pe_ix ix_list (pv 1) pe_int (fun _ _ => rfl)) pe_int (fun _ _ => rfl)))
      (pss_cons (ps_if (PW.pt (pw_or (pt_cmpR op_lt (pv 2) (pe_glob (v := .int 97) (by rfl) gA ⟨_, rfl⟩) (nomark _)) (pw_or1 (pt_cmpR op_gt (pv 2) (pe_glob (v := .int 122) (by rfl) gL ⟨_, rfl⟩) (nomark _))))) (pss_one (ps_ret pe_non)) pss_nil)
      (pss_cons (ps_if (pt_cmpR op_eq (pe_callB call_len_seq (by rfl) mlen PySem.boot_len (pa_cons (pv 1) pa_nil)) pe_int (nomark _)) (pss_one (ps_ret (pe_tup (pa_cons (pe_op op_sub (pv 2) (pe_glob (v := .int 97) (by rfl) gA ⟨_, rfl⟩)) (pa_cons pe_int pa_nil))))) pss_nil)
      (pss_cons (ps_set (i := 3) sc_read_power.nd rfl (.inl rfl) (pe_call GW hr (by rfl) gW FW.kp bW .nil pass0 (pa_cons (pe_ix ix_list (pv 1) pe_int (fun _ _ => rfl)) pa_nil)))
      (pss_cons (ps_if (PW.pt (pw_or (pt_cmp (pc_isN (pv 3))) (pw_or1 (pt_cmpR op_le (pv 3) pe_int (nomark _))))) (pss_one (ps_ret pe_non)) pss_nil)
      (pss_one (ps_ret (pe_tup (pa_cons (pe_op op_sub (pv 2) (pe_glob (v := .int 97) (by rfl) gA ⟨_, rfl⟩)) (pa_cons (pv 3) pa_nil))))))))))), ?_⟩
    refine ⟨_, rfl, a, t, 94, rfl, hA, hlen, fun H2 p vs sm np hp hT => ?_⟩
    have hq := readPowerM_is t
    have hne : sp1 94 t ≠ [] := E94.split_ne 94 t
    generalize sp1 94 t = S at hT hq hne
    have none_out : E94.readPowerM t = none → Q .non H2 := fun h => q H2 .non sm (by rw [h]; rfl)
    obtain ⟨us, e0⟩ : ∃ us, vs = us := ⟨_, rfl⟩
    match S, vs, hT, hq, hne with
    | [], _, _, _, hne => exact absurd rfl hne
    | _ :: _, [], hT, _, _ => exact hT.elim
    | [_], _ :: _ :: _, hT, _, _ => exact hT.2.elim
    | _ :: _ :: _, [_], hT, _, _ => exact hT.2.elim
    | [_, _], _ :: _ :: _ :: _, hT, _, _ => exact hT.2.2.elim
    | _ :: _ :: _ :: _, [_, _], hT, _, _ => exact hT.2.2.elim
    | v1 :: v2 :: v3 :: vr, x1 :: x2 :: x3 :: xr, hT, hq, _ =>
      refine ⟨_, rfl, p, _, rfl, .inl (SqL.of hp), _, _, rfl, rfl, _, rfl, ?_⟩
      have hl : (2 : Int) < (((x1 :: x2 :: x3 :: xr).length : Nat) : Int) := by simp only [List.length_cons]; omega
      rw [decide_eq_true hl]
      refine iteT (iteT (none_out ?_))
      rw [hq]
      cases v1 with
      | nil => rfl
      | cons c r => cases r <;> rfl
    | [v1], [x1], hT, hq, _ =>
      obtain ⟨⟨r1, rfl, h1⟩, _⟩ := hT
      refine ⟨_, rfl, p, _, rfl, .inl (SqL.of hp), _, _, rfl, rfl, _, rfl, iteF ?_⟩
      refine ⟨_, rfl, p, _, 0, _, rfl, rfl, SqL.of hp, atI_nat (j := 0) rfl, r1, _, rfl, .inl (SqL.of h1), rfl, _, rfl, ?_⟩
      match v1, h1, hq with
      | [], h1, hq => exact iteT (none_out (by rw [hq]))
      | c1 :: c2 :: cr, h1, hq =>
        have hl : ¬ (V.int ((((ofN (c1 :: c2 :: cr)).map V.int).length : Nat) : Int) = V.int 1) := fun z => by
          have := V.int.inj z
          rw [List.length_map, ofN_len] at this
          simp only [List.length_cons] at this
          omega
        rw [decide_eq_false hl]
        exact iteT (none_out (by rw [hq]))
      | [c], h1, hq =>
        refine iteF ?_
        refine ⟨_, rfl, p, _, 0, _, rfl, rfl, SqL.of hp, atI_nat (j := 0) rfl, r1, _, 0, _, rfl, rfl, SqL.of h1, atI_nat (j := 0) rfl, ?_⟩
        have bad : (c < 97 ∨ 122 < c) → Q .non H2 := fun hc => none_out (by
          rw [hq]
          show (if c < 97 ∨ 122 < c then none else some (c - 97, 1)) = none
          rw [if_pos hc])
        refine ⟨_, rfl, _, _, rfl, rfl, _, rfl, ite2 (fun e1 => ?_) (fun e1 => ?_)⟩
        · have : (c : Int) < 97 := of_decide_eq_true e1
          exact iteT (bad (.inl (by omega)))
        · have h97 : ¬ (c : Int) < 97 := fun z => e1 (decide_eq_true z)
          refine ⟨_, rfl, _, _, rfl, rfl, _, rfl, ite2 (fun e2 => ?_) (fun e2 => ?_)⟩
          · have : (122 : Int) < (c : Int) := of_decide_eq_true e2
            exact bad (.inr (by omega))
          · have h122 : ¬ (122 : Int) < (c : Int) := fun z => e2 (decide_eq_true z)
            refine ⟨_, rfl, p, _, rfl, .inl (SqL.of hp), rfl, _, rfl, iteT ?_⟩
            refine ⟨_, rfl, _, _, rfl, rfl, by show 2 ≤ sizeLine; decide, fun u nu => ?_⟩
            refine q _ (.ref u) (sm.trans (same_upd nu)) ?_
            rw [hq]
            show PairOut H _ (if c < 97 ∨ 122 < c then none else some (c - 97, 1)) (.ref u)
            rw [if_neg (by omega)]
            refine ⟨u, rfl, sm.free nu, ?_⟩
            rw [upd_same]
            have : ((c : Nat) : Int) - 97 = ((c - 97 : Nat) : Int) := by omega
            show some (HO.tup [.int (((c : Nat) : Int) - 97), .int 1]) = _
            rw [this]
            rfl
    | [v1, v2], [x1, x2], hT, hq, _ =>
      obtain ⟨⟨r1, rfl, h1⟩, ⟨r2, rfl, h2⟩, _⟩ := hT
      refine ⟨_, rfl, p, _, rfl, .inl (SqL.of hp), _, _, rfl, rfl, _, rfl, iteF ?_⟩
      refine ⟨_, rfl, p, _, 0, _, rfl, rfl, SqL.of hp, atI_nat (j := 0) rfl, r1, _, rfl, .inl (SqL.of h1), rfl, _, rfl, ?_⟩
      match v1, h1, hq with
      | [], h1, hq => exact iteT (none_out (by rw [hq]))
      | c1 :: c2 :: cr, h1, hq =>
        have hl : ¬ (V.int ((((ofN (c1 :: c2 :: cr)).map V.int).length : Nat) : Int) = V.int 1) := fun z => by
          have := V.int.inj z
          rw [List.length_map, ofN_len] at this
          simp only [List.length_cons] at this
          omega
        rw [decide_eq_false hl]
        exact iteT (none_out (by rw [hq]))
      | [c], h1, hq =>
        refine iteF ?_
        refine ⟨_, rfl, p, _, 0, _, rfl, rfl, SqL.of hp, atI_nat (j := 0) rfl, r1, _, 0, _, rfl, rfl, SqL.of h1, atI_nat (j := 0) rfl, ?_⟩
        have bad : (c < 97 ∨ 122 < c) → Q .non H2 := fun hc => none_out (by
          rw [hq]
          show (if c < 97 ∨ 122 < c then none else _) = none
          rw [if_pos hc])
        refine ⟨_, rfl, _, _, rfl, rfl, _, rfl, ite2 (fun e1 => ?_) (fun e1 => ?_)⟩
        · have : (c : Int) < 97 := of_decide_eq_true e1
          exact iteT (bad (.inl (by omega)))
        · have h97 : ¬ (c : Int) < 97 := fun z => e1 (decide_eq_true z)
          refine ⟨_, rfl, _, _, rfl, rfl, _, rfl, ite2 (fun e2 => ?_) (fun e2 => ?_)⟩
          · have : (122 : Int) < (c : Int) := of_decide_eq_true e2
            exact bad (.inr (by omega))
          · have h122 : ¬ (122 : Int) < (c : Int) := fun z => e2 (decide_eq_true z)
            have hq2 : E94.readPowerM t = (match E94.readWhole v2 with | none => none | some n => if n ≤ 1 then none else some (c - 97, n)) := by
              rw [hq]
              show (if c < 97 ∨ 122 < c then none else _) = _
              rw [if_neg (by omega)]
            refine ⟨_, rfl, p, _, rfl, .inl (SqL.of hp), rfl, _, rfl, iteF ?_⟩
            refine ⟨_, rfl, p, _, 1, _, rfl, rfl, SqL.of hp, atI_nat (j := 1) rfl, r2, v2, rfl, SqL.of h2, fun H3 sm3 => ?_⟩
            have s03 := sm.trans sm3
            cases hw : E94.readWhole v2 with
            | none =>
              refine ⟨_, rfl, _, rfl, iteT (iteT ?_)⟩
              exact q H3 .non s03 (by rw [hq2, hw]; rfl)
            | some n =>
              rw [hw] at hq2
              refine ⟨_, rfl, _, rfl, iteF ?_⟩
              refine ⟨_, rfl, _, _, rfl, rfl, _, rfl, ite2 (fun e3 => ?_) (fun e3 => ?_)⟩
              · have : (n : Int) ≤ 1 := of_decide_eq_true e3
                exact q H3 .non s03 (by
                  rw [hq2]
                  show PairOut H H3 (if n ≤ 1 then none else some (c - 97, n)) .non
                  rw [if_pos (by omega)]
                  rfl)
              · have h1' : ¬ (n : Int) ≤ 1 := fun z => e3 (decide_eq_true z)
                refine ⟨_, rfl, _, _, rfl, rfl, _, rfl, by show 2 ≤ sizeLine; decide, fun u nu => ?_⟩
                refine q _ (.ref u) (s03.trans (same_upd nu)) ?_
                rw [hq2]
                show PairOut H _ (if n ≤ 1 then none else some (c - 97, n)) (.ref u)
                rw [if_neg (by omega)]
                refine ⟨u, rfl, s03.free nu, ?_⟩
                rw [upd_same]
                have : ((c : Nat) : Int) - 97 = ((c - 97 : Nat) : Int) := by omega
                show some (HO.tup [.int (((c : Nat) : Int) - 97), .int (n : Int)]) = _
                rw [this]
/-! ### read_product -/
theorem sc_read_product : FnScope ["factors", "counts", "before", "factor", "power"] ["factors"] (defScope s_read_product) := ⟨rfl, rfl, rfl, by decide +kernel, rfl, by decide +kernel, by decide +kernel⟩
abbrev dWords (ws : List (List Nat)) : PyData := .list (ws.map fun t => dRow (ofN t))
/-- a product, or None -/
def ProdOut (K : PySem.W.Frag) (H' : Hp) (o : Option (List Nat)) (v : V) : Prop := match o with
  | none => v = .non
  | some c => ∃ p, v = .ref p ∧ SqT K H' p ((tupC c).map V.int)
def sp_read_product (K : PySem.W.Frag) : Sp := fun vs H Q _ => ∃ (v : V) (ws : List (List Nat)), vs = [v] ∧ Dp K H v (dWords ws) ∧ (∀ t ∈ ws, t.length ≤ 1000) ∧ ∀ H' v, Same H H' → ProdOut K H' (E94.readProductM ws) v → Q v H'
theorem ixN_nat {n j : Nat} (h : j < n) : ixN n (j : Int) = some j := by
  unfold ixN
  rw [if_pos (by omega)]
  simp [h]
theorem ofN_set (c : List Nat) (j n : Nat) : ((ofN c).map V.int).set j (V.int (n : Int)) = (ofN (c.set j n)).map V.int := by
  unfold ofN
  rw [List.map_map, List.map_map, List.map_set]
  rfl
theorem ok_read_product {f fP fB fW fD fO : Addr} {fd fdP fdB fdW fdD fdO : FuncData} {k : Nat} {tz tn tc ta tl tk : Tok} (F : Fun K "read_product" "read_product" s_read_product f fd)
    (FP : Fun K "read_power" "read_power" s_read_power fP fdP) (bP : Binds K fdP ["text"] []) (gP : mg "read_power" = some (.ref fP))
    (FB : Fun K "pieces_between" "pieces_between" s_pieces_between fB fdB) (bB : Binds K fdB ["text", "separator"] []) (gB : mg "pieces_between" = some (.ref fB))
    (FW : Fun K "read_whole" "read_whole" s_read_whole fW fdW) (bW : Binds K fdW ["text"] []) (gW : mg "read_whole" = some (.ref fW))
    (FD : Fun K "is_digit" "is_digit" s_is_digit fD fdD) (bD : Binds K fdD ["byte"] []) (gD : mg "is_digit" = some (.ref fD))
    (FO : Fun K "product_of" "product_of" s_product_of fO fdO) (bO : Binds K fdO ["counts"] []) (gO : mg "product_of" = some (.ref fO))
    (gZ : mg "ZERO" = some (.int 48 tz)) (gN : mg "NINE" = some (.int 57 tn)) (gC : mg "CARET" = some (.int 94 tc)) (gA : mg "SMALL_A" = some (.int 97 ta)) (gL : mg "SMALL_Z" = some (.int 122 tl)) (gK : mg "LETTER_COUNT" = some (.int 26 tk)) (mlen : mg "len" = none) (msum : mg "sum" = none) (mtup : mg "tuple" = none) :
    FnOk P w K mg base CX0 (k + 4) f fd ["factors"] (sp_read_product K) := by
  have GP : FnOk P w K mg base CX0 (k + 3) fP fdP ["text"] (sp_read_power K) := ok_read_power FP FB bB gB FW bW gW FD bD gD gZ gN gC gA gL mlen
  have GO : FnOk P w K mg base CX0 (k + 1) fO fdO ["counts"] (sp_product_of K) := ok_product_of FO msum mtup
  refine F.ok sc_read_product (fun vs H Q E h => ?_) (fun cdv A outer s H vs Q E hr h => ?_)
  · obtain ⟨v, ws, rfl, _⟩ := h
    rfl
  · obtain ⟨v, ws, rfl, hD, hw, q⟩ := h
    have hr1 : Room (k + 1) _ := hr.mono (by omega)
    cases hD with
    | @lst aF xs _ hA hAll =>
    refine ⟨_, pss_cons (ps_set (i := 1) sc_read_product.nd rfl (.inl rfl) (pe_op op_rep (pe_lst (pa_cons pe_int pa_nil)) (pe_glob (v := .int 26) (by rfl) gK ⟨_, rfl⟩)))
      (pss_cons (ps_set (i := 2) sc_read_product.nd rfl (.inl rfl) (pe_un un_neg pe_int))
      (pss_cons (ps_for PassesOwn.never rfl (pi_list (pv 0)) (pg_name (i := 3) sc_read_product.nd rfl (.inl rfl))
        (pss_cons (ps_set (i := 4) sc_read_product.nd rfl (.inl rfl) (pe_call GP hr (by rfl) gP FP.kp bP .nil pass0 (pa_cons (pv 3) pa_nil)))
        (pss_cons (ps_if (PW.pt (pw_or (pt_cmp (pc_isN (pv 4))) (pw_or1 (pt_cmpR op_le (pe_ix ix_tup (pv 4) pe_int (fun _ _ => rfl)) (pv 2) (nomark _))))) (pss_one (ps_ret pe_non)) pss_nil)
        (pss_cons (ps_set (i := 2) sc_read_product.nd rfl (.inl rfl) (pe_ix ix_tup (pv 4) pe_int (fun _ _ => rfl)))
        (pss_one (ps_asg (pe_ix ix_tup (pv 4) pe_int (fun _ _ => rfl)) (pg_sub (pv 1) (pv 2) set_list)))))))
      (pss_one (ps_ret (pe_call GO hr1 (by rfl) gO FO.kp bO .nil pass0 (pa_cons (pv 1) pa_nil)))))), ?_⟩
    refine ⟨by show 1 ≤ sizeLine; decide, fun l nl => ⟨l, 26, _, rfl, rfl, upd_same, by decide, by decide, by decide, fun c nc => ?_⟩⟩
    have s0 : Same H (upd (upd H l (.lst [.int 0])) c (.lst (List.replicate (26 : Int).toNat [V.int 0]).flatten)) := (same_upd nl).trans (same_upd nc)
    have nHc : H c = none := (same_upd nl).free nc
    refine ⟨_, rfl, _, rfl, aF, rfl, ⟨_, s0.seq hA⟩, for_list (K := K) (a := aF) (xs := xs) (fun i σ H2 => Same H H2 ∧ ∃ (cs : List Nat) (lo : Nat) (y3 y4 : Option V), σ = [some (.ref aF), some (.ref c), some (.int ((lo : Int) - 1)), y3, y4] ∧ H2 c = some (.lst ((ofN cs).map V.int)) ∧ cs.length = 26 ∧ E94.readProductM ws = E94.readFrom lo cs (ws.drop i)) ⟨s0, List.replicate 26 0, 0, none, none, rfl, upd_same, by simp, rfl⟩ (fun i σ H2 _ h => h.1.seq hA) ?_ ?_⟩
    · rintro i x σ H2 hx ⟨sm, cs, lo, y3, y4, rfl, hc, hcl, hrd⟩
      obtain ⟨t, ht, hdp⟩ := dpAll_get (f := fun t => dRow (ofN t)) hAll hx
      obtain ⟨at_, rfl, hSt⟩ := dp_row hdp
      have hi : i < ws.length := by
        rcases Nat.lt_or_ge i ws.length with h | h
        · exact h
        · rw [List.getElem?_eq_none h] at ht; cases ht
      have hdrop : ws.drop i = t :: ws.drop (i + 1) := by
        rw [List.drop_eq_getElem_cons hi]
        congr 1
        rw [List.getElem?_eq_getElem hi] at ht
        exact Option.some.inj ht
      rw [hdrop] at hrd
      have hrd2 : E94.readProductM ws = match E94.readPowerM t with
        | none => none
        | some x => if x.1 < lo then none else E94.readFrom (x.1 + 1) (cs.set x.1 x.2) (ws.drop (i + 1)) := hrd
      refine ⟨_, rfl, at_, t, rfl, sm.seq hSt, hw t (List.mem_of_getElem? ht), fun H3 v3 sm3 hpo => ?_⟩
      have s03 := sm.trans sm3
      have hc3 := sm3 _ _ hc
      cases hp : E94.readPowerM t with
      | none =>
        rw [hp] at hpo hrd2
        have e : v3 = .non := hpo
        subst e
        refine ⟨_, rfl, _, rfl, iteT (iteT ?_)⟩
        exact q H3 .non s03 (by rw [hrd2]; rfl)
      | some n =>
        rw [hp] at hpo hrd2
        obtain ⟨u, rfl, nu, hu⟩ := hpo
        have hn := E94.readPowerM_iff.mp hp
        refine ⟨_, rfl, _, rfl, iteF ?_⟩
        refine ⟨_, rfl, u, _, 0, _, rfl, rfl, SqT.of hu, atI_nat (j := 0) rfl, _, rfl, _, _, rfl, rfl, _, rfl, ite2 (fun e1 => ?_) (fun e1 => ?_)⟩
        · have h1 : (n.1 : Int) ≤ (lo : Int) - 1 := of_decide_eq_true e1
          exact q H3 .non s03 (by
            rw [hrd2]
            show ProdOut K H3 (if n.1 < lo then none else _) .non
            rw [if_pos (by omega)]
            rfl)
        · have h1 : ¬ (n.1 : Int) ≤ (lo : Int) - 1 := fun z => e1 (decide_eq_true z)
          refine ⟨_, rfl, u, _, 0, _, rfl, rfl, SqT.of hu, atI_nat (j := 0) rfl, ?_⟩
          refine ⟨_, rfl, u, _, 1, _, rfl, rfl, SqT.of hu, atI_nat (j := 1) rfl, _, rfl, _, rfl, c, _, _, n.1, rfl, rfl, hc3, ixN_nat (by rw [List.length_map, ofN_len, hcl]; exact hn.1.1), fun b0 o0 e0 => ?_, cs.set n.1 n.2, n.1 + 1, some (.ref at_), some (.ref u), ?_, ?_, by rw [List.length_set]; exact hcl, ?_⟩
          · rw [upd_ne (ne_of_none e0 nHc)]
            exact s03 _ _ e0
          · have : ((n.1 + 1 : Nat) : Int) - 1 = (n.1 : Int) := by omega
            rw [this]
            rfl
          · rw [upd_same, ofN_set]
          · rw [hrd2]
            show (if n.1 < lo then none else _) = _
            rw [if_neg (by omega)]
    · rintro σ H2 ⟨sm, cs, lo, y3, y4, rfl, hc, hcl, hrd⟩
      rw [dpAll_len hAll, List.length_map, List.drop_length] at hrd
      have hrd2 : E94.readProductM ws = some cs := hrd
      refine ⟨_, rfl, c, cs, rfl, SqL.of hc, by omega, by omega, fun H3 p sm3 hp => ?_⟩
      exact q H3 (.ref p) (sm.trans sm3) (by rw [hrd2]; exact ⟨p, rfl, SqT.of hp⟩)
end
end E94H
set_option Elab.async false
set_option linter.all false
set_option maxRecDepth 100000
set_option maxHeartbeats 2000000
namespace E94H
open PySem PySem.Spec PyProof.Rows L2
section
variable {P : Program} {w : World} {K : PySem.W.Frag} {mg : Str → Option Value} {base : Heap}
theorem cut1 (xs : List V) : cutV xs (some 1) none = xs.drop 1 := by
  unfold cutV
  rw [show HT.sIx xs.length 0 (some 1) = min 1 xs.length from HT.sIx_nat xs.length 0 1, HT.sIx_none]
  cases xs with
  | nil => rfl
  | cons x r =>
    have e : min 1 (x :: r).length = 1 := by rw [List.length_cons]; omega
    rw [e]
    show List.take ((x :: r).length - 1) r = r
    rw [List.length_cons, Nat.add_sub_cancel]
    exact List.take_length
theorem Trk.dp {H : Hp} : ∀ {vs : List V} {cs : List (List Nat)}, Trk H vs cs → DpAll K H vs (cs.map fun t => dRow (ofN t))
  | [], [], _ => .nil
  | [], _ :: _, h => h.elim
  | _ :: _, [], h => h.elim
  | v :: vs, c :: cs, h => by
    obtain ⟨⟨r, rfl, hr⟩, h2⟩ := h
    exact .cons (row_dp (SqL.of hr)) h2.dp
theorem lay_row (t : List Nat) : PyData.canLay0 (dRow (ofN t)) = true := by simp only [PyData.canLay0]; exact lay_ints _
theorem depth_row (t : List Nat) : PyData.depth (dRow (ofN t)) ≤ 1 := by simp [PyData.depth, depth_ints]
theorem shaped_words (ws : List (List Nat)) : SeqAt.shaped (dWords ws) = true := by
  unfold SeqAt.shaped
  rw [Bool.and_eq_true]
  refine ⟨?_, decide_eq_true ?_⟩
  · simp only [PyData.canLay0]
    exact lay_all lay_row ws
  · simp only [PyData.depth]
    have := depth_all depth_row ws
    omega
theorem eqvAll_ints : ∀ ns ms : List Int, PyData.eqvAll (ns.map .int) (ms.map .int) = decide (ns = ms)
  | [], [] => by simp [PyData.eqvAll]
  | [], _ :: _ => by simp [PyData.eqvAll]
  | _ :: _, [] => by simp [PyData.eqvAll]
  | n :: ns, m :: ms => by
    simp only [List.map_cons, PyData.eqvAll, PyData.eqv, eqvAll_ints ns ms]
    rw [Bool.eq_iff_iff]
    simp
theorem eqv_rows (ns ms : List Int) : PyData.eqv (dRow ns) (dRow ms) = decide (ns = ms) := by
  simp only [PyData.eqv]
  exact eqvAll_ints ns ms
theorem ofN_inj {a b : List Nat} : ofN a = ofN b ↔ a = b := by
  constructor
  · intro h
    induction a generalizing b with
    | nil => cases b with
      | nil => rfl
      | cons => cases h
    | cons x a ih =>
      cases b with
      | nil => cases h
      | cons y b =>
        obtain ⟨h1, h2⟩ := List.cons.inj h
        have : x = y := by
          have h1 : (x : Int) = (y : Int) := h1
          omega
        rw [this, ih h2]
  · rintro rfl; rfl
/-! ### read_term -/
theorem sc_read_term : FnScope ["text", "factors", "number", "product"] ["text"] (defScope s_read_term) := ⟨rfl, rfl, rfl, by decide +kernel, rfl, by decide +kernel, by decide +kernel⟩
/-- a term, or None -/
def TermOut (K : PySem.W.Frag) (H' : Hp) (o : Option (List Nat × Nat × Nat)) (v : V) : Prop := match o with
  | none => v = .non
  | some x => Dp K H' v (dTerm (x.1, (x.2.1 : Int), x.2.2))
def sp_read_term (K : PySem.W.Frag) : Sp := fun vs H Q _ => ∃ (a : Addr) (t : List Nat), vs = [.ref a] ∧ SqL K H a ((ofN t).map V.int) ∧ t.length ≤ 1000 ∧ ∀ H' v, Same H H' → TermOut K H' (E94.readTermM t) v → Q v H'
theorem readTermM_is (t : List Nat) : E94.readTermM t = if E94.isDig (((sp1 42 t).headD []).headD 0) = true then (match E94.readNumberM ((sp1 42 t).headD []) with
    | none => none
    | some n => if n.1 = 0 then none else if n = (1, 1) ∧ (sp1 42 t).tail ≠ [] then none else (E94.readProductM (sp1 42 t).tail).map fun c => (c, n.1, n.2))
  else (E94.readProductM (sp1 42 t)).map fun c => (c, 1, 1) := rfl
structure RdFuns (K : PySem.W.Frag) (mg : Str → Option Value) (fB fW fD fG fN fP fO fR : Addr) (fdB fdW fdD fdG fdN fdP fdO fdR : FuncData) (tz tn ts tc ta tl tk tS : Tok) : Prop where
  FB : Fun K "pieces_between" "pieces_between" s_pieces_between fB fdB
  bB : Binds K fdB ["text", "separator"] []
  gB : mg "pieces_between" = some (.ref fB)
  FW : Fun K "read_whole" "read_whole" s_read_whole fW fdW
  bW : Binds K fdW ["text"] []
  gW : mg "read_whole" = some (.ref fW)
  FD : Fun K "is_digit" "is_digit" s_is_digit fD fdD
  bD : Binds K fdD ["byte"] []
  gD : mg "is_digit" = some (.ref fD)
  FG : Fun K "common_divisor" "common_divisor" s_common_divisor fG fdG
  bG : Binds K fdG ["one", "other"] []
  gG : mg "common_divisor" = some (.ref fG)
  FN : Fun K "read_number" "read_number" s_read_number fN fdN
  bN : Binds K fdN ["text"] []
  gN : mg "read_number" = some (.ref fN)
  FP : Fun K "read_power" "read_power" s_read_power fP fdP
  bP : Binds K fdP ["text"] []
  gP : mg "read_power" = some (.ref fP)
  FO : Fun K "product_of" "product_of" s_product_of fO fdO
  bO : Binds K fdO ["counts"] []
  gO : mg "product_of" = some (.ref fO)
  FR : Fun K "read_product" "read_product" s_read_product fR fdR
  bR : Binds K fdR ["factors"] []
  gR : mg "read_product" = some (.ref fR)
  cZ : mg "ZERO" = some (.int 48 tz)
  cN : mg "NINE" = some (.int 57 tn)
  cS : mg "SLASH" = some (.int 47 ts)
  cC : mg "CARET" = some (.int 94 tc)
  cA : mg "SMALL_A" = some (.int 97 ta)
  cL : mg "SMALL_Z" = some (.int 122 tl)
  cK : mg "LETTER_COUNT" = some (.int 26 tk)
  cT : mg "STAR" = some (.int 42 tS)
  mlen : mg "len" = none
  mabs : mg "abs" = none
  msum : mg "sum" = none
  mtup : mg "tuple" = none
theorem ok_read_term {f fB fW fD fG fN fP fO fR : Addr} {fd fdB fdW fdD fdG fdN fdP fdO fdR : FuncData} {tz tn ts tc ta tl tk tS : Tok} {k : Nat} (F : Fun K "read_term" "read_term" s_read_term f fd) (T : RdFuns K mg fB fW fD fG fN fP fO fR fdB fdW fdD fdG fdN fdP fdO fdR tz tn ts tc ta tl tk tS) :
    FnOk P w K mg base CX0 (k + 5) f fd ["text"] (sp_read_term K) := by
  have GR : FnOk P w K mg base CX0 (k + 4) fR fdR ["factors"] (sp_read_product K) := ok_read_product T.FR T.FP T.bP T.gP T.FB T.bB T.gB T.FW T.bW T.gW T.FD T.bD T.gD T.FO T.bO T.gO T.cZ T.cN T.cC T.cA T.cL T.cK T.mlen T.msum T.mtup
  have GN : FnOk P w K mg base CX0 (k + 3) fN fdN ["text"] (sp_read_number K) := ok_read_number T.FN T.FB T.bB T.gB T.FW T.bW T.gW T.FD T.bD T.gD T.FG T.bG T.gG T.cZ T.cN T.cS T.mlen T.mabs
  have GB : FnOk P w K mg base CX0 (k + 1) fB fdB ["text", "separator"] (sp_pieces_between K) := ok_pieces_between T.FB
  have GD : FnOk P w K mg base CX0 (k + 1) fD fdD ["byte"] sp_is_digit := ok_is_digit T.FD T.cZ T.cN
  refine F.ok sc_read_term (fun vs H Q E h => ?_) (fun cdv A outer s H vs Q E hr h => ?_)
  · obtain ⟨a, t, rfl, _⟩ := h
    rfl
  · obtain ⟨a, t, rfl, hA, hlen, q⟩ := h
    have hr1 : Room (k + 1) _ := hr.mono (by omega)
    have hr3 : Room (k + 3) _ := hr.mono (by omega)
    refine ⟨_, pss_cons (ps_set (i := 1) sc_read_term.nd rfl (.inl rfl) (pe_call GB hr1 (by rfl) T.gB T.FB.kp T.bB .nil pass0 (pa_cons (pv 0) (pa_cons (pe_glob (v := .int 42) (by rfl) T.cT ⟨_, rfl⟩) pa_nil))))
      (pss_cons (ps_set (i := 2) sc_read_term.nd rfl (.inl rfl) (pe_tup (pa_cons pe_int (pa_cons pe_int pa_nil))))
      (pss_cons (ps_if (PW.pt (pw_and (pt_cmpR (op_neD hr.units) (pe_ix ix_list (pv 1) pe_int (fun _ _ => rfl)) (pe_lst pa_nil) (nomark _)) (pw_and1 (pt_val (pe_call GD hr1 (by rfl) T.gD T.FD.kp T.bD .nil pass0 (pa_cons (pe_ix ix_list (pe_ix ix_list (pv 1) pe_int (fun _ _ => rfl)) pe_int (fun _ _ => rfl)) pa_nil))))))
          (pss_cons (ps_set (i := 2) sc_read_term.nd rfl (.inl rfl) (pe_call GN hr3 (by rfl) T.gN T.FN.kp T.bN .nil pass0 (pa_cons (pe_ix ix_list (pv 1) pe_int (fun _ _ => rfl)) pa_nil)))
          (pss_cons (ps_set (i := 1) sc_read_term.nd rfl (.inl rfl) (pe_slice sl_list (pv 1) (po_some pe_int) po_none))
          (pss_cons (ps_if (PW.pt (pw_or (pt_cmp (pc_isN (pv 2))) (pw_or1 (pt_cmpR op_eq (pe_ix ix_tup (pv 2) pe_int (fun _ _ => rfl)) pe_int (nomark _))))) (pss_one (ps_ret pe_non)) pss_nil)
          (pss_one (ps_if (PW.pt (pw_and (pt_cmpR (op_eqD hr.units) (pv 2) (pe_tup (pa_cons pe_int (pa_cons pe_int pa_nil))) (nomark _)) (pw_and1 (pt_cmpR (op_neD hr.units) (pv 1) (pe_lst pa_nil) (nomark _))))) (pss_one (ps_ret pe_non)) pss_nil)))))
          pss_nil)
      (pss_cons (ps_set (i := 3) sc_read_term.nd rfl (.inl rfl) (pe_call GR hr (by rfl) T.gR T.FR.kp T.bR .nil pass0 (pa_cons (pv 1) pa_nil)))
      (pss_cons (ps_if (pt_cmp (pc_isN (pv 3))) (pss_one (ps_ret pe_non)) pss_nil)
      (pss_one (ps_ret (pe_tup (pa_cons (pv 3) (pa_cons (pe_ix ix_tup (pv 2) pe_int (fun _ _ => rfl)) (pa_cons (pe_ix ix_tup (pv 2) pe_int (fun _ _ => rfl)) pa_nil)))))))))), ?_⟩
    refine ⟨_, rfl, a, t, 42, rfl, hA, hlen, fun H2 p vs sm np hp hT => ?_⟩
    have hq := readTermM_is t
    have hne : sp1 42 t ≠ [] := E94.split_ne 42 t
    have hle : ∀ v ∈ sp1 42 t, v.length ≤ 1000 := fun v hv => Nat.le_trans (split_piece 42 t v hv) hlen
    generalize sp1 42 t = S at hT hq hne hle
    -- number = (1, 1)
    refine ⟨by show 2 ≤ sizeLine; decide, fun u nu => ?_⟩
    have su := same_upd (o := .tup [V.int 1, V.int 1]) nu
    have s02 : Same H (upd H2 u (.tup [V.int 1, V.int 1])) := sm.trans su
    -- the end, from any state
    have fin : ∀ (H3 : Hp) (g nb : Addr) (ws : List (List Nat)) (y0 : Option V) (x1 x2 : Nat), Same H H3 → Dp K H3 (.ref g) (dWords ws) → (∀ v ∈ ws, v.length ≤ 1000) → SqT K H3 nb [.int (x1 : Int), .int (x2 : Int)] → E94.readTermM t = (E94.readProductM ws).map (fun c => (c, x1, x2)) →
        (tSeq (tAsg (tCall (sp_read_product K) [] E0 (tCons (tVar 1) tNil)) (gName 3)) (tSeq (tIfS (tB (tIsN (tVar 3))) (tRet (tC .non)) tNext) (tRet (tTup (tCons (tVar 3) (tCons (tOp (rIxT K) (tVar 2) (tC (.int 0))) (tCons (tOp (rIxT K) (tVar 2) (tC (.int 1))) tNil)))))))
          { nx := fun _ H' => Q .non H', rt := Q } [some (.ref a), some (.ref g), some (.ref nb), y0] H3 := by
      intro H3 g nb ws y0 x1 x2 s03 hG hws hN hrt
      refine ⟨_, rfl, _, ws, rfl, hG, hws, fun H4 v4 sm4 hpo => ?_⟩
      have s04 := s03.trans sm4
      cases hp4 : E94.readProductM ws with
      | none =>
        rw [hp4] at hpo hrt
        have e : v4 = .non := hpo
        subst e
        refine ⟨_, rfl, _, rfl, iteT ?_⟩
        exact q H4 .non s04 (by rw [hrt]; rfl)
      | some c =>
        rw [hp4] at hpo hrt
        obtain ⟨pr, rfl, hpr⟩ := hpo
        refine ⟨_, rfl, _, rfl, iteF ?_⟩
        refine ⟨_, rfl, _, rfl, nb, _, 0, _, rfl, rfl, same_sqT sm4 hN, atI_nat (j := 0) rfl, _, rfl, nb, _, 1, _, rfl, rfl, same_sqT sm4 hN, atI_nat (j := 1) rfl, by show 3 ≤ sizeLine; decide, fun z nz => ?_⟩
        refine q _ (.ref z) (s04.trans (same_upd nz)) ?_
        rw [hrt]
        exact term_dp (t := (c, (x1 : Int), x2)) (SqT.of upd_same) (same_sqT (same_upd nz) hpr)
    match S, vs, hT, hq, hne, hle with
    | [], _, _, _, hne, _ => exact absurd rfl hne
    | _ :: _, [], hT, _, _, _ => exact hT.elim
    | v1 :: vr, x1 :: xr, hT, hq, _, hle =>
      have hTall := hT
      obtain ⟨⟨r1, rfl, h1⟩, hTr⟩ := hT
      have hp2 := su _ _ hp
      have h12 := su _ _ h1
      have dpAll1 : Dp K (upd H2 u (.tup [V.int 1, V.int 1])) (.ref p) (dWords (v1 :: vr)) := .lst (SqL.of hp2) (hTall.mono su).dp
      refine ⟨_, rfl, p, _, 0, _, rfl, rfl, SqL.of hp2, atI_nat (j := 0) rfl, Nat.zero_le _, fun l nl => ?_⟩
      have sl := same_upd (o := .lst []) nl
      refine ⟨_, _, row_dp (sl.seq (SqL.of h12)), .lst (SqL.of upd_same) .nil, shaped_row _, shaped_nil, _, rfl, ?_⟩
      rw [eqv_nil]
      have s03 := s02.trans sl
      match v1, h1, h12, hq, hle, dpAll1 with
      | [], h1, h12, hq, hle, dpAll1 =>
        refine iteF (iteF ?_)
        exact fin _ p u _ _ 1 1 s03 (same_dp sl _ _ dpAll1) hle (SqT.of (sl _ _ upd_same)) hq
      | c :: cr, h1, h12, hq, hle, dpAll1 =>
        refine iteT ?_
        refine ⟨_, rfl, p, _, 0, _, rfl, rfl, SqL.of (sl _ _ hp2), atI_nat (j := 0) rfl, r1, _, 0, _, rfl, rfl, SqL.of (sl _ _ h12), atI_nat (j := 0) rfl, c, rfl, _, rfl, ?_⟩
        cases hd : E94.isDig c with
        | false =>
          have hq2 : E94.readTermM t = (E94.readProductM ((c :: cr) :: vr)).map fun c => (c, 1, 1) := by
            rw [hq]
            show (if E94.isDig c = true then _ else _) = _
            rw [hd, if_neg Bool.false_ne_true]
          refine iteF ?_
          exact fin _ p u _ _ 1 1 s03 (same_dp sl _ _ dpAll1) hle (SqT.of (sl _ _ upd_same)) hq2
        | true =>
          have hq2 : E94.readTermM t = match E94.readNumberM (c :: cr) with
            | none => none
            | some n => if n.1 = 0 then none else if n = (1, 1) ∧ vr ≠ [] then none else (E94.readProductM vr).map fun c => (c, n.1, n.2) := by
            rw [hq]
            show (if E94.isDig c = true then _ else _) = _
            rw [hd, if_pos rfl]
            rfl
          refine iteT ?_
          refine ⟨_, rfl, p, _, 0, _, rfl, rfl, SqL.of (sl _ _ hp2), atI_nat (j := 0) rfl, r1, _, rfl, SqL.of (sl _ _ h12), hle _ (List.mem_cons_self ..), fun H4 v4 sm4 hpo => ?_⟩
          have s04 := s03.trans sm4
          have s24 : Same H2 H4 := (su.trans sl).trans sm4
          refine ⟨_, rfl, 1, rfl, p, _, rfl, SqL.of (s24 _ _ hp), fun g ng => ?_⟩
          rw [cut1]
          have sg := same_upd (o := .lst ((V.ref r1 :: xr).drop 1)) ng
          have hgd : Dp K (upd H4 g (.lst ((V.ref r1 :: xr).drop 1))) (.ref g) (dWords vr) := .lst (SqL.of upd_same) (hTr.mono (s24.trans sg)).dp
          have s05 := s04.trans sg
          cases hn : E94.readNumberM (c :: cr) with
          | none =>
            rw [hn] at hpo hq2
            have e : v4 = .non := hpo
            subst e
            refine ⟨_, rfl, _, rfl, iteT (iteT ?_)⟩
            exact q _ .non s05 (by rw [hq2]; rfl)
          | some n =>
            rw [hn] at hpo hq2
            obtain ⟨nb, rfl, nn, hnb⟩ := hpo
            have hnb5 := sg _ _ hnb
            have hq3 : E94.readTermM t = if n.1 = 0 then none else if n = (1, 1) ∧ vr ≠ [] then none else (E94.readProductM vr).map fun c => (c, n.1, n.2) := hq2
            refine ⟨_, rfl, _, rfl, iteF ?_⟩
            refine ⟨_, rfl, nb, _, 0, _, rfl, rfl, SqT.of hnb5, atI_nat (j := 0) rfl, rfl, _, rfl, ite2 (fun e1 => ?_) (fun e1 => ?_)⟩
            · have n0 : (n.1 : Int) = 0 := V.int.inj (of_decide_eq_true e1)
              refine q _ .non s05 ?_
              rw [hq3, if_pos (by omega)]
              rfl
            · have n0 : ¬ n.1 = 0 := fun z => e1 (decide_eq_true (by rw [z]; rfl))
              rw [if_neg n0] at hq3
              refine ⟨_, rfl, by show 2 ≤ sizeLine; decide, fun o no => ?_⟩
              have so := same_upd (o := .tup [V.int 1, V.int 1]) no
              refine ⟨_, _, .tup (same_sqT so (SqT.of hnb5)) (.cons (.int _) (.cons (.int _) .nil)), .tup (SqT.of upd_same) (.cons (.int _) (.cons (.int _) .nil)), by simp [SeqAt.shaped, PyData.canLay0, PyData.canLayAll0, PyData.depth, PyData.depthAll], by decide +kernel, _, rfl, ?_⟩
              have ee : PyData.eqv (.tuple [.int (n.1 : Int), .int (n.2 : Int)]) (.tuple [.int 1, .int 1]) = decide (n = (1, 1)) := by
                simp only [PyData.eqv, PyData.eqvAll]
                rw [Bool.eq_iff_iff]
                simp only [Bool.and_eq_true, beq_iff_eq, decide_eq_true_eq, Bool.and_true]
                constructor
                · rintro ⟨z1, z2⟩
                  exact Prod.ext (show n.1 = 1 by omega) (show n.2 = 1 by omega)
                · intro z
                  rw [z]
                  exact ⟨rfl, rfl⟩
              rw [ee]
              refine ite2 (fun e2 => ?_) (fun e2 => ?_)
              · have n11 : n = (1, 1) := of_decide_eq_true e2
                refine ⟨_, rfl, Nat.zero_le _, fun o2 no2 => ?_⟩
                have so2 := same_upd (o := .lst []) no2
                have s07 := (s05.trans so).trans so2
                have hg7 := same_dp (so.trans so2) _ _ hgd
                refine ⟨_, _, hg7, .lst (SqL.of upd_same) .nil, shaped_words _, shaped_nil, _, rfl, ?_⟩
                rw [eqv_nil]
                cases vr with
                | nil =>
                  refine iteF ?_
                  rw [if_neg (fun z => z.2 rfl)] at hq3
                  exact fin _ g nb [] _ n.1 n.2 s07 hg7 (fun _ h => nomatch h) (SqT.of (so2 _ _ (so _ _ hnb5))) hq3
                | cons v2 vr =>
                  refine iteT ?_
                  refine q _ .non s07 ?_
                  rw [hq3, if_pos ⟨n11, by simp⟩]
                  rfl
              · have n11 : ¬ n = (1, 1) := fun z => e2 (decide_eq_true z)
                refine iteF ?_
                rw [if_neg (fun z => n11 z.1)] at hq3
                exact fin _ g nb vr _ n.1 n.2 (s05.trans so) (same_dp so _ _ hgd) (fun v hv => hle v (List.mem_cons_of_mem _ hv)) (SqT.of (so _ _ hnb5)) hq3
end
end E94H
set_option Elab.async false
set_option linter.all false
set_option maxRecDepth 100000
set_option maxHeartbeats 2000000
namespace E94H
open PySem PySem.Spec PyProof.Rows L2
section
variable {P : Program} {w : World} {K : PySem.W.Frag} {mg : Str → Option Value} {base : Heap}
/-! ### signed_words -/
theorem sc_signed_words : FnScope ["text", "words", "first"] ["text"] (defScope s_signed_words) := ⟨rfl, rfl, rfl, by decide +kernel, rfl, by decide +kernel, by decide +kernel⟩
def sp_signed_words (K : PySem.W.Frag) : Sp := fun vs H Q _ => ∃ (a : Addr) (t : List Nat), vs = [.ref a] ∧ SqL K H a ((ofN t).map V.int) ∧ t.length ≤ 1000 ∧ ∀ H' p vs, Same H H' → H' p = some (.lst vs) → Trk H' vs (E94.signedWords t) → Q (.ref p) H'
theorem signedWords_is (t : List Nat) : E94.signedWords t = if (((sp1 32 t).headD []).headD 0) = 45 then [45] :: ((sp1 32 t).headD []).tail :: (sp1 32 t).tail else [43] :: sp1 32 t := rfl
theorem ok_signed_words {f fB : Addr} {fd fdB : FuncData} {k : Nat} {tb tm tp : Tok} (F : Fun K "signed_words" "signed_words" s_signed_words f fd) (FB : Fun K "pieces_between" "pieces_between" s_pieces_between fB fdB) (bB : Binds K fdB ["text", "separator"] []) (gB : mg "pieces_between" = some (.ref fB)) (cB : mg "BLANK" = some (.int 32 tb)) (cM : mg "MINUS" = some (.int 45 tm)) (cP : mg "PLUS" = some (.int 43 tp)) :
    FnOk P w K mg base CX0 (k + 2) f fd ["text"] (sp_signed_words K) := by
  have GB : FnOk P w K mg base CX0 (k + 1) fB fdB ["text", "separator"] (sp_pieces_between K) := ok_pieces_between FB
  refine F.ok sc_signed_words (fun vs H Q E h => ?_) (fun cdv A outer s H vs Q E hr h => ?_)
  · obtain ⟨a, t, rfl, _⟩ := h
    rfl
  · obtain ⟨a, t, rfl, hA, hlen, q⟩ := h
    refine ⟨_, pss_cons (ps_set (i := 1) sc_signed_words.nd rfl (.inl rfl) (pe_call GB hr (by rfl) gB FB.kp bB .nil pass0 (pa_cons (pv 0) (pa_cons (pe_glob (v := .int 32) (by rfl) cB ⟨_, rfl⟩) pa_nil))))
      (pss_cons (ps_set (i := 2) sc_signed_words.nd rfl (.inl rfl) (pe_ix ix_list (pv 1) pe_int (fun _ _ => rfl)))
      (pss_cons (ps_if (PW.pt (pw_and (pt_cmpR (op_neD hr.units) (pv 2) (pe_lst pa_nil) (nomark _)) (pw_and1 (pt_cmpR op_eq (pe_ix ix_list (pv 2) pe_int (fun _ _ => rfl)) (pe_glob (v := .int 45) (by rfl) cM ⟨_, rfl⟩) (nomark _)))))
        (pss_one (ps_ret (pe_op op_cat (pe_lst (pa_cons (pe_lst (pa_cons (pe_glob (v := .int 45) (by rfl) cM ⟨_, rfl⟩) pa_nil)) (pa_cons (pe_slice sl_list (pv 2) (po_some pe_int) po_none) pa_nil))) (pe_slice sl_list (pv 1) (po_some pe_int) po_none)))) pss_nil)
      (pss_one (ps_ret (pe_op op_cat (pe_lst (pa_cons (pe_lst (pa_cons (pe_glob (v := .int 43) (by rfl) cP ⟨_, rfl⟩) pa_nil)) pa_nil)) (pv 1)))))), ?_⟩
    refine ⟨_, rfl, a, t, 32, rfl, hA, hlen, fun H2 p vs sm np hp hT => ?_⟩
    have hq := signedWords_is t
    have hne : sp1 32 t ≠ [] := E94.split_ne 32 t
    have hsl : (sp1 32 t).length ≤ 1001 := by have := split_len 32 t; omega
    generalize sp1 32 t = S at hT hq hne hsl
    match S, vs, hT, hq, hne, hsl with
    | [], _, _, _, hne, _ => exact absurd rfl hne
    | _ :: _, [], hT, _, _, _ => exact hT.elim
    | v1 :: vr, x1 :: xr, hT, hq, _, hsl =>
      have hTall := hT
      obtain ⟨⟨r1, rfl, h1⟩, hTr⟩ := hT
      have xl : (V.ref r1 :: xr).length ≤ 1001 := by rw [hTall.len]; exact hsl
      refine ⟨_, rfl, p, _, 0, _, rfl, rfl, SqL.of hp, atI_nat (j := 0) rfl, ?_⟩
      refine ⟨_, rfl, Nat.zero_le _, fun l nl => ?_⟩
      have sl := same_upd (o := .lst []) nl
      have s03 := sm.trans sl
      refine ⟨_, _, row_dp (sl.seq (SqL.of h1)), .lst (SqL.of upd_same) .nil, shaped_row _, shaped_nil, _, rfl, ?_⟩
      rw [eqv_nil]
      -- [[PLUS]] + words
      have plus : ¬ v1.headD 0 = 45 → (tRet (tOp rCat (tLst (tCons (tLst (tCons (tC (.int 43)) tNil)) tNil)) (tVar 1))) { nx := fun _ H' => Q .non H', rt := Q } [some (.ref a), some (.ref p), some (.ref r1)] (upd H2 l (.lst [])) := fun hc => by
        refine ⟨by show 1 ≤ sizeLine; decide, fun b nb => ⟨by show 1 ≤ sizeLine; decide, fun c nc => ?_⟩⟩
        have sb := same_upd (o := .lst [V.int 43]) nb
        have sc := same_upd (o := .lst [V.ref b]) nc
        refine ⟨_, rfl, c, p, _, _, rfl, rfl, upd_same, sc _ _ (sb _ _ (sl _ _ hp)), ?_, fun d nd => ?_⟩
        · exact Nat.le_trans (show 1 + (V.ref r1 :: xr).length ≤ 1002 by omega) (by decide)
        · have sd := same_upd (o := .lst ([V.ref b] ++ V.ref r1 :: xr)) nd
          refine q _ d _ (((s03.trans sb).trans sc).trans sd) upd_same ?_
          have hq2 : E94.signedWords t = [43] :: v1 :: vr := by rw [hq]; exact if_neg hc
          rw [hq2]
          exact ⟨⟨b, rfl, sd _ _ (sc _ _ upd_same)⟩, hTall.mono (((sl.trans sb).trans sc).trans sd)⟩
      match v1, h1, hq, hTall, plus with
      | [], h1, hq, hTall, plus =>
        refine iteF (iteF ?_)
        exact plus (by decide)
      | c :: cr, h1, hq, hTall, plus =>
        refine iteT ?_
        refine ⟨_, rfl, r1, _, 0, _, rfl, rfl, SqL.of (sl _ _ h1), atI_nat (j := 0) rfl, rfl, _, rfl, ite2 (fun e => ?_) (fun e => ?_)⟩
        · have c45 : c = 45 := by
            have : ((c : Nat) : Int) = 45 := V.int.inj (of_decide_eq_true e)
            omega
          refine ⟨by show 1 ≤ sizeLine; decide, fun b nb => ⟨_, rfl, 1, rfl, r1, (ofN (c :: cr)).map V.int, rfl, ?_, fun g ng => ?_⟩⟩
          · exact SqL.of (same_upd nb _ _ (sl _ _ h1))
          · rw [cut1]
            have sb := same_upd (o := .lst [V.int 45]) nb
            have sg := same_upd (o := .lst (((ofN (c :: cr)).map V.int).drop 1)) ng
            refine ⟨by show 2 ≤ sizeLine; decide, fun h nh => ⟨_, rfl, 1, rfl, p, V.ref r1 :: xr, rfl, ?_, fun m nm => ?_⟩⟩
            · exact SqL.of (same_upd nh _ _ (sg _ _ (sb _ _ (sl _ _ hp))))
            · rw [cut1]
              have sh := same_upd (o := .lst [V.ref b, V.ref g]) nh
              have smm := same_upd (o := .lst ((V.ref r1 :: xr).drop 1)) nm
              refine ⟨h, m, _, _, rfl, rfl, smm _ _ upd_same, upd_same, ?_, fun d nd => ?_⟩
              · have : xr.length ≤ 1000 := by simpa using xl
                exact Nat.le_trans (show 2 + xr.length ≤ 1002 by omega) (by decide)
              · have sd := same_upd (o := .lst ([V.ref b, V.ref g] ++ (V.ref r1 :: xr).drop 1)) nd
                refine q _ d _ (((((s03.trans sb).trans sg).trans sh).trans smm).trans sd) upd_same ?_
                have hq2 : E94.signedWords t = [45] :: cr :: vr := by rw [hq]; exact if_pos c45
                rw [hq2]
                refine ⟨⟨b, rfl, sd _ _ (smm _ _ (sh _ _ (sg _ _ upd_same)))⟩, ⟨g, rfl, sd _ _ (smm _ _ (sh _ _ upd_same))⟩, hTr.mono (((((sl.trans sb).trans sg).trans sh).trans smm).trans sd)⟩
        · exact plus fun z => e (decide_eq_true (by
            have z' : c = 45 := z
            rw [z']
            rfl))
/-! ### read_polynomial -/
theorem lexAt_shift {e r : Nat → Bool} {z : Bool} : ∀ (k i : Nat), Ob.lexAt e r z (i + 1) k = Ob.lexAt (fun j => e (j + 1)) (fun j => r (j + 1)) z i k
  | 0, _ => rfl
  | k + 1, i => by
    rw [Ob.lexAt_succ, Ob.lexAt_succ, lexAt_shift k (i + 1)]
theorem lexAt_le : ∀ {a b : List Nat}, a.length = b.length → Ob.lexAt (fun j => decide ((ofN a).getD j 0 = (ofN b).getD j 0)) (fun j => decide ((ofN a).getD j 0 ≤ (ofN b).getD j 0)) true 0 a.length = !E94.lexGt a b
  | [], [], _ => rfl
  | [], _ :: _, h => by cases h
  | _ :: _, [], h => by cases h
  | i :: a, j :: b, h => by
    have ih := @lexAt_le a b (by simpa using h)
    rw [List.length_cons, Ob.lexAt_succ, lexAt_shift]
    show (if decide ((i : Int) = (j : Int)) = true then Ob.lexAt (fun n => decide ((ofN a).getD n 0 = (ofN b).getD n 0)) (fun n => decide ((ofN a).getD n 0 ≤ (ofN b).getD n 0)) true 0 a.length else decide ((i : Int) ≤ (j : Int))) = _
    rw [ih]
    have eg : E94.lexGt (i :: a) (j :: b) = if i = j then E94.lexGt a b else decide (j < i) := rfl
    rw [eg]
    by_cases e : i = j
    · subst e
      simp
    · have : ¬ (i : Int) = (j : Int) := by omega
      rw [if_neg (by simpa using this), if_neg e, ← decide_not]
      exact decide_eq_decide.mpr (by omega)
theorem lexAt_cnt {a b : List Nat} (h : a.length = b.length) : Ob.lexAt (fun j => decide ((tupC a).getD j 0 = (tupC b).getD j 0)) (fun j => decide ((tupC a).getD j 0 ≤ (tupC b).getD j 0)) (decide ((tupC a).length ≤ (tupC b).length)) 0 (min (tupC a).length (tupC b).length) = !E94.cntGt a b := by
  rw [tupC_len, tupC_len, h, Nat.min_self, decide_eq_true (Nat.le_refl _), Ob.lexAt_succ, lexAt_shift]
  show (if decide ((a.sum : Int) = (b.sum : Int)) = true then Ob.lexAt (fun n => decide ((ofN a).getD n 0 = (ofN b).getD n 0)) (fun n => decide ((ofN a).getD n 0 ≤ (ofN b).getD n 0)) true 0 b.length else decide ((a.sum : Int) ≤ (b.sum : Int))) = _
  rw [← h, lexAt_le h]
  unfold E94.cntGt
  by_cases e : a.sum = b.sum
  · rw [if_pos e, if_pos (by simp [e])]
  · have : ¬ (a.sum : Int) = (b.sum : Int) := by omega
    rw [if_neg (by simpa using this), if_neg e, ← decide_not]
    exact decide_eq_decide.mpr (by omega)
theorem sc_read_polynomial : FnScope ["text", "words", "terms", "place", "sign", "term", "top"] ["text"] (defScope s_read_polynomial) := ⟨rfl, rfl, rfl, by decide +kernel, rfl, by decide +kernel, by decide +kernel⟩
/-- a polynomial in a new list, or None -/
def PolyOut (K : PySem.W.Frag) (H H' : Hp) (o : Option E94.MP) (v : V) : Prop := match o with
  | none => v = .non
  | some q => ∃ p vs, v = .ref p ∧ H p = none ∧ H' p = some (.lst vs) ∧ DpAll K H' vs (q.map dTerm)
def sp_read_polynomial (K : PySem.W.Frag) : Sp := fun vs H Q _ => ∃ (a : Addr) (t : List Nat), vs = [.ref a] ∧ SqL K H a ((ofN t).map V.int) ∧ t.length ≤ 900 ∧ ∀ H' v, Same H H' → PolyOut K H H' (E94.readPolyM t) v → Q v H'
theorem readLoop_odd : ∀ (ws : List (List Nat)) (acc : E94.MP), ws.length % 2 = 1 → E94.readLoop acc ws = none
  | [], _, h => by cases h
  | [_], _, _ => rfl
  | s :: x :: l, acc, h => by
    have h' : l.length % 2 = 1 := by simp only [List.length_cons] at h; omega
    unfold E94.readLoop
    split
    · rfl
    · split
      · rfl
      · split
        · rfl
        · exact readLoop_odd l _ h'
theorem signed_len (t : List Nat) : (E94.signedWords t).length ≤ t.length + 2 := by
  rw [signedWords_is]
  have h1 := split_len 32 t
  have h2 := E94.split_ne 32 t
  split
  · simp only [List.length_cons, List.length_tail]
    have : 0 < (sp1 32 t).length := List.length_pos_iff.mpr h2
    omega
  · simp only [List.length_cons]
    omega
theorem signed_piece (t : List Nat) : ∀ v ∈ E94.signedWords t, v.length ≤ t.length + 1 := by
  rw [signedWords_is]
  have hp := split_piece 32 t
  have h2 := E94.split_ne 32 t
  have hc := E94.headD_cons_tail (d := []) h2
  have hm : (sp1 32 t).headD [] ∈ sp1 32 t := by
    cases e : sp1 32 t with
    | nil => exact absurd e h2
    | cons v r => exact List.mem_cons_self ..
  split
  · intro v hv
    rcases List.mem_cons.mp hv with rfl | hv
    · simp
    · rcases List.mem_cons.mp hv with rfl | hv
      · rw [List.length_tail]
        have := hp _ hm
        omega
      · have := hp v (List.mem_of_mem_tail hv)
        omega
  · intro v hv
    rcases List.mem_cons.mp hv with rfl | hv
    · simp
    · have := hp v hv
      omega
end
end E94H
set_option Elab.async false
set_option linter.all false
set_option maxRecDepth 100000
set_option maxHeartbeats 2000000
namespace E94H
open PySem PySem.Spec PyProof.Rows L2
section
variable {P : Program} {w : World} {K : PySem.W.Frag} {mg : Str → Option Value} {base : Heap}
theorem term_upd {H : Hp} {v : V} {t : E94.MT} {d : Addr} {acc : List V} {o' : HO} (h : Dp K H v (dTerm t)) (hd : H d = some (.lst acc)) : Dp K (upd H d o') v (dTerm t) := by
  obtain ⟨a, b, rfl, ha, hb⟩ := dp_term h
  exact term_dp (sqT_upd ha hd) (sqT_upd hb hd)
theorem terms_upd {H : Hp} {d : Addr} {acc : List V} {o' : HO} (hd : H d = some (.lst acc)) : ∀ {q : E94.MP} {vs : List V}, DpAll K H vs (q.map dTerm) → DpAll K (upd H d o') vs (q.map dTerm)
  | [], _, h => by cases h; exact .nil
  | t :: q, _, h => by
    cases h with
    | cons h1 h2 => exact .cons (term_upd h1 hd) (terms_upd hd h2)
theorem dpAll_last {H : Hp} : ∀ {q : E94.MP} {vs : List V}, DpAll K H vs (q.map dTerm) → q ≠ [] → ∃ us v, vs = us ++ [v] ∧ Dp K H v (dTerm (q.getLastD ([], 0, 0)))
  | [], _, _, ne => absurd rfl ne
  | [t], _, h, _ => by
    cases h with
    | cons h1 h2 => cases h2; exact ⟨[], _, rfl, h1⟩
  | t :: u :: q, _, h, _ => by
    cases h with
    | cons h1 h2 =>
      obtain ⟨us, v, e, hv⟩ := dpAll_last h2 (by simp)
      exact ⟨_ :: us, v, by rw [e]; rfl, hv⟩
theorem rg2 {n : Nat} (h : n ≤ 10000) : RgC 0 ((2 * n : Nat) : Int) 2 n := by
  have e : Builtin.Range.rangeSize 0 ((2 * n : Nat) : Int) 2 = (n : Int) := by
    unfold Builtin.Range.rangeSize
    rw [if_pos (by decide)]
    split <;> omega
  refine ⟨by decide, by decide, ?_, e⟩
  unfold Builtin.Range.small
  rw [e]
  have f : ∀ z : Int, -(2 ^ 62) ≤ z → z < 2 ^ 62 → Builtin.Range.rangeFitsLong z = true := fun z h1 h2 => by
    unfold Builtin.Range.rangeFitsLong
    simp only [Bool.and_eq_true, decide_eq_true_eq]
    omega
  rw [f 0 (by omega) (by omega), f _ (show -(2 ^ 62) ≤ ((2 * n : Nat) : Int) by omega) (by omega), f 2 (by omega) (by omega), f (n : Int) (by omega) (by omega), if_pos (show (2 : Int) > 0 by decide), f _ (show -(2 ^ 62) ≤ ((2 * n : Nat) : Int) + (2 - 1) by omega) (by omega)]
  simp
theorem ok_read_polynomial {f fB fW fD fG fN fP fO fR fT fS : Addr} {fd fdB fdW fdD fdG fdN fdP fdO fdR fdT fdS : FuncData} {tz tn ts tc ta tl tk tS tb tm tp : Tok} {k : Nat} (F : Fun K "read_polynomial" "read_polynomial" s_read_polynomial f fd) (T : RdFuns K mg fB fW fD fG fN fP fO fR fdB fdW fdD fdG fdN fdP fdO fdR tz tn ts tc ta tl tk tS)
    (FT : Fun K "read_term" "read_term" s_read_term fT fdT) (bT : Binds K fdT ["text"] []) (gT : mg "read_term" = some (.ref fT))
    (FS : Fun K "signed_words" "signed_words" s_signed_words fS fdS) (bS : Binds K fdS ["text"] []) (gS : mg "signed_words" = some (.ref fS))
    (cB : mg "BLANK" = some (.int 32 tb)) (cM : mg "MINUS" = some (.int 45 tm)) (cP : mg "PLUS" = some (.int 43 tp)) (mrange : mg "range" = none) :
    FnOk P w K mg base CX0 (k + 6) f fd ["text"] (sp_read_polynomial K) := by
  have GT : FnOk P w K mg base CX0 (k + 5) fT fdT ["text"] (sp_read_term K) := ok_read_term FT T
  have GS : FnOk P w K mg base CX0 (k + 2) fS fdS ["text"] (sp_signed_words K) := ok_signed_words FS T.FB T.bB T.gB cB cM cP
  refine F.ok sc_read_polynomial (fun vs H Q E h => ?_) (fun cdv A outer s H vs Q E hr h => ?_)
  · obtain ⟨a, t, rfl, _⟩ := h
    rfl
  · obtain ⟨a, t, rfl, hA, hlen, q⟩ := h
    have hr2 : Room (k + 2) _ := hr.mono (by omega)
    refine ⟨_, pss_cons (ps_if (pt_cmpR (op_eqD hr.units) (pv 0) (pe_lst (pa_cons (pe_glob (v := .int 48) (by rfl) T.cZ ⟨_, rfl⟩) pa_nil)) (nomark _)) (pss_one (ps_ret (pe_lst pa_nil))) pss_nil)
      (pss_cons (ps_set (i := 1) sc_read_polynomial.nd rfl (.inl rfl) (pe_call GS hr2 (by rfl) gS FS.kp bS .nil pass0 (pa_cons (pv 0) pa_nil)))
      (pss_cons (ps_if (pt_cmpR op_eq (pe_op op_mod (pe_callB call_len_seq (by rfl) T.mlen PySem.boot_len (pa_cons (pv 1) pa_nil)) pe_int) pe_int (nomark _)) (pss_one (ps_ret pe_non)) pss_nil)
      (pss_cons (ps_set (i := 2) sc_read_polynomial.nd rfl (.inl rfl) (pe_lst pa_nil))
      (pss_cons (ps_for PassesOwn.never rfl (pi_range3 (by rfl) mrange (pa_cons pe_int (pa_cons (pe_callB call_len_seq (by rfl) T.mlen PySem.boot_len (pa_cons (pv 1) pa_nil)) (pa_cons pe_int pa_nil)))) (pg_name (i := 3) sc_read_polynomial.nd rfl (.inl rfl))
        (pss_cons (ps_set (i := 4) sc_read_polynomial.nd rfl (.inl rfl) (pe_ix ix_list (pv 1) (pv 3) (fun _ _ => rfl)))
        (pss_cons (ps_set (i := 5) sc_read_polynomial.nd rfl (.inl rfl) (pe_call GT hr (by rfl) gT FT.kp bT .nil pass0 (pa_cons (pe_ix ix_list (pv 1) (pe_op op_add (pv 3) pe_int) (fun _ _ => rfl)) pa_nil)))
        (pss_cons (ps_if (PW.pt (pw_or (pt_cmp (pc_isN (pv 5))) (pw_or1 (PW.pt (pw_and (pt_cmpR (op_neD hr.units) (pv 4) (pe_lst (pa_cons (pe_glob (v := .int 43) (by rfl) cP ⟨_, rfl⟩) pa_nil)) (nomark _)) (pw_and1 (pt_cmpR (op_neD hr.units) (pv 4) (pe_lst (pa_cons (pe_glob (v := .int 45) (by rfl) cM ⟨_, rfl⟩) pa_nil)) (nomark _)))))))) (pss_one (ps_ret pe_non)) pss_nil)
        (pss_cons (ps_if (PW.pt (pw_and (pt_cmpR (op_neD hr.units) (pv 2) (pe_lst pa_nil) (nomark _)) (pw_and1 (pt_cmpR (op_leT hr.units0) (pe_ix ix_tup (pe_ix ix_list (pv 2) (pe_un un_neg pe_int) (fun _ _ => rfl)) pe_int (fun _ _ => rfl)) (pe_ix ix_tup (pv 5) pe_int (fun _ _ => rfl)) (nomark _))))) (pss_one (ps_ret pe_non)) pss_nil)
        (pss_cons (ps_set (i := 6) sc_read_polynomial.nd rfl (.inl rfl) (pe_ifExp (pt_cmpR (op_eqD hr.units) (pv 4) (pe_lst (pa_cons (pe_glob (v := .int 45) (by rfl) cM ⟨_, rfl⟩) pa_nil)) (nomark _)) (pe_un un_neg (pe_ix ix_tup (pv 5) pe_int (fun _ _ => rfl))) (pe_ix ix_tup (pv 5) pe_int (fun _ _ => rfl))))
        (pss_one (ps_expr (pe_bm PySem.F.plainAttrs_list PySem.F.slot_list_append PySem.F.type_list_append mt_append (pv 2) (pa_cons (pe_tup (pa_cons (pe_ix ix_tup (pv 5) pe_int (fun _ _ => rfl)) (pa_cons (pv 6) (pa_cons (pe_ix ix_tup (pv 5) pe_int (fun _ _ => rfl)) pa_nil)))) pa_nil))))))))))
      (pss_one (ps_ret (pv 2))))))), ?_⟩
    -- text == [ZERO]
    refine ⟨_, rfl, by show 1 ≤ sizeLine; decide, fun l nl => ?_⟩
    have sl := same_upd (o := .lst [V.int 48]) nl
    refine ⟨_, _, row_dp (sl.seq hA), row_dp (ns := [48]) (SqL.of upd_same), shaped_row _, shaped_row _, _, rfl, ?_⟩
    rw [eqv_rows]
    by_cases t48 : t = [48]
    · subst t48
      refine iteT ⟨Nat.zero_le _, fun p np => ?_⟩
      refine q _ (.ref p) (sl.trans (same_upd np)) ?_
      exact ⟨p, [], rfl, sl.free np, upd_same, .nil⟩
    · have e0 : ¬ ofN t = [48] := fun z => t48 (ofN_inj.mp (z.trans (show ([48] : List Int) = ofN [48] from rfl)))
      rw [decide_eq_false e0]
      refine iteF ?_
      have hrp : E94.readPolyM t = E94.readLoop [] (E94.signedWords t) := by unfold E94.readPolyM; rw [if_neg t48]
      refine ⟨_, rfl, a, t, rfl, sl.seq hA, by omega, fun H2 p vs sm2 hp hT => ?_⟩
      have s02 := sl.trans sm2
      have wl := signed_len t
      have wp := signed_piece t
      generalize E94.signedWords t = ws at hrp hT wl wp
      have vl := hT.len
      refine ⟨_, rfl, p, _, rfl, .inl (SqL.of hp), _, _, rfl, rfl, by show (0 : Int) < 2; decide, rfl, _, rfl, ite2 (fun e => ?_) (fun e => ?_)⟩
      · have hodd : ((vs.length : Int) % 2) = 1 := V.int.inj (of_decide_eq_true e)
        refine q H2 .non s02 ?_
        rw [hrp, readLoop_odd ws [] (by omega)]
        rfl
      · have heven : ¬ ((vs.length : Int) % 2) = 1 := fun z => e (decide_eq_true (show V.int ((vs.length : Int) % 2) = V.int 1 by rw [z]))
        obtain ⟨n, hn⟩ : ∃ n, ws.length = 2 * n := ⟨ws.length / 2, by omega⟩
        -- terms = []
        refine ⟨Nat.zero_le _, fun tm ntm => ?_⟩
        have st := same_upd (o := .lst []) ntm
        have hp3 := st _ _ hp
        refine ⟨_, rfl, p, _, rfl, .inl (SqL.of hp3), 0, ((2 * n : Nat) : Int), 2, n, by rw [vl, hn], rg2 (by omega), for_rangeC (lo := 0) (c := 2) (n := n) (fun i σ H4 => Same H2 H4 ∧ ∃ (acc : E94.MP) (us : List V) (y3 y4 y5 y6 : Option V), σ = [some (.ref a), some (.ref p), some (.ref tm), y3, y4, y5, y6] ∧ H4 tm = some (.lst us) ∧ DpAll K H4 us (acc.map dTerm) ∧ (∀ x ∈ acc, x.1.length = 26) ∧ acc.length = i ∧ E94.readPolyM t = E94.readLoop acc (ws.drop (2 * i))) ⟨st, [], [], none, none, none, none, rfl, upd_same, .nil, (fun _ h => nomatch h), rfl, hrp⟩ ?_ ?_⟩
        · rintro i σ H4 hi ⟨sm4, acc, us, y3, y4, y5, y6, rfl, htm, hacc, h26, hal, hrl⟩
          have hp4 : H4 p = some (.lst vs) := sm4 _ _ hp
          have hT4 := hT.mono sm4
          have s04 := s02.trans sm4
          -- the two words
          have i1 : 2 * i < ws.length := by omega
          have i2 : 2 * i + 1 < ws.length := by omega
          obtain ⟨sg, w2, hsg, hw2⟩ : ∃ sg w2, ws[2 * i]? = some sg ∧ ws[2 * i + 1]? = some w2 := ⟨_, _, List.getElem?_eq_getElem i1, List.getElem?_eq_getElem i2⟩
          obtain ⟨vsg, hvsg⟩ : ∃ v, vs[2 * i]? = some v := ⟨_, List.getElem?_eq_getElem (show 2 * i < vs.length by omega)⟩
          obtain ⟨vw, hvw⟩ : ∃ v, vs[2 * i + 1]? = some v := ⟨_, List.getElem?_eq_getElem (show 2 * i + 1 < vs.length by omega)⟩
          obtain ⟨rs, c1, hc1, rfl, hrs⟩ := hT4.get hvsg
          obtain ⟨rw', c2, hc2, rfl, hrw⟩ := hT4.get hvw
          have e1 : c1 = sg := Option.some.inj (hc1.symm.trans hsg)
          have e2 : c2 = w2 := Option.some.inj (hc2.symm.trans hw2)
          subst e1 e2
          have hdrop : ws.drop (2 * i) = c1 :: c2 :: ws.drop (2 * (i + 1)) := by
            rw [List.drop_eq_getElem_cons i1, List.drop_eq_getElem_cons i2]
            rw [List.getElem?_eq_getElem i1] at hsg
            rw [List.getElem?_eq_getElem i2] at hw2
            rw [Option.some.inj hsg, Option.some.inj hw2]
            rfl
          rw [hdrop] at hrl
          have hrl2 : E94.readPolyM t = match E94.readTermM c2 with
            | none => none
            | some x => if c1 ≠ [43] ∧ c1 ≠ [45] then none else
              if acc ≠ [] ∧ E94.cntGt ((acc.getLastD ([], 0, 0)).1) x.1 = false then none else E94.readLoop (acc ++ [(x.1, (if c1 = [45] then -(x.2.1 : Int) else (x.2.1 : Int)), x.2.2)]) (ws.drop (2 * (i + 1))) := hrl
          have ei : (0 : Int) + (i : Nat) * 2 = ((2 * i : Nat) : Int) := by omega
          rw [ei]
          refine ⟨_, rfl, _, rfl, p, _, _, _, rfl, rfl, SqL.of hp4, atI_nat hvsg, ?_⟩
          have ei2 : ((2 * i : Nat) : Int) + 1 = ((2 * i + 1 : Nat) : Int) := by omega
          refine ⟨_, rfl, _, rfl, _, _, rfl, rfl, p, _, _, _, rfl, rfl, SqL.of hp4, by rw [ei2]; exact atI_nat hvw, rw', c2, rfl, SqL.of hrw, Nat.le_trans (wp c2 (List.mem_of_getElem? hc2)) (by omega), fun H5 v5 sm5 hto => ?_⟩
          have s05 := s04.trans sm5
          cases hrt : E94.readTermM c2 with
          | none =>
            rw [hrt] at hto hrl2
            have e : v5 = .non := hto
            subst e
            refine ⟨_, rfl, _, rfl, iteT (iteT ?_)⟩
            exact q H5 .non s05 (by rw [hrl2]; rfl)
          | some x =>
            rw [hrt] at hto hrl2
            have hto : Dp K H5 v5 (dTerm (x.1, (x.2.1 : Int), x.2.2)) := hto
            obtain ⟨tt, tp', rfl, htt, htp⟩ := dp_term hto
            have hx26 : x.1.length = 26 := (E94.readTermM_iff.mp (show E94.readTermM c2 = some (x.1, x.2.1, x.2.2) from hrt)).1.len
            have hrl3 : E94.readPolyM t = if c1 ≠ [43] ∧ c1 ≠ [45] then none else
              if acc ≠ [] ∧ E94.cntGt ((acc.getLastD ([], 0, 0)).1) x.1 = false then none else E94.readLoop (acc ++ [(x.1, (if c1 = [45] then -(x.2.1 : Int) else (x.2.1 : Int)), x.2.2)]) (ws.drop (2 * (i + 1))) := hrl2
            refine ⟨_, rfl, _, rfl, iteF ?_⟩
            have hrs5 := sm5 _ _ hrs
            -- behind the test of the sign
            have rest : ∀ H6, Same H5 H6 → ¬ (c1 ≠ [43] ∧ c1 ≠ [45]) → (tSeq (tIfS (tAnd (tTest (tOp (rNeD K) (tVar 2) (tLst tNil))) (tTest (tOp (rLeT K) (tOp (rIxT K) (tOp (rIxL K) (tVar 2) (tUn (rU fun i => .int (-i)) (tC (.int 1)))) (tC (.int 0))) (tOp (rIxT K) (tVar 5) (tC (.int 0)))))) (tRet (tC .non)) tNext)
                (tSeq (tAsg (tIf (tTest (tOp (rEqD K) (tVar 4) (tLst (tCons (tC (.int 45)) tNil)))) (tUn (rU fun i => .int (-i)) (tOp (rIxT K) (tVar 5) (tC (.int 1)))) (tOp (rIxT K) (tVar 5) (tC (.int 1)))) (gName 6))
                (tDrop (tBM K "list" (fun x xs H Q => ∃ l ys y, x = .ref l ∧ xs = [y] ∧ H l = some (.lst ys) ∧ ys.length < sizeLine ∧ Q .non (upd H l (.lst (ys ++ [y])))) (tVar 2) (tCons (tTup (tCons (tOp (rIxT K) (tVar 5) (tC (.int 0))) (tCons (tVar 6) (tCons (tOp (rIxT K) (tVar 5) (tC (.int 2))) tNil)))) tNil)))))
                { nx := fun σ H4 => Same H2 H4 ∧ ∃ (acc : E94.MP) (us : List V) (y3 y4 y5 y6 : Option V), σ = [some (.ref a), some (.ref p), some (.ref tm), y3, y4, y5, y6] ∧ H4 tm = some (.lst us) ∧ DpAll K H4 us (acc.map dTerm) ∧ (∀ x ∈ acc, x.1.length = 26) ∧ acc.length = i + 1 ∧ E94.readPolyM t = E94.readLoop acc (ws.drop (2 * (i + 1))), rt := Q }
                [some (.ref a), some (.ref p), some (.ref tm), some (.int ((2 * i : Nat) : Int)), some (.ref rs), some (.ref tt), y6] H6 := by
              intro H6 sm6 hok
              rw [if_neg hok] at hrl3
              have s06 := s05.trans sm6
              have htm6 := sm6 _ _ (sm5 _ _ htm)
              have hacc6 := same_dpAll (sm5.trans sm6) _ _ hacc
              have htt6 := same_sqT sm6 htt
              have htp6 := same_sqT sm6 htp
              have hrs6 := sm6 _ _ hrs5
              -- the last part
              have tail : ∀ H7, Same H6 H7 → ¬ (acc ≠ [] ∧ E94.cntGt ((acc.getLastD ([], 0, 0)).1) x.1 = false) →
                  (tSeq (tAsg (tIf (tTest (tOp (rEqD K) (tVar 4) (tLst (tCons (tC (.int 45)) tNil)))) (tUn (rU fun i => .int (-i)) (tOp (rIxT K) (tVar 5) (tC (.int 1)))) (tOp (rIxT K) (tVar 5) (tC (.int 1)))) (gName 6))
                  (tDrop (tBM K "list" (fun x xs H Q => ∃ l ys y, x = .ref l ∧ xs = [y] ∧ H l = some (.lst ys) ∧ ys.length < sizeLine ∧ Q .non (upd H l (.lst (ys ++ [y])))) (tVar 2) (tCons (tTup (tCons (tOp (rIxT K) (tVar 5) (tC (.int 0))) (tCons (tVar 6) (tCons (tOp (rIxT K) (tVar 5) (tC (.int 2))) tNil)))) tNil))))
                  { nx := fun σ H4 => Same H2 H4 ∧ ∃ (acc : E94.MP) (us : List V) (y3 y4 y5 y6 : Option V), σ = [some (.ref a), some (.ref p), some (.ref tm), y3, y4, y5, y6] ∧ H4 tm = some (.lst us) ∧ DpAll K H4 us (acc.map dTerm) ∧ (∀ x ∈ acc, x.1.length = 26) ∧ acc.length = i + 1 ∧ E94.readPolyM t = E94.readLoop acc (ws.drop (2 * (i + 1))), rt := Q }
                  [some (.ref a), some (.ref p), some (.ref tm), some (.int ((2 * i : Nat) : Int)), some (.ref rs), some (.ref tt), y6] H7 := by
                intro H7 sm7 hok2
                rw [if_neg hok2] at hrl3
                refine ⟨_, rfl, by show 1 ≤ sizeLine; decide, fun m nm => ?_⟩
                have sm8 := same_upd (o := .lst [V.int 45]) nm
                have s68 := sm7.trans sm8
                have put : ∀ z : Int, z = (if c1 = [45] then -(x.2.1 : Int) else (x.2.1 : Int)) → (tDrop (tBM K "list" (fun x xs H Q => ∃ l ys y, x = .ref l ∧ xs = [y] ∧ H l = some (.lst ys) ∧ ys.length < sizeLine ∧ Q .non (upd H l (.lst (ys ++ [y])))) (tVar 2) (tCons (tTup (tCons (tOp (rIxT K) (tVar 5) (tC (.int 0))) (tCons (tVar 6) (tCons (tOp (rIxT K) (tVar 5) (tC (.int 2))) tNil)))) tNil)))
                    { nx := fun σ H4 => Same H2 H4 ∧ ∃ (acc : E94.MP) (us : List V) (y3 y4 y5 y6 : Option V), σ = [some (.ref a), some (.ref p), some (.ref tm), y3, y4, y5, y6] ∧ H4 tm = some (.lst us) ∧ DpAll K H4 us (acc.map dTerm) ∧ (∀ x ∈ acc, x.1.length = 26) ∧ acc.length = i + 1 ∧ E94.readPolyM t = E94.readLoop acc (ws.drop (2 * (i + 1))), rt := Q }
                    [some (.ref a), some (.ref p), some (.ref tm), some (.int ((2 * i : Nat) : Int)), some (.ref rs), some (.ref tt), some (.int z)] (upd H7 m (.lst [V.int 45])) := by
                  intro z hz
                  have htt8 := same_sqT s68 htt6
                  refine ⟨_, rfl, .inl ⟨rfl, _, SqL.of (s68 _ _ htm6)⟩, _, rfl, tt, _, 0, _, rfl, rfl, htt8, atI_nat (j := 0) rfl, _, rfl, _, rfl, tt, _, 2, _, rfl, rfl, htt8, atI_nat (j := 2) rfl, by show 3 ≤ sizeLine; decide, fun nt nnt => ?_⟩
                  have sm9 := same_upd (o := .tup [V.ref tp', V.int z, V.int (x.2.2 : Nat)]) nnt
                  have s69 := s68.trans sm9
                  have htm9 := s69 _ _ htm6
                  have ul : us.length = i := by
                    have := dpAll_len hacc
                    rw [List.length_map, hal] at this
                    exact this
                  refine ⟨tm, us, _, rfl, rfl, htm9, Nat.lt_of_le_of_lt (show us.length ≤ 1000 by omega) (by decide), fun b0 o0 e0 => ?_, acc ++ [(x.1, z, x.2.2)], _, _, _, _, _, rfl, upd_same, ?_, ?_, by rw [List.length_append, hal]; rfl, by rw [hrl3, hz]⟩
                  · have : b0 ≠ tm := ne_of_none e0 ntm
                    rw [upd_ne this]
                    exact s69 _ _ (sm6 _ _ (sm5 _ _ (sm4 _ _ e0)))
                  · rw [List.map_append]
                    refine dpAll_snoc (terms_upd htm9 (same_dpAll s69 _ _ hacc6)) ?_
                    exact term_upd (t := (x.1, z, x.2.2)) (term_dp (SqT.of upd_same) (same_sqT s69 htp6)) htm9
                  · intro y hy
                    rcases List.mem_append.mp hy with hy | hy
                    · exact h26 y hy
                    · rw [List.mem_singleton.mp hy]
                      exact hx26
                refine ⟨_, _, row_dp (SqL.of (s68 _ _ hrs6)), row_dp (ns := [45]) (SqL.of upd_same), shaped_row _, shaped_row _, _, rfl, ?_⟩
                rw [eqv_rows]
                have htt8 := same_sqT s68 htt6
                refine ite2 (fun e => ?_) (fun e => ?_)
                · have e45 : c1 = [45] := ofN_inj.mp ((of_decide_eq_true e).trans (show ([45] : List Int) = ofN [45] from rfl))
                  refine ⟨_, rfl, tt, _, 1, _, rfl, rfl, htt8, atI_nat (j := 1) rfl, _, rfl, ?_⟩
                  exact put _ (by rw [if_pos e45])
                · have e45 : ¬ c1 = [45] := fun z => e (decide_eq_true (by rw [z]; rfl))
                  refine ⟨_, rfl, tt, _, 1, _, rfl, rfl, htt8, atI_nat (j := 1) rfl, ?_⟩
                  exact put _ (by rw [if_neg e45])
              refine ⟨_, rfl, Nat.zero_le _, fun m nm => ?_⟩
              have sm7 := same_upd (o := .lst []) nm
              refine ⟨_, _, .lst (SqL.of (sm7 _ _ htm6)) (same_dpAll sm7 _ _ hacc6), .lst (SqL.of upd_same) .nil, shaped_poly acc, shaped_nil, _, rfl, ?_⟩
              rw [eqv_nil]
              by_cases a0 : acc = []
              · subst a0
                refine iteF (iteF ?_)
                exact tail _ sm7 (fun z => z.1 rfl)
              · have am : acc.map dTerm ≠ [] := fun z => a0 (List.map_eq_nil_iff.mp z)
                rw [decide_eq_false am]
                refine iteT ?_
                obtain ⟨us', v', rfl, hv'⟩ := dpAll_last (same_dpAll sm7 _ _ hacc6) a0
                obtain ⟨lt', lp', rfl, hlt, hlp⟩ := dp_term hv'
                have hl26 : (acc.getLastD ([], 0, 0)).1.length = 26 := by
                  refine h26 _ ?_
                  rw [List.getLastD_eq_getLast?, List.getLast?_eq_some_getLast a0]
                  exact List.getLast_mem a0
                refine ⟨_, rfl, 1, rfl, tm, _, _, _, rfl, rfl, SqL.of (sm7 _ _ htm6), atI_last _ _, lt', _, 0, _, rfl, rfl, hlt, atI_nat (j := 0) rfl, _, rfl, tt, _, 0, _, rfl, rfl, same_sqT sm7 htt6, atI_nat (j := 0) rfl, lp', tp', _, _, rfl, rfl, hlp, same_sqT sm7 htp6, _, rfl, ?_⟩
                rw [lexAt_cnt (by rw [hl26]; exact hx26.symm)]
                cases hg : E94.cntGt ((acc.getLastD ([], 0, 0)).1) x.1 with
                | false =>
                  refine iteT ?_
                  rw [if_pos ⟨a0, hg⟩] at hrl3
                  exact q _ .non (s06.trans sm7) (by rw [hrl3]; rfl)
                | true =>
                  refine iteF ?_
                  exact tail _ sm7 (fun z => by rw [hg] at z; cases z.2)
            refine ⟨_, rfl, by show 1 ≤ sizeLine; decide, fun m nm => ?_⟩
            have sm6 := same_upd (o := .lst [V.int 43]) nm
            refine ⟨_, _, row_dp (SqL.of (sm6 _ _ hrs5)), row_dp (ns := [43]) (SqL.of upd_same), shaped_row _, shaped_row _, _, rfl, ?_⟩
            rw [eqv_rows]
            by_cases e43 : c1 = [43]
            · have : ofN c1 = [43] := by rw [e43]; rfl
              rw [decide_eq_true this]
              refine iteF (iteF ?_)
              exact rest _ sm6 (fun z => z.1 e43)
            · have : ¬ ofN c1 = [43] := fun z => e43 (ofN_inj.mp (z.trans (show ([43] : List Int) = ofN [43] from rfl)))
              rw [decide_eq_false this]
              refine iteT ?_
              refine ⟨_, rfl, by show 1 ≤ sizeLine; decide, fun m2 nm2 => ?_⟩
              have sm7 := same_upd (o := .lst [V.int 45]) nm2
              refine ⟨_, _, row_dp (SqL.of (sm7 _ _ (sm6 _ _ hrs5))), row_dp (ns := [45]) (SqL.of upd_same), shaped_row _, shaped_row _, _, rfl, ?_⟩
              rw [eqv_rows]
              by_cases e45 : c1 = [45]
              · have : ofN c1 = [45] := by rw [e45]; rfl
                rw [decide_eq_true this]
                refine iteF ?_
                exact rest _ (sm6.trans sm7) (fun z => z.2 e45)
              · have : ¬ ofN c1 = [45] := fun z => e45 (ofN_inj.mp (z.trans (show ([45] : List Int) = ofN [45] from rfl)))
                rw [decide_eq_false this]
                refine iteT ?_
                rw [if_pos ⟨e43, e45⟩] at hrl3
                exact q _ .non ((s05.trans sm6).trans sm7) (by rw [hrl3]; rfl)
        · rintro σ H4 ⟨sm4, acc, us, y3, y4, y5, y6, rfl, htm, hacc, h26, hal, hrl⟩
          have e : ws.drop (2 * n) = [] := List.drop_of_length_le (by omega)
          rw [e] at hrl
          have hrl2 : E94.readPolyM t = some acc := hrl
          refine ⟨_, rfl, q H4 (.ref tm) (s02.trans sm4) ?_⟩
          rw [hrl2]
          exact ⟨tm, us, rfl, s02.free ntm, htm, hacc⟩
end
end E94H
set_option Elab.async false
set_option linter.all false
set_option maxRecDepth 100000
set_option maxHeartbeats 2000000
namespace E94H
open PySem PySem.Spec PyProof.Rows L2
/-! ### enumerate over a tuple, zip of a list and a tuple -/
def JE (K : PySem.W.Frag) (a : Addr) (xs : List V) : It := ⟨fun i H => SqT K H a xs ∧ i < xs.length, YPair (fun j => some (.int (j : Nat))) (fun j => xs[j]?), fun i H => SqT K H a xs ∧ i = xs.length⟩
theorem walk_JE {K : PySem.W.Frag} {a : Addr} {xs : List V} : Walk (JE K a xs) xs.length (fun H => SqT K H a xs) (YPair (fun j => some (.int (j : Nat))) (fun j => xs[j]?)) :=
  ⟨fun _ _ hi q => ⟨q, hi⟩, fun _ q => ⟨q, rfl⟩, fun _ _ _ _ _ _ y => y⟩
theorem pair_new {X : Cx} {H : Hp} {g : Heap} {T : Addr} {x y : V} {u v : Value} (e : g.get? T = some { cls := .type "tuple", data := .seq #[u, v] }) (r1 : RelV x u) (r2 : RelV y v) : ObjOk X.prog X.w H g T (.tup [x, y]) :=
  ⟨(by decide : 2 ≤ sizeLine), [u, v], .cons r1 (.cons r2 .nil), ⟨_, e, rfl, _, rfl⟩⟩
theorem turn_JE {P : Program} {w : World} {K : PySem.W.Frag} {elts : List Expr} {kk : Nat} {tpos : Pos} {a e it : Addr} {xs : List V} (n1 : e ≠ it) (n2 : a ≠ it) (n3 : e ≠ a) :
    Turn P w K (.Tuple elts kk tpos) (JE K a xs) [e, it] e (fun i h => (∃ u, IsEnum h e it ((i : Nat) : Int) u) ∧ h.IsTupleIter it a i) where
  mem := List.mem_cons_self ..
  obj := fun i h st b hb => by
    obtain ⟨⟨u, h1⟩, o, h2, h3, h4⟩ := st
    rcases List.mem_cons.mp hb with r | r
    · rw [r]; exact ⟨_, h1, fun _ z => nomatch z⟩
    · rw [List.mem_singleton.mp r]; exact ⟨o, h2, fun _ z => by rw [h4] at z; cases z⟩
  keep := fun i h h' st kp => by
    obtain ⟨⟨u, h1⟩, h2⟩ := st
    exact ⟨⟨u, kp _ (List.mem_cons_self ..) _ h1⟩, h2.at fun o z => kp it (by simp) o z⟩
  item := by
    intro X eP eW eK calm i pins s σ H E J hf st hg
    subst eP eW eK
    obtain ⟨⟨u, h1⟩, h2⟩ := st
    obtain ⟨hq, hi⟩ := hg
    obtain ⟨vals, rel, tup, _⟩ := J.tuple hq
    have lv := rel.length
    have le : e < s.heap.objs.size := Heap.lt_size h1
    have li : it < s.heap.objs.size := by obtain ⟨_, z, _⟩ := h2; exact Heap.lt_size z
    refine wpAny_pyNext_enum_itemD (Draws.tuple (A := X.A.in1) (J.ok.hd calm) it a n2 vals.toArray) h1 ⟨h2, tup⟩ (by simp; omega) n1 (by simp; exact ⟨n1, n3⟩) fun y g tk hy ho hst hT hz hk => ?_
    refine ⟨_, rfl, wpAny_letOwnedTupleGo_enum (s := { s with heap := g, toks := tk + 1 }) ho fun g2 he2 sb => ?_⟩
    have hx : xs[i]? = some xs[i] := List.getElem?_eq_getElem hi
    obtain ⟨y2, hy2, ry⟩ := rel.get hx
    have ey : y = y2 := by
      have hy' : vals.toArray[i]? = some y := hy
      simp at hy'
      rw [hy2] at hy'
      exact (Option.some.inj hy').symm
    subst ey
    have hT2 : g2.get? s.heap.objs.size = some { cls := .type "tuple", data := .seq #[.int i tk, y] } := (sb.2 _ (Nat.ne_of_gt le)).trans hT
    have J1 : Inv X pins σ (upd H s.heap.objs.size (.tup [.int (i : Nat), xs[i]])) { s with heap := g2, toks := tk + 1 } :=
      J.turnedNew (ch := [e, it]) (fun b ob hb z => (sb.2 b (fun r => hb (by simp [r]))).trans (hk b ob (fun r => hb (by simp [r])) (fun r => hb (by simp [r])) z)) hf (Nat.le_refl _) (pair_new hT2 ⟨_, rfl⟩ ry)
    refine ⟨.ref s.heap.objs.size, _, J1, rfl, ⟨_, _, _, rfl, J.hok.fresh (Nat.le_refl _), rfl, rfl, hx⟩, ⟨⟨y, ?_⟩, hst.1.at fun o z => (sb.2 it (Ne.symm n1)).trans z⟩, fun b hb => ?_⟩
    · rw [show ((i + 1 : Nat) : Int) = (i : Int) + 1 from by omega]; exact he2
    · have lb : b < s.heap.objs.size := by
        rcases List.mem_cons.mp hb with r | r
        · rw [r]; exact le
        · rw [List.mem_singleton.mp r]; exact li
      rw [upd_ne (Nat.ne_of_lt lb)]
      exact (hf b hb).1
  done := by
    intro X eP eW eK calm i pins s σ H E J hf st hg
    subst eP eW eK
    obtain ⟨⟨u, h1⟩, h2⟩ := st
    obtain ⟨hq, hi⟩ := hg
    obtain ⟨vals, rel, tup, _⟩ := J.tuple hq
    have lv := rel.length
    subst hi
    have sz : vals.toArray.size = xs.length := by simp [lv]
    refine wpAny_pyNext_enum_endD (Draws.tuple (A := X.A.in1) (J.ok.hd calm) it a n2 vals.toArray) h1 ⟨by rw [sz]; exact h2, tup⟩ fun g hk => ⟨rfl, J.turnedL (t' := s.toks) (ch := [e, it]) (fun b o hb z => hk b o (fun r => hb (by simp [r])) z) hf⟩
  self := fun A i s Q E st h => by
    obtain ⟨⟨_, h1⟩, _⟩ := st
    exact wpAny_pyIter_enum h1 h
set_option maxHeartbeats 4000000 in
theorem meets_enumT (l : Addr) (items : Array Value) : Meets (Builtin.«enumerate.__new__» ⟨[.type "enumerate", .ref l], []⟩) (fun _ R s => s.heap.IsTuple l items ∧
      R (.ok (.ret (.ref (s.heap.push { cls := .type "tuple_iterator", data := .fields #[.ref l, .int 0 0] }).objs.size))) { s with heap := (s.heap.push { cls := .type "tuple_iterator", data := .fields #[.ref l, .int 0 0] }).push { cls := .type "enumerate", data := .fields #[.none, .bool false, .ref s.heap.objs.size, rawInt 0, .none, .none] } }) :=
  .of_wp fun prog w A R s hs => by
    obtain ⟨hp, gg, dd, tk, os⟩ := s
    obtain ⟨hT, hR⟩ := hs
    have hsub := sub_enumerate
    obtain ⟨ob, eo, co, no, so⟩ := id hT
    have tp : Heap.IsTuple (Shared.heap ⟨hp, gg, dd, tk, os⟩) l items := hT
    wp_walk using AutoSeq1.wpAny_loadPart' eo
    refine wpAny_stack_any fun st => wpAny_pure ?_
    split
    · rename_i c _ _ _ _ _
      cases (c == Value.type "enumerate") <;> (wp_walk using AutoSeq1.wpAny_loadPart' eo, wpAny_pyIter_tuple tp; exact ⟨_, rfl, hR⟩)
    · (wp_walk using AutoSeq1.wpAny_loadPart' eo, wpAny_pyIter_tuple tp; exact ⟨_, rfl, hR⟩)
end E94H
set_option Elab.async false
set_option linter.all false
set_option maxRecDepth 100000
set_option maxHeartbeats 2000000
namespace E94H
open PySem PySem.Spec PyProof.Rows L2
theorem nN {x y : Nat} (h : ¬ x = y) : @Ne Addr x y := h
theorem out2 {x y z : Nat} (h1 : ¬ x = y) (h2 : ¬ x = z) : (x : Addr) ∉ ([y, z] : List Addr) := fun m => by
  rcases List.mem_cons.mp m with e | e
  · exact h1 e
  · exact h2 (List.mem_singleton.mp e)
theorem sep_new {n a b : Nat} (la : a < n) (lb : b < n) : ZipSep2 (n + 4) (n + 2) (n + 3) n (n + 1) [n, a] [n + 1, b] where
  TIz := nN (by omega)
  TOz := nN (by omega)
  TITO := nN (by omega)
  TIi1 := nN (by omega)
  mem1 := List.mem_cons_self ..
  zf1 := out2 (by omega) (by omega)
  Tf1 := out2 (by omega) (by omega)
  TIi2 := nN (by omega)
  mem2 := List.mem_cons_self ..
  zf2 := out2 (by omega) (by omega)
  Tf2 := out2 (by omega) (by omega)
  sep1_2 := out2 (by omega) (by omega)
  sep2_1 := out2 (by omega) (by omega)
theorem call_enumT {prog : Program} {w : World} {A : Around} {E : Value → Shared → Prop} {s : Shared} {l : Addr} {items : Array Value} {Q : Value → Shared → Prop} (hL : s.heap.IsTuple l items)
    (go : ∀ g, IsEnum g (s.heap.objs.size + 1) s.heap.objs.size 0 .none → g.IsTupleIter s.heap.objs.size l 0 → (∀ b o, s.heap.get? b = some o → g.get? b = some o) → Q (.ref (s.heap.objs.size + 1)) { s with heap := g }) :
    wpAny (model prog w) A (call (.type "enumerate") [.ref l]) Q E s := by
  refine callType_new F.called_enumerate (by decide) (F.typeCall_enumerate_1 _) (F.newCall_enumerate_1 _) (fun ob => F.args_object_init_2 ob _) F.entry_enumerate_new (meets_enumT l items) ⟨hL, ?_⟩
  generalize eI : ({ cls := .type "tuple_iterator", data := .fields #[.ref l, .int 0 0] } : Obj) = oI
  generalize eE : ({ cls := .type "enumerate", data := .fields #[.none, .bool false, .ref s.heap.objs.size, rawInt 0, .none, .none] } : Obj) = oE
  have sz : (s.heap.push oI).objs.size = s.heap.objs.size + 1 := Heap.size_push ..
  have fI : oI.isFreed = false := by rw [← eI]; rfl
  have fE : oE.isFreed = false := by rw [← eE]; rfl
  have g1 : ((s.heap.push oI).push oE).get? (s.heap.objs.size + 1) = some oE := by rw [← sz]; exact Heap.get?_push_size _ fE
  have g2 : ((s.heap.push oI).push oE).get? s.heap.objs.size = some oI := Heap.get?_push_of_some _ (Heap.get?_push_size _ fI)
  show _ ∧ _
  rw [sz]
  refine ⟨⟨oE, g1, by rw [← eE]⟩, go _ (by show Heap.get? _ _ = _; rw [g1, ← eE]) ⟨oI, g2, by rw [← eI], by rw [← eI]; rfl⟩ fun b o z => Heap.get?_push_of_some _ (Heap.get?_push_of_some _ z)⟩
def iEnumT (K : PySem.W.Frag) (ta : TA) : TI := fun σ H R => ta σ H fun vs H1 => ∃ a xs, vs = [.ref a] ∧ SqT K H1 a xs ∧ R (JE K a xs) H1
theorem pi_enumT {X : Cx} {e : Expr} {ta : TA} {p pos tpos : Pos} {elts : List Expr} {kk : Nat} (hg : Gl X "enumerate") (hm : X.mg "enumerate" = none) (ha : PA X [e] ta) (one : starEach [e] X.env = [(false, eval e X.env)] := by rfl) :
    PI X (.Tuple elts kk tpos) (.Call (.Name "enumerate" p) [e] [] pos) (iEnumT X.K ta) := ⟨fun pins s σ H R J h => by
  refine Call_ (ld_blt J hg hm boot_enumerate (PyProof.Rows.callWith_type1 (thn (ha.run pos pins s σ H _ J h) fun us s1 got => ?_) one rfl))
  obtain ⟨vs, H1, J1, rel, a, xs, rfl, hq, q⟩ := got
  cases rel with
  | cons r rr =>
    cases rr
    cases r
    obtain ⟨vals, rv, tup, _⟩ := J1.tuple hq
    obtain ⟨oa, ea, _⟩ := id tup
    have la : a < s1.heap.objs.size := Heap.lt_size ea
    refine call_enumT (items := vals.toArray) tup fun g hE hI hk => wpAny_pyIter_enum hE ?_
    have J2 : Inv X pins σ H1 { s1 with heap := g } := J1.kept (t' := s1.toks) hk
    refine ⟨_, [s1.heap.objs.size + 1, s1.heap.objs.size], _, _, H1, rfl, J2, turn_JE (Nat.succ_ne_self _) (Nat.ne_of_lt la) (Nat.ne_of_gt (Nat.lt_succ_of_lt la)), ⟨⟨.none, hE⟩, hI⟩, fun b hb => ?_, q⟩
    have lb : s1.heap.objs.size ≤ b := by
      rcases List.mem_cons.mp hb with z | z
      · rw [z]; exact Nat.le_succ _
      · rw [List.mem_singleton.mp z]; exact Nat.le_refl _
    exact J1.fpOk lb (J1.hok.fresh lb)⟩
/-! zip of a list and a tuple -/
def JZ (K : PySem.W.Frag) (a b : Addr) (xs ys : List V) : It := ⟨fun i H => (SqL K H a xs ∧ SqT K H b ys) ∧ i < xs.length ∧ i < ys.length, YPair (fun j => xs[j]?) (fun j => ys[j]?), fun i H => (SqL K H a xs ∧ SqT K H b ys) ∧ i = min xs.length ys.length⟩
theorem walk_JZ {K : PySem.W.Frag} {a b : Addr} {xs ys : List V} {n : Nat} (hn : n = min xs.length ys.length) : Walk (JZ K a b xs ys) n (fun H => SqL K H a xs ∧ SqT K H b ys) (YPair (fun j => xs[j]?) (fun j => ys[j]?)) :=
  ⟨fun _ _ hi q => ⟨q, by omega, by omega⟩, fun _ q => ⟨q, hn⟩, fun _ _ _ _ _ _ y => y⟩
theorem in5 {c z t o i j : Addr} (h : c ∈ [z, t, o, i, j]) : c = z ∨ c = t ∨ c = o ∨ c = i ∨ c = j := by simpa using h
theorem turn_JZ {P : Program} {w : World} {K : PySem.W.Frag} {elts : List Expr} {kk : Nat} {tpos : Pos} {a b z t o i1 i2 : Addr} {xs ys : List V} (S : ZipSep2 z t o i1 i2 [i1, a] [i2, b]) (na : a ≠ i1) (nb : b ≠ i2) :
    Turn P w K (.Tuple elts kk tpos) (JZ K a b xs ys) [z, t, o, i1, i2] z (fun i h => IsZip h z t o .none ∧ IsTupOf2 h t (.ref i1) (.ref i2) ∧ (∃ u v, IsTupOf2 h o u v) ∧ h.IsListIter i1 a i ∧ h.IsTupleIter i2 b i) where
  mem := List.mem_cons_self ..
  obj := fun i h st c hc => by
    obtain ⟨hz, ht, ⟨u, v, ho⟩, ⟨p1, e1, _, d1⟩, ⟨p2, e2, _, d2⟩⟩ := st
    rcases in5 hc with r | r | r | r | r
    · exact r ▸ ⟨_, hz, fun _ k => nomatch k⟩
    · exact r ▸ ⟨_, ht, fun _ k => nomatch k⟩
    · exact r ▸ ⟨_, ho, fun _ k => nomatch k⟩
    · exact r ▸ ⟨p1, e1, fun _ k => by rw [d1] at k; cases k⟩
    · exact r ▸ ⟨p2, e2, fun _ k => by rw [d2] at k; cases k⟩
  keep := fun i h h' st kp => by
    obtain ⟨hz, ht, ⟨u, v, ho⟩, h1, h2⟩ := st
    exact ⟨kp z (by simp) _ hz, kp t (by simp) _ ht, ⟨u, v, kp o (by simp) _ ho⟩, h1.at fun p k => kp i1 (by simp) p k, h2.at fun p k => kp i2 (by simp) p k⟩
  item := by
    intro X eP eW eK calm i pins s σ H E J hf st hg
    subst eP eW eK
    obtain ⟨hz, ht, ⟨u0, v0, ho⟩, h1, h2⟩ := st
    obtain ⟨⟨hq1, hq2⟩, l1, l2⟩ := hg
    obtain ⟨vals, rel, pl, _⟩ := J.list hq1
    obtain ⟨vals2, rel2, tup, _⟩ := J.tuple hq2
    have lv := rel.length
    have lv2 := rel2.length
    have lz : z < s.heap.objs.size := Heap.lt_size hz
    refine wpAny_pyNext_zipD2_item S (Draws.list (A := X.A.in1) (J.ok.hd calm) i1 a na vals.toArray) (Draws.tuple (A := X.A.in1) (J.ok.hd calm) i2 b nb vals2.toArray) hz ht ho ⟨h1, pl.isList⟩ ⟨h2, tup⟩ (by simp; omega) (by simp; omega) fun y1 y2 g tk p1 p2 gz go g1 g2 gT gs gk => ?_
    refine ⟨_, rfl, wpAny_letOwnedTupleGo_zip (s := { s with heap := g, toks := tk }) gz fun k kz sb => ?_⟩
    have hx : xs[i]? = some xs[i] := List.getElem?_eq_getElem l1
    have hy : ys[i]? = some ys[i] := List.getElem?_eq_getElem l2
    obtain ⟨y1', q1, r1⟩ := rel.get hx
    obtain ⟨y2', q2, r2⟩ := rel2.get hy
    have e1 : y1 = y1' := by
      have : vals.toArray[i]? = some y1 := p1
      simp at this
      rw [q1] at this
      exact (Option.some.inj this).symm
    have e2 : y2 = y2' := by
      have : vals2.toArray[i]? = some y2 := p2
      simp at this
      rw [q2] at this
      exact (Option.some.inj this).symm
    subst e1 e2
    have kT : k.get? s.heap.objs.size = some { cls := .type "tuple", data := .seq #[y1, y2] } := (sb.2 _ (Nat.ne_of_gt lz)).trans gT
    have J1 : Inv X pins σ (upd H s.heap.objs.size (.tup [xs[i], ys[i]])) { s with heap := k, toks := tk } :=
      J.turnedNew (ch := [z, t, o, i1, i2]) (fun c ob hb m => (sb.2 c (fun r => hb (by simp [r]))).trans (gk c ob (fun r => hb (by simp [r])) (fun r => hb (by simp [r])) (fun r => hb (by simp [r])) (fun r => hb (by simp [r])) m)) hf (Nat.le_refl _) (pair_new kT r1 r2)
    refine ⟨.ref s.heap.objs.size, _, J1, rfl, ⟨_, _, _, rfl, J.hok.fresh (Nat.le_refl _), rfl, hx, hy⟩, ⟨kz, (sb.2 _ S.TIz).trans (gk _ _ S.TIz S.TITO S.TIi1 S.TIi2 ht), ⟨y1, y2, (sb.2 _ S.TOz).trans go⟩, g1.1.at fun p m => (sb.2 _ S.zi1.symm).trans m, g2.1.at fun p m => (sb.2 _ S.zi2.symm).trans m⟩, fun c hc => ?_⟩
    have lc : c < s.heap.objs.size := by
      obtain ⟨_, m1, _⟩ := h1
      obtain ⟨_, m2, _⟩ := h2
      rcases in5 hc with r | r | r | r | r
      · exact r ▸ lz
      · exact r ▸ Heap.lt_size ht
      · exact r ▸ Heap.lt_size ho
      · exact r ▸ Heap.lt_size m1
      · exact r ▸ Heap.lt_size m2
    rw [upd_ne (Nat.ne_of_lt lc)]
    exact (hf c hc).1
  done := by
    intro X eP eW eK calm i pins s σ H E J hf st hg
    subst eP eW eK
    obtain ⟨hz, ht, ⟨u0, v0, ho⟩, h1, h2⟩ := st
    obtain ⟨⟨hq1, hq2⟩, hi⟩ := hg
    obtain ⟨vals, rel, pl, _⟩ := J.list hq1
    obtain ⟨vals2, rel2, tup, _⟩ := J.tuple hq2
    have lv := rel.length
    have lv2 := rel2.length
    exact wpAny_pyNext_zipD2_end S (Draws.list (A := X.A.in1) (J.ok.hd calm) i1 a na vals.toArray) (Draws.tuple (A := X.A.in1) (J.ok.hd calm) i2 b nb vals2.toArray) hz ht ho ⟨h1, pl.isList⟩ ⟨h2, tup⟩ (by simp; omega) (by simp; omega) (by simp; omega) fun g tk gk =>
      ⟨rfl, J.turnedL (ch := [z, t, o, i1, i2]) (fun c p hb m => gk c p (fun r => hb (by simp [r])) (fun r => hb (by simp [r])) (fun r => hb (by simp [r])) (fun r => hb (by simp [r])) m) hf⟩
  self := fun A i s Q E st h => wpAny_pyIter_zip st.1 h
def iZipLT (K : PySem.W.Frag) (ta : TA) : TI := fun σ H R => ta σ H fun vs H1 => ∃ a b xs ys, vs = [.ref a, .ref b] ∧ SqL K H1 a xs ∧ SqT K H1 b ys ∧ R (JZ K a b xs ys) H1
theorem pi_zipLT {X : Cx} {e e2 : Expr} {ta : TA} {p pos tpos : Pos} {elts : List Expr} {kk : Nat} (hg : Gl X "zip") (hm : X.mg "zip" = none) (ha : PA X [e, e2] ta)
    (two : starEach [e, e2] X.env = (false, eval e X.env) :: starEach [e2] X.env := by rfl) (rest : (backTo pos (starEach [e2] X.env)).any (·.1) = false := by rfl) :
    PI X (.Tuple elts kk tpos) (.Call (.Name "zip" p) [e, e2] [] pos) (iZipLT X.K ta) := ⟨fun pins s σ H R J h => by
  refine Call_ (ld_blt J hg hm PyProof.Rows.boot_zip (PyProof.Rows.callWith_type1 (thn (ha.run pos pins s σ H _ J h) fun us s1 got => ?_) two rest))
  obtain ⟨vs, H1, J1, rel, a, b, xs, ys, rfl, hq1, hq2, q⟩ := got
  cases rel with
  | cons r rr =>
    cases rr with
    | cons r' rr =>
      cases rr
      cases r
      cases r'
      obtain ⟨vals, rv, pl, _⟩ := J1.list hq1
      obtain ⟨vals2, rv2, tup, _⟩ := J1.tuple hq2
      obtain ⟨ob, eb, _⟩ := id tup
      have la : a < s1.heap.objs.size := pl.lt
      have lb : b < s1.heap.objs.size := Heap.lt_size eb
      refine zip_begins2 (begins_list a vals.toArray) (begins_tuple b vals2.toArray) pl.isList tup fun g gz gt go g1 g2 gs gk => wpAny_pyIter_zip gz ?_
      have J2 : Inv X pins σ H1 { s1 with heap := g } := J1.kept (t' := s1.toks) gk
      refine ⟨_, [s1.heap.objs.size + 4, s1.heap.objs.size + 2, s1.heap.objs.size + 3, s1.heap.objs.size, s1.heap.objs.size + 1], _, _, H1, rfl, J2, turn_JZ (sep_new la lb) (Nat.ne_of_lt la) (Nat.ne_of_lt (Nat.lt_succ_of_lt lb)), ⟨gz, gt, ⟨_, _, go⟩, ⟨_, g1, rfl, rfl⟩, ⟨_, g2, rfl, rfl⟩⟩, fun c hc => ?_, q⟩
      have lc : s1.heap.objs.size ≤ c := by rcases in5 hc with z | z | z | z | z <;> (rw [z]; first | exact Nat.le_refl _ | exact Nat.le_add_right _ _)
      exact J1.fpOk lc (J1.hok.fresh lc)⟩
end E94H
set_option Elab.async false
set_option linter.all false
set_option maxRecDepth 100000
set_option maxHeartbeats 2000000
namespace E94H
open PySem PySem.Spec PyProof.Rows L2
section
variable {P : Program} {w : World} {K : PySem.W.Frag} {mg : Str → Option Value} {base : Heap}
/-! ### are_letters -/
theorem sc_are_letters : FnScope ["letters", "before", "letter"] ["letters"] (defScope s_are_letters) := ⟨rfl, rfl, rfl, by decide +kernel, rfl, by decide +kernel, by decide +kernel⟩
def sp_are_letters (K : PySem.W.Frag) : Sp := fun vs H Q _ => ∃ (a : Addr) (l : List Nat), vs = [.ref a] ∧ SqL K H a ((ofN l).map V.int) ∧ Q (.bl (Al04.lettersOk l)) H
def befL (l : List Nat) (i : Nat) : Int := match i with
  | 0 => -1
  | j + 1 => (l.getD j 0 : Nat)
theorem let_no {l : List Nat} (h : ¬ E94.LetOk l) : Al04.lettersOk l = false := by
  cases e : Al04.lettersOk l with
  | false => rfl
  | true => exact absurd (E94.lettersOk_iff.mp e) h
theorem ok_are_letters {f : Addr} {fd : FuncData} {k : Nat} {t3 t25 : Tok} (F : Fun K "are_letters" "are_letters" s_are_letters f fd) (g3 : mg "MOST_LETTERS" = some (.int 3 t3)) (g25 : mg "LAST_LETTER" = some (.int 25 t25)) (mlen : mg "len" = none) : FnOk P w K mg base CX0 (k + 1) f fd ["letters"] (sp_are_letters K) := by
  refine F.ok sc_are_letters (fun vs H Q E h => ?_) (fun cdv A outer s H vs Q E hr h => ?_)
  · obtain ⟨a, l, rfl, _⟩ := h
    rfl
  · obtain ⟨a, l, rfl, hA, q⟩ := h
    refine ⟨_, pss_cons (ps_if (PW.pt (pw_or (pt_cmpR op_lt (pe_callB call_len_seq (by rfl) mlen PySem.boot_len (pa_cons (pv 0) pa_nil)) pe_int (nomark _)) (pw_or1 (pt_cmpR op_gt (pe_callB call_len_seq (by rfl) mlen PySem.boot_len (pa_cons (pv 0) pa_nil)) (pe_glob (v := .int 3) (by rfl) g3 ⟨_, rfl⟩) (nomark _)))))
        (pss_one (ps_ret pe_bl)) pss_nil)
      (pss_cons (ps_set (i := 1) sc_are_letters.nd rfl (.inl rfl) (pe_un un_neg pe_int))
      (pss_cons (ps_for PassesOwn.never rfl (pi_list (pv 0)) (pg_name (i := 2) sc_are_letters.nd rfl (.inl rfl))
        (pss_cons (ps_if (PW.pt (pw_or (pt_cmpR op_le (pv 2) (pv 1) (nomark _)) (pw_or1 (pt_cmpR op_gt (pv 2) (pe_glob (v := .int 25) (by rfl) g25 ⟨_, rfl⟩) (nomark _))))) (pss_one (ps_ret pe_bl)) pss_nil)
        (pss_one (ps_set (i := 1) sc_are_letters.nd rfl (.inl rfl) (pv 2)))))
      (pss_one (ps_ret pe_bl)))), ?_⟩
    have lenV : ((ofN l).map V.int).length = l.length := by rw [List.length_map, ofN_len]
    refine ⟨_, rfl, a, _, rfl, .inl hA, _, _, rfl, rfl, _, rfl, ?_⟩
    rw [lenV]
    have bad : ∀ H', H' = H → ¬ E94.LetOk l → Q (.bl false) H' := fun H' e h => by rw [e, ← let_no h]; exact q
    refine ite2 (fun e => iteT ?_) (fun e => ?_)
    · have e' : (l.length : Int) < 1 := of_decide_eq_true e
      exact bad H rfl fun h => by have := h.one; omega
    · have e' : ¬ (l.length : Int) < 1 := fun z => e (decide_eq_true z)
      refine ⟨_, rfl, a, _, rfl, .inl hA, _, _, rfl, rfl, _, rfl, ?_⟩
      rw [lenV]
      refine ite2 (fun e2 => ?_) (fun e2 => ?_)
      · have e2' : (3 : Int) < (l.length : Int) := of_decide_eq_true e2
        exact bad H rfl fun h => by have := h.three; omega
      · have e2' : ¬ (3 : Int) < (l.length : Int) := fun z => e2 (decide_eq_true z)
        refine ⟨_, rfl, ?_⟩
        refine ⟨_, rfl, a, rfl, ⟨_, hA⟩, for_list (K := K) (a := a) (xs := (ofN l).map V.int) (fun i σ H' => H' = H ∧ ((l.take i).Pairwise (· < ·) ∧ ∀ x ∈ l.take i, x < 26) ∧ ∃ y, σ = [some (.ref a), some (.int (befL l i)), y]) ⟨rfl, ⟨by simp, by simp⟩, none, rfl⟩ (fun i σ H' _ h => by rw [h.1]; exact hA) ?_ ?_⟩
        · rintro i x σ H' hi ⟨rfl, ⟨hp, h26⟩, y, rfl⟩
          obtain ⟨b, hb, rfl⟩ := get_nat hi
          have hbl : i < l.length := by
            rcases Nat.lt_or_ge i l.length with h | h
            · exact h
            · rw [List.getElem?_eq_none h] at hb; cases hb
          refine ⟨_, rfl, _, rfl, _, _, rfl, rfl, _, rfl, ite2 (fun e3 => iteT ?_) (fun e3 => ?_)⟩
          · have e3' : (b : Int) ≤ befL l i := of_decide_eq_true e3
            refine bad _ rfl fun h => ?_
            cases i with
            | zero => unfold befL at e3'; dsimp only at e3'; omega
            | succ j =>
              have := E94.pair_get h.asc (z := 0) (i := j) (j := j + 1) (by omega) hbl
              rw [List.getD_eq_getElem?_getD (i := j + 1), hb] at this
              unfold befL at e3'
              dsimp only [Option.getD] at this e3'
              omega
          · have e3' : ¬ (b : Int) ≤ befL l i := fun z => e3 (decide_eq_true z)
            refine ⟨_, rfl, _, _, rfl, rfl, _, rfl, ite2 (fun e4 => ?_) (fun e4 => ?_)⟩
            · have e4' : (25 : Int) < (b : Int) := of_decide_eq_true e4
              exact bad _ rfl fun h => by have := h.hi b (List.mem_of_getElem? hb); omega
            · have e4' : ¬ (25 : Int) < (b : Int) := fun z => e4 (decide_eq_true z)
              refine ⟨_, rfl, rfl, ⟨?_, ?_⟩, some (.int (b : Int)), ?_⟩
              · rw [take_more hb, List.pairwise_append]
                refine ⟨hp, by simp, fun x hx y hy => ?_⟩
                rw [List.mem_singleton.mp hy]
                cases i with
                | zero => simp at hx
                | succ j =>
                  have hlj : l[j]? = some (l.getD j 0) := by rw [List.getD_eq_getElem?_getD, List.getElem?_eq_getElem (by omega)]; rfl
                  rw [take_more hlj, List.pairwise_append] at hp
                  rw [take_more hlj] at hx
                  have e3'' : l.getD j 0 < b := by unfold befL at e3'; dsimp only at e3'; omega
                  rcases List.mem_append.mp hx with hx | hx
                  · exact Nat.lt_trans (hp.2.2 x hx _ (List.mem_singleton.mpr rfl)) e3''
                  · rw [List.mem_singleton.mp hx]; exact e3''
              · intro x hx
                rw [take_more hb] at hx
                rcases List.mem_append.mp hx with hx | hx
                · exact h26 x hx
                · rw [List.mem_singleton.mp hx]; omega
              · have : befL l (i + 1) = (b : Int) := by
                  show ((l.getD i 0 : Nat) : Int) = b
                  rw [List.getD_eq_getElem?_getD, hb]; rfl
                rw [this]; rfl
        · rintro σ H' ⟨rfl, ⟨hp, h26⟩, y, rfl⟩
          rw [lenV, List.take_length] at hp h26
          have : Al04.lettersOk l = true := E94.lettersOk_iff.mpr ⟨hp, by omega, by omega, h26⟩
          rw [this] at q
          exact q
end
end E94H
set_option Elab.async false
set_option linter.all false
set_option maxRecDepth 100000
set_option maxHeartbeats 2000000
namespace E94H
open PySem PySem.Spec PyProof.Rows L2
section
variable {P : Program} {w : World} {K : PySem.W.Frag} {mg : Str → Option Value} {base : Heap}
/-! ### is_too_large -/
theorem sc_is_too_large : FnScope ["polynomial", "term"] ["polynomial"] (defScope s_is_too_large) := ⟨rfl, rfl, rfl, by decide +kernel, rfl, by decide +kernel, by decide +kernel⟩
def sp_is_too_large (K : PySem.W.Frag) : Sp := fun vs H Q _ => ∃ (v : V) (p : E94.MP), vs = [v] ∧ Dp K H v (dPoly p) ∧ ∀ H', Same H H' → Q (.bl (E94.tooLargeM p)) H'
theorem ok_is_too_large {f fD : Addr} {fd fdD : FuncData} {k : Nat} {t5 t12 t9 : Tok} (F : Fun K "is_too_large" "is_too_large" s_is_too_large f fd) (FD : Fun K "degree_of" "degree_of" s_degree_of fD fdD) (bD : Binds K fdD ["polynomial"] []) (gD : mg "degree_of" = some (.ref fD))
    (g5 : mg "LARGEST_DEGREE" = some (.int 5 t5)) (g12 : mg "MOST_PRODUCTS" = some (.int 12 t12)) (g9 : mg "LARGEST_WHOLE" = some (.int 9999 t9)) (mlen : mg "len" = none) (mabs : mg "abs" = none) : FnOk P w K mg base CX0 (k + 2) f fd ["polynomial"] (sp_is_too_large K) := by
  have GD : FnOk P w K mg base CX0 (k + 1) fD fdD ["polynomial"] (sp_degree_of K) := ok_degree_of FD
  refine F.ok sc_is_too_large (fun vs H Q E h => ?_) (fun cdv A outer s H vs Q E hr h => ?_)
  · obtain ⟨v, p, rfl, _⟩ := h
    rfl
  · obtain ⟨v, p, rfl, hD, q⟩ := h
    refine ⟨_, pss_cons (ps_if (PW.pt (pw_or (pt_cmpR op_gt (pe_call GD hr (by rfl) gD FD.kp bD .nil pass0 (pa_cons (pv 0) pa_nil)) (pe_glob (v := .int 5) (by rfl) g5 ⟨_, rfl⟩) (nomark _)) (pw_or1 (pt_cmpR op_gt (pe_callB call_len_seq (by rfl) mlen PySem.boot_len (pa_cons (pv 0) pa_nil)) (pe_glob (v := .int 12) (by rfl) g12 ⟨_, rfl⟩) (nomark _)))))
        (pss_one (ps_ret pe_bl)) pss_nil)
      (pss_cons (ps_for PassesOwn.never rfl (pi_list (pv 0)) (pg_name (i := 1) sc_is_too_large.nd rfl (.inl rfl))
        (pss_one (ps_if (PW.pt (pw_or (pt_cmpR op_gt (pe_callB call_abs (by rfl) mabs (by decide +kernel) (pa_cons (pe_ix ix_tup (pv 1) pe_int (fun _ _ => rfl)) pa_nil)) (pe_glob (v := .int 9999) (by rfl) g9 ⟨_, rfl⟩) (nomark _)) (pw_or1 (pt_cmpR op_gt (pe_ix ix_tup (pv 1) pe_int (fun _ _ => rfl)) (pe_glob (v := .int 9999) (by rfl) g9 ⟨_, rfl⟩) (nomark _))))) (pss_one (ps_ret pe_bl)) pss_nil)))
      (pss_one (ps_ret pe_bl))), ?_⟩
    obtain ⟨a, xs, rfl, hL, hAll⟩ := dp_poly hD
    refine ⟨_, rfl, _, p, rfl, hD, fun H2 sm => ?_⟩
    have hL2 := sm.seq hL
    have lx : xs.length = p.length := by rw [dpAll_len hAll, List.length_map]
    refine ⟨_, _, rfl, rfl, _, rfl, ite2 (fun e => iteT ?_) (fun e => ?_)⟩
    · have e' : (5 : Int) < (E94.degM p : Nat) := of_decide_eq_true e
      have t : E94.tooLargeM p = true := by
        unfold E94.tooLargeM
        rw [decide_eq_true (show 5 < E94.degM p by omega)]; rfl
      have := q _ sm
      rw [t] at this
      exact this
    · have e' : ¬ (5 : Int) < (E94.degM p : Nat) := fun z => e (decide_eq_true z)
      refine ⟨_, rfl, a, _, rfl, .inl hL2, _, _, rfl, rfl, _, rfl, ?_⟩
      rw [lx]
      refine ite2 (fun e2 => ?_) (fun e2 => ?_)
      · have e2' : (12 : Int) < (p.length : Nat) := of_decide_eq_true e2
        have t : E94.tooLargeM p = true := by
          unfold E94.tooLargeM
          rw [decide_eq_true (show 12 < p.length by omega)]; simp
        have := q _ sm
        rw [t] at this
        exact this
      · have e2' : ¬ (12 : Int) < (p.length : Nat) := fun z => e2 (decide_eq_true z)
        have tl : E94.tooLargeM p = p.any fun t => decide (9999 < t.2.1.natAbs) || decide (9999 < t.2.2) := by
          unfold E94.tooLargeM
          rw [decide_eq_false (show ¬ 5 < E94.degM p by omega), decide_eq_false (show ¬ 12 < p.length by omega), Bool.false_or, Bool.false_or]
        refine ⟨_, rfl, a, rfl, ⟨_, hL2⟩, for_list (K := K) (a := a) (xs := xs) (fun i σ H' => H' = H2 ∧ (∀ t ∈ p.take i, t.2.1.natAbs ≤ 9999 ∧ t.2.2 ≤ 9999) ∧ ∃ y, σ = [some (.ref a), y]) ⟨rfl, by simp, none, rfl⟩ (fun i σ H' _ h => by rw [h.1]; exact hL2) ?_ ?_⟩
        · rintro i x σ H' hi ⟨rfl, hok, y, rfl⟩
          obtain ⟨t, ht, hdp⟩ := dpAll_get hAll hi
          obtain ⟨a2, b2, rfl, hT, _⟩ := dp_term (same_dp sm _ _ hdp)
          have bad : 9999 < t.2.1.natAbs ∨ 9999 < t.2.2 → Q (.bl true) H' := fun h => by
            have : E94.tooLargeM p = true := by
              rw [tl, List.any_eq_true]
              refine ⟨t, List.mem_of_getElem? ht, ?_⟩
              rw [Bool.or_eq_true, decide_eq_true_iff, decide_eq_true_iff]
              exact h
            have q' := q _ sm
            rw [this] at q'
            exact q'
          refine ⟨_, rfl, a2, _, _, _, rfl, rfl, hT, rfl, t.2.1, rfl, ?_⟩
          rw [abs_nat]
          refine ⟨_, _, rfl, rfl, _, rfl, ite2 (fun e3 => iteT ?_) (fun e3 => ?_)⟩
          · have e3' : (9999 : Int) < (t.2.1.natAbs : Int) := of_decide_eq_true e3
            exact bad (.inl (by omega))
          · have e3' : ¬ (9999 : Int) < (t.2.1.natAbs : Int) := fun z => e3 (decide_eq_true z)
            refine ⟨_, rfl, a2, _, _, _, rfl, rfl, hT, rfl, _, _, rfl, rfl, _, rfl, ite2 (fun e4 => ?_) (fun e4 => ?_)⟩
            · have e4' : (9999 : Int) < (t.2.2 : Int) := of_decide_eq_true e4
              exact bad (.inr (by omega))
            · have e4' : ¬ (9999 : Int) < (t.2.2 : Int) := fun z => e4 (decide_eq_true z)
              refine ⟨rfl, fun u hu => ?_, _, rfl⟩
              rw [take_more ht] at hu
              rcases List.mem_append.mp hu with hu | hu
              · exact hok u hu
              · rw [List.mem_singleton.mp hu]; omega
        · rintro σ H' ⟨rfl, hok, y, rfl⟩
          rw [lx, List.take_length] at hok
          have : E94.tooLargeM p = false := by
            rw [tl, List.any_eq_false]
            intro t ht
            have := hok t ht
            simp
            omega
          have q' := q _ sm
          rw [this] at q'
          exact q'
end
end E94H
set_option Elab.async false
set_option linter.all false
set_option maxRecDepth 100000
set_option maxHeartbeats 2000000
namespace E94H
open PySem PySem.Spec PyProof.Rows L2
section
variable {P : Program} {w : World} {K : PySem.W.Frag} {mg : Str → Option Value} {base : Heap}
/-! ### has_other_letter -/
theorem sc_has_other_letter : FnScope ["polynomial", "letters", "term", "letter", "often"] ["polynomial", "letters"] (defScope s_has_other_letter) := ⟨rfl, rfl, rfl, by decide +kernel, rfl, by decide +kernel, by decide +kernel⟩
def sp_has_other_letter (K : PySem.W.Frag) : Sp := fun vs H Q _ => ∃ (v : V) (a : Addr) (p : E94.MP) (l : List Nat), vs = [v, .ref a] ∧ Dp K H v (dPoly p) ∧ SqL K H a ((ofN l).map V.int) ∧ (∀ t ∈ p, t.1.length = 26) ∧ ∀ H', Same H H' → Q (.bl (E94.otherM l p)) H'
theorem int_flat (l : List Int) : (l.map V.int).all flatV = true := by
  rw [List.all_map, List.all_eq_true]
  intro x _
  rfl
theorem in_ofN (j : Nat) (l : List Nat) : inV (.int (j : Int)) ((ofN l).map V.int) = l.contains j := by
  unfold inV ofN
  rw [List.any_map, List.any_map]
  induction l with
  | nil => rfl
  | cons a l ih =>
    rw [List.any_cons, ih, List.contains_cons]
    congr 1
    show eqV (.int (a : Int)) (.int (j : Int)) = _
    have : eqV (.int (a : Int)) (.int (j : Int)) = decide ((a : Int) = (j : Int)) := by
      first | rfl | simp [eqV]
    rw [this]
    by_cases h : a = j
    · subst h; simp
    · rw [decide_eq_false (by omega)]
      simp [Ne.symm h]
theorem cut_tup (c : List Nat) : cutV ((tupC c).map V.int) (some 1) none = (ofN c).map V.int := by
  rw [cut1]
  rfl
theorem cut_part (c : List Nat) : ¬ (HT.sIx ((tupC c).map V.int).length 0 (some 1) = 0 ∧ HT.sIx ((tupC c).map V.int).length ((tupC c).map V.int).length none = ((tupC c).map V.int).length) := by
  rintro ⟨h, _⟩
  rw [List.length_map, tupC_len] at h
  unfold HT.sIx at h
  simp at h
theorem otherM_at {l : List Nat} {p : E94.MP} {t : E94.MT} {j : Nat} (ht : t ∈ p) (hj : j < 26) (h0 : 0 < t.1.getD j 0) (hl : l.contains j = false) : E94.otherM l p = true := by
  unfold E94.otherM
  rw [List.any_eq_true]
  refine ⟨t, ht, List.any_eq_true.mpr ⟨j, List.mem_range.mpr hj, ?_⟩⟩
  rw [decide_eq_true h0, hl]
  rfl
theorem otherM_no {l : List Nat} {p : E94.MP} (h : ∀ t ∈ p, ∀ j, j < 26 → ¬ (0 < t.1.getD j 0 ∧ l.contains j = false)) : E94.otherM l p = false := by
  unfold E94.otherM
  rw [List.any_eq_false]
  intro t ht
  rw [Bool.not_eq_true, List.any_eq_false]
  intro j hj q
  rw [Bool.and_eq_true, decide_eq_true_iff, Bool.not_eq_true'] at q
  exact h t ht j (List.mem_range.mp hj) q
theorem ok_has_other_letter {f : Addr} {fd : FuncData} {k : Nat} (F : Fun K "has_other_letter" "has_other_letter" s_has_other_letter f fd) (menum : mg "enumerate" = none) : FnOk P w K mg base CX0 (k + 1) f fd ["polynomial", "letters"] (sp_has_other_letter K) := by
  refine F.ok sc_has_other_letter (fun vs H Q E h => ?_) (fun cdv A outer s H vs Q E hr h => ?_)
  · obtain ⟨v, a, p, l, rfl, _⟩ := h
    rfl
  · obtain ⟨v, aL, p, l, rfl, hD, hA, h26, q⟩ := h
    refine ⟨_, pss_cons (ps_for PassesOwn.never rfl (pi_list (pv 0)) (pg_name (i := 2) sc_has_other_letter.nd rfl (.inl rfl))
        (pss_one (ps_for PassesOwn.never rfl (pi_enumT (by rfl) menum (pa_cons (pe_slice sl_tup (pe_ix ix_tup (pv 2) pe_int (fun _ _ => rfl)) (po_some pe_int) po_none) pa_nil)) (pg_tup rfl (pgs_cons (pg_name (i := 3) sc_has_other_letter.nd rfl (.inl rfl)) (pgs_cons (pg_name (i := 4) sc_has_other_letter.nd rfl (.inl rfl)) pgs_nil)))
          (pss_one (ps_if (PW.pt (pw_and (pt_cmpR op_gt (pv 4) pe_int (nomark _)) (pw_and1 (pt_cmpR op_notIn_seq (pv 3) (pv 1) rfl)))) (pss_one (ps_ret pe_bl)) pss_nil)))))
      (pss_one (ps_ret pe_bl)), ?_⟩
    obtain ⟨a, xs, rfl, hL, hAll⟩ := dp_poly hD
    have lx : xs.length = p.length := by rw [dpAll_len hAll, List.length_map]
    refine ⟨_, rfl, a, rfl, ⟨_, hL⟩, for_list (K := K) (a := a) (xs := xs) (fun i σ H' => Same H H' ∧ (∀ t ∈ p.take i, ∀ j, j < 26 → ¬ (0 < t.1.getD j 0 ∧ l.contains j = false)) ∧ ∃ y2 y3 y4, σ = [some (.ref a), some (.ref aL), y2, y3, y4]) ⟨Same.refl _, by simp, none, none, none, rfl⟩ (fun i σ H' _ h => h.1.seq hL) ?_ ?_⟩
    · rintro i x σ H2 hi ⟨sm, hok, y2, y3, y4, rfl⟩
      obtain ⟨t, ht, hdp⟩ := dpAll_get hAll hi
      have tm : t ∈ p := List.mem_of_getElem? ht
      obtain ⟨a2, b2, rfl, hT, hC⟩ := dp_term (same_dp sm _ _ hdp)
      refine ⟨_, rfl, a2, _, _, _, rfl, rfl, hT, rfl, 1, rfl, b2, _, rfl, hC, cut_part _, fun c nc => ?_⟩
      rw [cut_tup]
      have smc := same_upd (o := .tup ((ofN t.1).map V.int)) nc
      have hc : SqT K (upd H2 c (.tup ((ofN t.1).map V.int))) c ((ofN t.1).map V.int) := SqT.of upd_same
      refine ⟨c, _, rfl, hc, for_it (walk_JE (xs := (ofN t.1).map V.int)) (fun j σ2 H3 => Same (upd H2 c (.tup ((ofN t.1).map V.int))) H3 ∧ (∀ m, m < j → ¬ (0 < t.1.getD m 0 ∧ l.contains m = false)) ∧ ∃ z3 z4, σ2 = [some (.ref a), some (.ref aL), some (.ref a2), z3, z4]) ⟨Same.refl _, fun m hm => absurd hm (Nat.not_lt_zero _), _, _, rfl⟩ (fun j σ2 H3 _ h => same_sqT h.1 hc) ?_ ?_⟩
      · rintro j vv σ2 H3 H4 hj ⟨sm3, hno, z3, z4, rfl⟩ ⟨T, u1, u2, rfl, nT, rfl, g1, g2⟩
        have e1 : u1 = .int (j : Nat) := (Option.some.inj g1).symm
        subst e1
        obtain ⟨b, hb, rfl⟩ := get_nat g2
        have smT := same_upd (o := .tup [V.int (j : Nat), V.int (b : Int)]) nT
        have sm4 : Same H (upd H3 T (.tup [V.int (j : Nat), V.int (b : Int)])) := sm.trans (smc.trans (sm3.trans smT))
        have hbj : t.1.getD j 0 = b := by rw [List.getD_eq_getElem?_getD, hb]; rfl
        have j26 : j < 26 := by rw [List.length_map, ofN_len, h26 t tm] at hj; exact hj
        refine ⟨T, _, rfl, .inl (.inl upd_same), rfl, _, _, rfl, _, _, rfl, rfl, ?_⟩
        refine ⟨_, rfl, _, _, rfl, rfl, _, rfl, ite2 (fun e => ?_) (fun e => ?_)⟩
        · have e' : (0 : Int) < (b : Int) := of_decide_eq_true e
          refine ⟨_, rfl, _, rfl, aL, _, rfl, .inl (sm4.seq hA), rfl, int_flat _, _, rfl, ?_⟩
          rw [if_pos rfl, in_ofN]
          refine ite2 (fun e2 => ?_) (fun e2 => ?_)
          · have e2' : l.contains j = false := by simpa using e2
            have := q _ sm4
            rw [otherM_at tm j26 (by omega) e2'] at this
            exact this
          · refine ⟨sm3.trans smT, fun m hm => ?_, _, _, rfl⟩
            by_cases hmj : m = j
            · subst hmj
              rintro ⟨_, h2⟩
              exact e2 (by rw [h2]; rfl)
            · exact hno m (by omega)
        · have e' : ¬ (0 : Int) < (b : Int) := fun z => e (decide_eq_true z)
          refine iteF ⟨sm3.trans smT, fun m hm => ?_, _, _, rfl⟩
          by_cases hmj : m = j
          · subst hmj
            rintro ⟨h1, _⟩
            omega
          · exact hno m (by omega)
      · rintro σ2 H3 ⟨sm3, hno, z3, z4, rfl⟩
        rw [List.length_map, ofN_len, h26 t tm] at hno
        refine ⟨sm.trans (smc.trans sm3), fun u hu => ?_, _, _, _, rfl⟩
        rw [take_more ht] at hu
        rcases List.mem_append.mp hu with hu | hu
        · exact hok u hu
        · rw [List.mem_singleton.mp hu]; exact hno
    · rintro σ H' ⟨sm, hok, y2, y3, y4, rfl⟩
      rw [lx, List.take_length] at hok
      have := q _ sm
      rw [otherM_no hok] at this
      exact this
end
end E94H
set_option Elab.async false
set_option linter.all false
set_option maxRecDepth 100000
set_option maxHeartbeats 2000000
namespace E94H
open PySem PySem.Spec PyProof.Rows L2
section
variable {P : Program} {w : World} {K : PySem.W.Frag} {mg : Str → Option Value} {base : Heap}
/-! ### first_refusal -/
def dOpt : Option E94.MP → PyData
  | none => .none
  | some q => dPoly q
abbrev dOpts (os : List (Option E94.MP)) : PyData := .list (os.map dOpt)
def refM (n d : Nat) (l : List Nat) (os : List (Option E94.MP)) : Int := if Al04.lettersOk l = false then -4 else if 5 < d ∨ os.length < n ∨ n + 3 < os.length then -2 else (match os.mapM id with
  | none => -1
  | some qs => if qs.any (E94.otherM l) = true then -4 else if qs.any E94.tooLargeM = true then -2 else 0)
theorem mapM_id_none {os : List (Option E94.MP)} (h : none ∈ os) : os.mapM id = none := by
  induction os with
  | nil => cases h
  | cons o os ih =>
    rw [List.mapM_cons]
    cases o with
    | none => rfl
    | some q =>
      rcases List.mem_cons.mp h with h | h
      · cases h
      · rw [ih h]; rfl
theorem mapM_id_some {os : List (Option E94.MP)} (h : none ∉ os) : ∃ qs : List E94.MP, os = qs.map some ∧ os.mapM id = some qs := by
  induction os with
  | nil => exact ⟨[], rfl, rfl⟩
  | cons o os ih =>
    cases o with
    | none => exact absurd (List.mem_cons_self ..) h
    | some q =>
      obtain ⟨qs, e, e2⟩ := ih fun z => h (List.mem_cons_of_mem _ z)
      refine ⟨q :: qs, by rw [e]; rfl, ?_⟩
      rw [List.mapM_cons, e2]
      rfl
theorem shaped_opts (os : List (Option E94.MP)) : SeqAt.shaped (dOpts os) = true := by
  unfold SeqAt.shaped
  rw [Bool.and_eq_true]
  refine ⟨?_, decide_eq_true ?_⟩
  · simp only [PyData.canLay0]
    refine lay_all (fun o => ?_) os
    cases o with
    | none => rfl
    | some q => simp only [dOpt, PyData.canLay0]; exact lay_all lay_term q
  · simp only [PyData.depth]
    have := depth_all (f := dOpt) (n := 3) (fun o => by
      cases o with
      | none => simp [dOpt, PyData.depth]
      | some q =>
        simp only [dOpt, PyData.depth]
        have := depth_all depth_term q
        omega) os
    omega
theorem any_none (os : List (Option E94.MP)) : ((os.map dOpt).any fun z => PyData.eqv z .none) = decide (none ∈ os) := by
  rw [List.any_map]
  induction os with
  | nil => rfl
  | cons o os ih =>
    rw [List.any_cons, ih]
    cases o with
    | none => simp [dOpt, PyData.eqv]
    | some q => simp [dOpt, PyData.eqv]
theorem sc_first_refusal : FnScope ["d", "letters", "ahead", "polynomials", "polynomial"] ["d", "letters", "ahead", "polynomials"] (defScope s_first_refusal) := ⟨rfl, rfl, rfl, by decide +kernel, rfl, by decide +kernel, by decide +kernel⟩
def sp_first_refusal (K : PySem.W.Frag) : Sp := fun vs H Q _ => ∃ (v : V) (a : Addr) (n d : Nat) (l : List Nat) (os : List (Option E94.MP)), vs = [.int (d : Int), .ref a, .int (n : Int), v] ∧ n ≤ 1 ∧ SqL K H a ((ofN l).map V.int) ∧ Dp K H v (dOpts os) ∧ (∀ q, some q ∈ os → ∀ t ∈ q, t.1.length = 26) ∧ ∀ H', Same H H' → Q (.int (refM n d l os)) H'
structure RfFuns (K : PySem.W.Frag) (mg : Str → Option Value) (fL fO fT fD : Addr) (fdL fdO fdT fdD : FuncData) (t3 t25 t5 t12 t9 : Tok) : Prop where
  FL : Fun K "are_letters" "are_letters" s_are_letters fL fdL
  bL : Binds K fdL ["letters"] []
  gL : mg "are_letters" = some (.ref fL)
  FO : Fun K "has_other_letter" "has_other_letter" s_has_other_letter fO fdO
  bO : Binds K fdO ["polynomial", "letters"] []
  gO : mg "has_other_letter" = some (.ref fO)
  FT : Fun K "is_too_large" "is_too_large" s_is_too_large fT fdT
  bT : Binds K fdT ["polynomial"] []
  gT : mg "is_too_large" = some (.ref fT)
  FD : Fun K "degree_of" "degree_of" s_degree_of fD fdD
  bD : Binds K fdD ["polynomial"] []
  gD : mg "degree_of" = some (.ref fD)
  g3 : mg "MOST_LETTERS" = some (.int 3 t3)
  g25 : mg "LAST_LETTER" = some (.int 25 t25)
  g5 : mg "LARGEST_DEGREE" = some (.int 5 t5)
  g12 : mg "MOST_PRODUCTS" = some (.int 12 t12)
  g9 : mg "LARGEST_WHOLE" = some (.int 9999 t9)
  mlen : mg "len" = none
  mabs : mg "abs" = none
  menum : mg "enumerate" = none
  many : mg "any" = none
theorem units65 {k : Nat} {A : Around} (r : Room k A) : A.units + 65 < cLine := by have := r.un; omega
theorem ok_first_refusal {f fL fO fT fD : Addr} {fd fdL fdO fdT fdD : FuncData} {t3 t25 t5 t12 t9 tb tm tt te : Tok} {k : Nat} (F : Fun K "first_refusal" "first_refusal" s_first_refusal f fd) (T : RfFuns K mg fL fO fT fD fdL fdO fdT fdD t3 t25 t5 t12 t9)
    (gb : mg "BAD_TEXT" = some (.int (-1) tb)) (gm : mg "TOO_MUCH" = some (.int (-2) tm)) (gt : mg "BAD_LETTERS" = some (.int (-4) tt)) (ge : mg "MOST_EQUATIONS" = some (.int 3 te)) : FnOk P w K mg base CX0 (k + 3) f fd ["d", "letters", "ahead", "polynomials"] (sp_first_refusal K) := by
  have GL : FnOk P w K mg base CX0 (k + 1) fL fdL ["letters"] (sp_are_letters K) := ok_are_letters T.FL T.g3 T.g25 T.mlen
  have GO : FnOk P w K mg base CX0 (k + 1) fO fdO ["polynomial", "letters"] (sp_has_other_letter K) := ok_has_other_letter T.FO T.menum
  have GT : FnOk P w K mg base CX0 (k + 2) fT fdT ["polynomial"] (sp_is_too_large K) := ok_is_too_large T.FT T.FD T.bD T.gD T.g5 T.g12 T.g9 T.mlen T.mabs
  refine F.ok sc_first_refusal (fun vs H Q E h => ?_) (fun cdv A outer s H vs Q E hr h => ?_)
  · obtain ⟨v, a, n, d, l, os, rfl, _⟩ := h
    rfl
  · obtain ⟨v, aL, n, d, l, os, rfl, n1, hA, hD, h26, q⟩ := h
    have hr1 : Room (k + 1) _ := hr.mono (by omega)
    have hu65 := units65 hr
    refine ⟨_, pss_cons (ps_if (pt_not (pt_val (pe_call GL hr1 (by rfl) T.gL T.FL.kp T.bL .nil pass0 (pa_cons (pv 1) pa_nil)))) (pss_one (ps_ret (pe_glob (v := .int (-4)) (by rfl) gt ⟨_, rfl⟩))) pss_nil)
      (pss_cons (ps_if (PW.pt (pw_or (pt_cmpR op_gt (pv 0) (pe_glob (v := .int 5) (by rfl) T.g5 ⟨_, rfl⟩) (nomark _)) (pw_or (pt_cmpR op_lt (pe_callB call_len_seq (by rfl) T.mlen PySem.boot_len (pa_cons (pv 3) pa_nil)) (pv 2) (nomark _)) (pw_or1 (pt_cmpR op_gt (pe_callB call_len_seq (by rfl) T.mlen PySem.boot_len (pa_cons (pv 3) pa_nil)) (pe_op op_add (pv 2) (pe_glob (v := .int 3) (by rfl) ge ⟨_, rfl⟩)) (nomark _)))))) (pss_one (ps_ret (pe_glob (v := .int (-2)) (by rfl) gm ⟨_, rfl⟩))) pss_nil)
      (pss_cons (ps_if (pt_cmpR (op_inD hu65) pe_non (pv 3) rfl) (pss_one (ps_ret (pe_glob (v := .int (-1)) (by rfl) gb ⟨_, rfl⟩))) pss_nil)
      (pss_cons (ps_if (pt_val (pe_callB (cr_any (by rfl)) (by rfl) T.many (by decide +kernel) (pa_cons (pe_lc (own := [("polynomial", 4)]) (g := gName 4) (tt := tYes) (by rfl) sc_first_refusal.nd (pi_list (pv 3)) (blkOk_by (own := [("polynomial", 4)]) (N := ["d", "letters", "ahead", "polynomials", "polynomial"]) (sc := defScope s_first_refusal) (by decide +kernel)) (fun _ _ _ _ _ => pg_name (i := 4) sc_first_refusal.nd rfl (.inl rfl)) (fun _ _ _ _ _ => pts_nil) (fun _ _ _ _ _ => pe_call GO hr1 (by rfl) T.gO T.FO.kp T.bO .nil pass0 (pa_cons (pv 4) (pa_cons (pv 1) pa_nil)))) pa_nil))) (pss_one (ps_ret (pe_glob (v := .int (-4)) (by rfl) gt ⟨_, rfl⟩))) pss_nil)
      (pss_cons (ps_if (pt_val (pe_callB (cr_any (by rfl)) (by rfl) T.many (by decide +kernel) (pa_cons (pe_lc (own := [("polynomial", 4)]) (g := gName 4) (tt := tYes) (by rfl) sc_first_refusal.nd (pi_list (pv 3)) (blkOk_by (own := [("polynomial", 4)]) (N := ["d", "letters", "ahead", "polynomials", "polynomial"]) (sc := defScope s_first_refusal) (by decide +kernel)) (fun _ _ _ _ _ => pg_name (i := 4) sc_first_refusal.nd rfl (.inl rfl)) (fun _ _ _ _ _ => pts_nil) (fun _ _ _ _ _ => pe_call GT hr (by rfl) T.gT T.FT.kp T.bT .nil pass0 (pa_cons (pv 4) pa_nil))) pa_nil))) (pss_one (ps_ret (pe_glob (v := .int (-2)) (by rfl) gm ⟨_, rfl⟩))) pss_nil)
      (pss_one (ps_ret pe_int)))))), ?_⟩
    refine ⟨_, rfl, aL, l, rfl, hA, _, rfl, ?_⟩
    have go : ∀ z H', Same H H' → refM n d l os = z → Q (.int z) H' := fun z H' sm e => by rw [← e]; exact q H' sm
    unfold refM at go
    refine ite2 (fun e => ?_) (fun e => ?_)
    · have e' : Al04.lettersOk l = false := by simpa using e
      exact go _ _ (Same.refl _) (if_pos e')
    · have e' : ¬ Al04.lettersOk l = false := by simpa using e
      simp only [if_neg e'] at go
      cases hD with
      | @lst aP xs _ hP hAll =>
      have lx : xs.length = os.length := by rw [dpAll_len hAll, List.length_map]
      refine ⟨_, rfl, _, _, rfl, rfl, _, rfl, ite2 (fun e2 => iteT ?_) (fun e2 => ?_)⟩
      · have e2' : (5 : Int) < (d : Int) := of_decide_eq_true e2
        exact go _ _ (Same.refl _) (if_pos (.inl (by omega)))
      · have e2' : ¬ (5 : Int) < (d : Int) := fun z => e2 (decide_eq_true z)
        refine ⟨_, rfl, aP, _, rfl, .inl hP, _, rfl, _, _, rfl, rfl, _, rfl, ?_⟩
        rw [lx]
        refine ite2 (fun e3 => iteT ?_) (fun e3 => ?_)
        · have e3' : (os.length : Int) < (n : Int) := of_decide_eq_true e3
          exact go _ _ (Same.refl _) (if_pos (.inr (.inl (by omega))))
        · have e3' : ¬ (os.length : Int) < (n : Int) := fun z => e3 (decide_eq_true z)
          refine ⟨_, rfl, aP, _, rfl, .inl hP, _, rfl, _, _, rfl, rfl, _, _, rfl, rfl, _, rfl, ?_⟩
          rw [lx]
          refine ite2 (fun e4 => ?_) (fun e4 => ?_)
          · have e4' : ((n : Int) + 3 : Int) < (os.length : Int) := of_decide_eq_true e4
            exact go _ _ (Same.refl _) (if_pos (.inr (.inr (by omega))))
          · have e4' : ¬ ((n : Int) + 3 : Int) < (os.length : Int) := fun z => e4 (decide_eq_true z)
            have few : ¬ (5 < d ∨ os.length < n ∨ n + 3 < os.length) := by omega
            simp only [if_neg few] at go
            refine ⟨_, rfl, .none, _, .non, .lst hP hAll, rfl, shaped_opts os, _, rfl, ?_⟩
            rw [any_none]
            refine ite2 (fun e5 => ?_) (fun e5 => ?_)
            · have e5' : none ∈ os := of_decide_eq_true e5
              refine go _ _ (Same.refl _) ?_
              rw [mapM_id_none e5']
            · have e5' : none ∉ os := fun z => e5 (decide_eq_true z)
              obtain ⟨qs, rfl, eqs⟩ := mapM_id_some e5'
              rw [eqs] at go
              dsimp only at go
              rw [List.length_map] at lx few
              have hAll' : DpAll K H xs (qs.map dPoly) := by
                have : (qs.map some).map dOpt = qs.map dPoly := by rw [List.map_map]; rfl
                rw [← this]; exact hAll
              -- any([has_other_letter(..)])
              refine ⟨_, rfl, aP, rfl, ⟨_, hP⟩, fun D hD2 => lc_list (K := K) (a := aP) (xs := xs) (fun i H2 => Same H H2 ∧ H2 D = some (.lst (((qs.take i).map (E94.otherM l)).map V.bl))) ⟨same_upd hD2, upd_same⟩ (fun i H2 _ h => h.1.seq hP) ?_ ?_⟩
              · rintro i x H2 hx ⟨sm2, hd⟩
                obtain ⟨q0, hq0, hdp⟩ := dpAll_get hAll' hx
                have q0m : q0 ∈ qs := List.mem_of_getElem? hq0
                refine ⟨rfl, ?_⟩
                refine ⟨_, rfl, _, rfl, x, aL, q0, l, rfl, same_dp sm2 _ _ hdp, sm2.seq hA, h26 q0 (List.mem_map_of_mem q0m), fun H3 sm3 => ?_⟩
                refine ⟨_, sm3 _ _ hd, ?_, fun b0 o0 e0 => ?_, ?_⟩
                · rw [List.length_map, List.length_map, List.length_take]
                  exact Nat.lt_of_le_of_lt (Nat.le_trans (Nat.min_le_right _ _) (show qs.length ≤ 4 by omega)) (by decide)
                · rw [upd_ne (ne_of_none e0 hD2)]
                  exact sm3 _ _ (sm2 _ _ e0)
                · rw [upd_same, take_more hq0, List.map_append, List.map_append]
                  rfl
              · rintro H2 ⟨sm2, hd⟩
                rw [lx, List.take_length] at hd
                refine ⟨D, _, rfl, SqL.of hd, _, rfl, ?_⟩
                rw [List.any_map]
                refine ite2 (fun e6 => ?_) (fun e6 => ?_)
                · have e6' : qs.any (E94.otherM l) = true := e6
                  exact go _ _ sm2 (if_pos e6')
                · have e6' : ¬ qs.any (E94.otherM l) = true := e6
                  simp only [if_neg e6'] at go
                  have hP2 := sm2.seq hP
                  refine ⟨_, rfl, aP, rfl, ⟨_, hP2⟩, fun D3 hD3 => lc_list (K := K) (a := aP) (xs := xs) (fun i H3 => Same H2 H3 ∧ H3 D3 = some (.lst (((qs.take i).map E94.tooLargeM).map V.bl))) ⟨same_upd hD3, upd_same⟩ (fun i H3 _ h => h.1.seq hP2) ?_ ?_⟩
                  · rintro i x H3 hx ⟨sm3, hd3⟩
                    obtain ⟨q0, hq0, hdp⟩ := dpAll_get hAll' hx
                    refine ⟨rfl, ?_⟩
                    refine ⟨_, rfl, x, q0, rfl, same_dp (sm2.trans sm3) _ _ hdp, fun H4 sm4 => ?_⟩
                    refine ⟨_, sm4 _ _ hd3, ?_, fun b0 o0 e0 => ?_, ?_⟩
                    · rw [List.length_map, List.length_map, List.length_take]
                      exact Nat.lt_of_le_of_lt (Nat.le_trans (Nat.min_le_right _ _) (show qs.length ≤ 4 by omega)) (by decide)
                    · rw [upd_ne (ne_of_none e0 hD3)]
                      exact sm4 _ _ (sm3 _ _ e0)
                    · rw [upd_same, take_more hq0, List.map_append, List.map_append]
                      rfl
                  · rintro H3 ⟨sm3, hd3⟩
                    rw [lx, List.take_length] at hd3
                    refine ⟨D3, _, rfl, SqL.of hd3, _, rfl, ?_⟩
                    rw [List.any_map]
                    refine ite2 (fun e7 => ?_) (fun e7 => ?_)
                    · have e7' : qs.any E94.tooLargeM = true := e7
                      exact go _ _ (sm2.trans sm3) (if_pos e7')
                    · have e7' : ¬ qs.any E94.tooLargeM = true := e7
                      exact go _ _ (sm2.trans sm3) (if_neg e7')
end
end E94H
set_option Elab.async false
set_option linter.all false
set_option maxRecDepth 100000
set_option maxHeartbeats 2000000
namespace E94H
open PySem PySem.Spec PyProof.Rows L2
section
variable {P : Program} {w : World} {K : PySem.W.Frag} {mg : Str → Option Value} {base : Heap}
/-- a polynomial as it is told: at most 12 products, no number above 9999 -/
structure POk (k : Nat) (p : E94.MP) : Prop where
  good : E94.GoodP k p
  few : p.length ≤ 12
  den : ∀ t ∈ p, t.2.2 ≤ 9999
  num : ∀ t ∈ p, t.2.1.natAbs ≤ 9999
theorem lcm_le {a b : Nat} (ha : 0 < a) (hb : 0 < b) : Nat.lcm a b ≤ a * b := by
  have : Nat.lcm a b ∣ a * b := Nat.lcm_dvd (Nat.dvd_mul_right _ _) (Nat.dvd_mul_left _ _)
  exact Nat.le_of_dvd (Nat.mul_pos ha hb) this
theorem scale_from : ∀ {p : E94.MP} {s : Nat}, 0 < s → (∀ t ∈ p, 0 < t.2.2 ∧ t.2.2 ≤ 9999) → p.foldl (fun s t => Nat.lcm s t.2.2) s ≤ s * 9999 ^ p.length
  | [], s, _, _ => by simp
  | t :: p, s, hs, h => by
    have ht := h t (List.mem_cons_self ..)
    have ih := scale_from (p := p) (s := Nat.lcm s t.2.2) (Nat.lcm_pos hs ht.1) fun u hu => h u (List.mem_cons_of_mem _ hu)
    rw [List.foldl_cons, List.length_cons, Nat.pow_succ]
    have h1 := lcm_le hs ht.1
    have h2 : Nat.lcm s t.2.2 ≤ s * 9999 := Nat.le_trans h1 (Nat.mul_le_mul_left _ ht.2)
    calc _ ≤ Nat.lcm s t.2.2 * 9999 ^ p.length := ih
      _ ≤ (s * 9999) * 9999 ^ p.length := Nat.mul_le_mul_right _ h2
      _ = s * (9999 ^ p.length * 9999) := by rw [Nat.mul_assoc, Nat.mul_comm 9999]
theorem POk.scale {k : Nat} {p : E94.MP} (h : POk k p) : E94.scaleOf p ≤ 9999 ^ 12 := by
  have := scale_from (p := p) (s := 1) Nat.one_pos fun t ht => ⟨h.good.pos t ht, h.den t ht⟩
  rw [Nat.one_mul] at this
  exact Nat.le_trans this (Nat.pow_le_pow_right (by decide) h.few)
theorem scaleOf_take {p : E94.MP} {i : Nat} {t : E94.MT} (h : p[i]? = some t) : E94.scaleOf (p.take (i + 1)) = Nat.lcm (E94.scaleOf (p.take i)) t.2.2 := by
  unfold E94.scaleOf
  rw [take_more h, List.foldl_append]
  rfl
theorem sc_scale_of : FnScope ["polynomial", "scale", "term"] ["polynomial"] (defScope s_scale_of) := ⟨rfl, rfl, rfl, by decide +kernel, rfl, by decide +kernel, by decide +kernel⟩
def sp_scale_of (K : PySem.W.Frag) : Sp := fun vs H Q _ => ∃ (v : V) (p : E94.MP) (k : Nat), vs = [v] ∧ Dp K H v (dPoly p) ∧ POk k p ∧ Q (.int (E94.scaleOf p : Nat)) H
theorem ok_scale_of {f fM fG : Addr} {fd fdM fdG : FuncData} {k : Nat} (F : Fun K "scale_of" "scale_of" s_scale_of f fd) (FM : Fun K "common_multiple" "common_multiple" s_common_multiple fM fdM) (bM : Binds K fdM ["one", "other"] []) (gM : mg "common_multiple" = some (.ref fM))
    (FG : Fun K "common_divisor" "common_divisor" s_common_divisor fG fdG) (bG : Binds K fdG ["one", "other"] []) (gG : mg "common_divisor" = some (.ref fG)) (mabs : mg "abs" = none) : FnOk P w K mg base CX0 (k + 3) f fd ["polynomial"] (sp_scale_of K) := by
  have GM : FnOk P w K mg base CX0 (k + 2) fM fdM ["one", "other"] sp_common_multiple := ok_common_multiple FM FG bG gG mabs
  refine F.ok sc_scale_of (fun vs H Q E h => ?_) (fun cdv A outer s H vs Q E hr h => ?_)
  · obtain ⟨v, p, kk, rfl, _⟩ := h
    rfl
  · obtain ⟨v, p, kk, rfl, hD, ok, q⟩ := h
    refine ⟨_, pss_cons (ps_set (i := 1) sc_scale_of.nd rfl (.inl rfl) pe_int)
      (pss_cons (ps_for PassesOwn.never rfl (pi_list (pv 0)) (pg_name (i := 2) sc_scale_of.nd rfl (.inl rfl))
        (pss_one (ps_set (i := 1) sc_scale_of.nd rfl (.inl rfl) (pe_call GM hr (by rfl) gM FM.kp bM .nil pass0 (pa_cons (pv 1) (pa_cons (pe_ix ix_tup (pv 2) pe_int (fun _ _ => rfl)) pa_nil))))))
      (pss_one (ps_ret (pv 1)))), ?_⟩
    obtain ⟨a, xs, rfl, hL, hAll⟩ := dp_poly hD
    have lx : xs.length = p.length := by rw [dpAll_len hAll, List.length_map]
    refine ⟨_, rfl, a, rfl, ⟨_, hL⟩, for_list (K := K) (a := a) (xs := xs) (fun i σ H' => H' = H ∧ ∃ y, σ = [some (.ref a), some (.int (E94.scaleOf (p.take i) : Nat)), y]) ⟨rfl, none, rfl⟩ (fun i σ H' _ h => by rw [h.1]; exact hL) ?_ ?_⟩
    · rintro i x σ H' hi ⟨rfl, y, rfl⟩
      obtain ⟨t, ht, hdp⟩ := dpAll_get hAll hi
      have tm := List.mem_of_getElem? ht
      obtain ⟨a2, b2, rfl, hT, _⟩ := dp_term hdp
      have sp : 0 < E94.scaleOf (p.take i) := E94.scaleOf_pos fun u hu => ok.good.pos u (List.mem_of_mem_take hu)
      have d1 := ok.good.pos t tm
      have d2 := ok.den t tm
      refine ⟨_, rfl, _, rfl, a2, _, _, _, rfl, rfl, hT, rfl, E94.scaleOf (p.take i), t.2.2, rfl, sp, d1, by omega, ?_⟩
      rw [← scaleOf_take ht]
      exact ⟨rfl, _, rfl⟩
    · rintro σ H' ⟨rfl, y, rfl⟩
      rw [lx, List.take_length]
      exact ⟨_, rfl, q⟩
/-! ### scaled_multiple -/
def keyC (c : List Nat) : List Key := (tupC c).map Sum.inl
def colK (col : List (List Nat × Int)) : List (List Key × V) := col.map fun x => (keyC x.1, .int x.2)
theorem keyC_V (c : List Nat) : (keyC c).map kV = (tupC c).map V.int := by
  unfold keyC
  rw [List.map_map]
  rfl
theorem keyC_inj {c d : List Nat} (h : keyC c = keyC d) : c = d := by
  unfold keyC at h
  have h1 : tupC c = tupC d := List.map_inj_right (fun a b e => Sum.inl.inj e) |>.mp h
  have h2 := (List.cons.inj h1).2
  exact ofN_inj.mp h2
theorem valV_col (col : List (List Nat × Int)) (c : List Nat) : valV (colK col) (keyC c) = (col.lookup c).map V.int := by
  induction col with
  | nil => rfl
  | cons x col ih =>
    obtain ⟨d, z⟩ := x
    show valV ((keyC d, V.int z) :: colK col) (keyC c) = _
    by_cases h : d = c
    · subst h
      rw [valV_pos rfl]
      simp [List.lookup]
    · rw [valV_neg fun e => h (keyC_inj e), ih]
      have : (c == d) = false := by simpa using Ne.symm h
      simp [List.lookup, this]
theorem addC_inj : ∀ {q a b : List Nat}, q.length = a.length → q.length = b.length → E94.addC q a = E94.addC q b → a = b
  | [], [], [], _, _, _ => rfl
  | i :: q, x :: a, y :: b, h1, h2, e => by
    have e1 := (List.cons.inj e)
    have : a = b := addC_inj (by simpa using h1) (by simpa using h2) e1.2
    rw [this, show x = y by have := e1.1; omega]
  | _ :: _, [], _, h, _, _ => by simp at h
  | _ :: _, _ :: _, [], _, h, _ => by simp at h
  | [], _ :: _, _, h, _, _ => by simp at h
  | [], [], _ :: _, _, h, _ => by simp at h
theorem col_new {q : List Nat} {k : Nat} {p : E94.MP} (ok : POk k p) (hq : q.length = k) {i : Nat} {t : E94.MT} (ht : p[i]? = some t) : ((colK ((E94.scaledMul q p).take i)).any fun kv => decide (kv.1 = keyC (E94.addC q t.1))) = false := by
  rw [List.any_eq_false]
  intro kv hkv
  obtain ⟨x, hx, rfl⟩ := List.mem_map.mp hkv
  obtain ⟨j, hj, ej⟩ := List.mem_iff_getElem.mp hx
  rw [List.length_take] at hj
  have hjp : j < p.length := by
    have : (E94.scaledMul q p).length = p.length := List.length_map ..
    omega
  rw [List.getElem_take] at ej
  have ex : x.1 = E94.addC q (p[j]).1 := by
    rw [← ej]
    unfold E94.scaledMul
    rw [List.getElem_map]
  intro e
  have e := keyC_inj (of_decide_eq_true e)
  rw [ex] at e
  have hjm : p[j] ∈ p := List.getElem_mem hjp
  have tm : t ∈ p := List.mem_of_getElem? ht
  have e2 := addC_inj (by rw [hq, ok.good.len _ hjm]) (by rw [hq, ok.good.len _ tm]) e
  have hil : i < p.length := by
    rcases Nat.lt_or_ge i p.length with h | h
    · exact h
    · rw [List.getElem?_eq_none h] at ht; cases ht
  have et : p[i] = t := by rw [List.getElem?_eq_getElem hil] at ht; exact Option.some.inj ht
  have := List.pairwise_iff_getElem.mp ok.good.srt j i hjp hil (by omega)
  rw [et, e2, E94.cntGt_irrefl] at this
  cases this
theorem sc_scaled_multiple : FnScope ["product", "polynomial", "scale", "numbers", "term"] ["product", "polynomial"] (defScope s_scaled_multiple) := ⟨rfl, rfl, rfl, by decide +kernel, rfl, by decide +kernel, by decide +kernel⟩
def sp_scaled_multiple (K : PySem.W.Frag) : Sp := fun vs H Q _ => ∃ (b : Addr) (v : V) (c : List Nat) (p : E94.MP) (k : Nat), vs = [.ref b, v] ∧ SqT K H b ((tupC c).map V.int) ∧ Dp K H v (dPoly p) ∧ POk k p ∧ c.length = k ∧ k ≤ 1000 ∧ ∀ H' d, Same H H' → H d = none → H' d = some (.dT (colK (E94.scaledMul c p))) → Q (.ref d) H'
theorem ok_scaled_multiple {f fS fT fM fG : Addr} {fd fdS fdT fdM fdG : FuncData} {k : Nat} (F : Fun K "scaled_multiple" "scaled_multiple" s_scaled_multiple f fd) (FS : Fun K "scale_of" "scale_of" s_scale_of fS fdS) (bS : Binds K fdS ["polynomial"] []) (gS : mg "scale_of" = some (.ref fS))
    (FT : Fun K "times" "times" s_times fT fdT) (bT : Binds K fdT ["one", "other"] []) (gT : mg "times" = some (.ref fT)) (FM : Fun K "common_multiple" "common_multiple" s_common_multiple fM fdM) (bM : Binds K fdM ["one", "other"] []) (gM : mg "common_multiple" = some (.ref fM))
    (FG : Fun K "common_divisor" "common_divisor" s_common_divisor fG fdG) (bG : Binds K fdG ["one", "other"] []) (gG : mg "common_divisor" = some (.ref fG)) (mabs : mg "abs" = none) (mzip : mg "zip" = none) (mtup : mg "tuple" = none) : FnOk P w K mg base CX0 (k + 4) f fd ["product", "polynomial"] (sp_scaled_multiple K) := by
  have GS : FnOk P w K mg base CX0 (k + 3) fS fdS ["polynomial"] (sp_scale_of K) := ok_scale_of FS FM bM gM FG bG gG mabs
  have GT : FnOk P w K mg base CX0 (k + 1) fT fdT ["one", "other"] (sp_times K) := ok_times FT mzip mtup
  refine F.ok sc_scaled_multiple (fun vs H Q E h => ?_) (fun cdv A outer s H vs Q E hr h => ?_)
  · obtain ⟨b, v, c, p, kk, rfl, _⟩ := h
    rfl
  · obtain ⟨b, v, c, p, kk, rfl, hB, hD, ok, hc, hk, q⟩ := h
    have hr1 : Room (k + 1) _ := hr.mono (by omega)
    have hu := hu_of hr
    refine ⟨_, pss_cons (ps_set (i := 2) sc_scaled_multiple.nd rfl (.inl rfl) (pe_call GS hr (by rfl) gS FS.kp bS .nil pass0 (pa_cons (pv 1) pa_nil)))
      (pss_cons (ps_set (i := 3) sc_scaled_multiple.nd rfl (.inl rfl) pe_dnewT)
      (pss_cons (ps_for PassesOwn.never rfl (pi_list (pv 1)) (pg_name (i := 4) sc_scaled_multiple.nd rfl (.inl rfl))
        (pss_one (ps_dput hu (pv 3) (pe_call GT hr1 (by rfl) gT FT.kp bT .nil pass0 (pa_cons (pv 0) (pa_cons (pe_ix ix_tup (pv 4) pe_int (fun _ _ => rfl)) pa_nil))) (pe_op op_mul (pe_ix ix_tup (pv 4) pe_int (fun _ _ => rfl)) (pe_op op_fdiv (pv 2) (pe_ix ix_tup (pv 4) pe_int (fun _ _ => rfl)))) rfl)))
      (pss_one (ps_ret (pv 3))))), ?_⟩
    obtain ⟨a, xs, rfl, hL, hAll⟩ := dp_poly hD
    have lx : xs.length = p.length := by rw [dpAll_len hAll, List.length_map]
    have lm : (E94.scaledMul c p).length = p.length := List.length_map ..
    refine ⟨_, rfl, _, p, kk, rfl, hD, ok, ?_⟩
    intro d0 nd0
    refine ⟨_, rfl, a, rfl, ⟨_, (same_upd nd0).seq hL⟩, for_list (K := K) (a := a) (xs := xs) (fun i σ H2 => Same H H2 ∧ H2 d0 = some (.dT (colK ((E94.scaledMul c p).take i))) ∧ ∃ y, σ = [some (.ref b), some (.ref a), some (.int (E94.scaleOf p : Nat)), some (.ref d0), y]) ⟨same_upd nd0, upd_same, none, rfl⟩ (fun i σ H2 _ h => h.1.seq hL) ?_ ?_⟩
    · rintro i x σ H2 hi ⟨sm, hd, y, rfl⟩
      obtain ⟨t, ht, hdp⟩ := dpAll_get hAll hi
      have tm := List.mem_of_getElem? ht
      obtain ⟨a2, b2, rfl, hT, hC⟩ := dp_term (same_dp sm _ _ hdp)
      have d1 := ok.good.pos t tm
      have d2 := ok.den t tm
      have n1 := ok.num t tm
      have gt : (E94.scaledMul c p)[i]? = some (E94.addC c t.1, t.2.1 * ((E94.scaleOf p / t.2.2 : Nat) : Int)) := by
        unfold E94.scaledMul
        rw [List.getElem?_map, ht]
        rfl
      refine ⟨_, rfl, a2, _, _, _, rfl, rfl, hT, rfl, _, rfl, _, rfl, a2, _, _, _, rfl, rfl, hT, rfl, _, _, rfl, rfl, ⟨?_, ?_⟩, _, _, rfl, rfl, .inl ⟨?_, ?_⟩, ?_⟩
      · show (0 : Int) < (t.2.2 : Int); omega
      · show (t.2.2 : Int) < 1073741824; omega
      · omega
      · omega
      · refine ⟨_, rfl, _, rfl, _, rfl, a2, _, _, _, rfl, rfl, hT, rfl, b, b2, c, t.1, rfl, same_sqT sm hB, hC, by rw [hc, ok.good.len t tm], by omega, fun H3 p3 sm3 hp3 => ?_⟩
        have hd3 := sm3 _ _ hd
        rw [← keyC_V] at hp3
        refine ⟨d0, _, rfl, DPut.t hd3 hp3 ?_, fun b0 o0 e0 => ?_, ?_, _, rfl⟩
        · unfold colK
          rw [List.length_map, List.length_take, lm]
          have := ok.few
          exact Nat.lt_of_le_of_lt (show min i p.length ≤ 12 by omega) (by decide)
        · rw [upd_ne (ne_of_none e0 nd0)]
          exact sm3 _ _ (sm _ _ e0)
        · rw [upd_same]
          have en := col_new ok hc ht
          unfold putK
          rw [en, if_neg Bool.false_ne_true, take_more gt]
          unfold colK
          rw [List.map_append]
          rfl
    · rintro σ H2 ⟨sm, hd, y, rfl⟩
      rw [lx, ← lm, List.take_length] at hd
      exact ⟨_, rfl, q _ _ sm nd0 hd⟩
end
end E94H
set_option Elab.async false
set_option linter.all false
set_option maxRecDepth 100000
set_option maxHeartbeats 2000000
namespace E94H
open PySem PySem.Spec PyProof.Rows L2
section
variable {P : Program} {w : World} {K : PySem.W.Frag} {mg : Str → Option Value} {base : Heap}
/-! data with no list inside stand through a list's change -/
mutual
def noList : PyData → Bool
  | .list _ => false
  | .tuple ds => noLists ds
  | _ => true
def noLists : List PyData → Bool
  | [] => true
  | d :: ds => noList d && noLists ds
end
mutual
theorem dp_updL {H : Hp} {l : Addr} {acc : List V} {o' : HO} (hl : H l = some (.lst acc)) : ∀ (d : PyData) (v : V), noList d = true → Dp K H v d → Dp K (upd H l o') v d
  | .none, _, _, h => by cases h; exact .non
  | .bool b, _, _, h => by cases h; exact .bl b
  | .int i, _, _, h => by cases h; exact .int i
  | .str x, _, _, h => by cases h; exact .str x
  | .list ds, _, n, h => by unfold noList at n; cases n
  | .tuple ds, _, n, h => by
    cases h with
    | tup h1 h2 => exact .tup (sqT_upd h1 hl) (dpAll_updL hl ds _ (by unfold noList at n; exact n) h2)
theorem dpAll_updL {H : Hp} {l : Addr} {acc : List V} {o' : HO} (hl : H l = some (.lst acc)) : ∀ (ds : List PyData) (vs : List V), noLists ds = true → DpAll K H vs ds → DpAll K (upd H l o') vs ds
  | [], _, _, h => by cases h; exact .nil
  | d :: ds, _, n, h => by
    unfold noLists at n
    rw [Bool.and_eq_true] at n
    cases h with
    | cons h1 h2 => exact .cons (dp_updL hl d _ n.1 h1) (dpAll_updL hl ds _ n.2 h2)
end
theorem noLists_map {α : Type} {f : α → PyData} (h : ∀ x, noList (f x) = true) : ∀ xs : List α, noLists (xs.map f) = true
  | [] => by unfold noLists; rfl
  | x :: xs => by
    rw [List.map_cons]
    unfold noLists
    rw [h x, noLists_map h xs]
    rfl
theorem noList_int (i : Int) : noList (.int i) = true := by unfold noList; rfl
theorem noList_tup (c : List Nat) : noList (dTup c) = true := by
  unfold noList
  exact noLists_map noList_int _
theorem trt_upd {H : Hp} {l : Addr} {acc : List V} {o' : HO} : ∀ {vs : List V} {cs : List (List Nat)}, TrT H vs cs → H l = some (.lst acc) → TrT (upd H l o') vs cs
  | [], [], _, _ => trivial
  | _ :: _, _ :: _, h, hl => ⟨h.1.upd hl, trt_upd h.2 hl⟩
  | [], _ :: _, h, _ => h.elim
  | _ :: _, [], h, _ => h.elim
abbrev dMul (x : Nat × List Nat) : PyData := .tuple [.int (x.1 : Nat), dTup x.2]
abbrev dMuls (I : List (Nat × List Nat)) : PyData := .list (I.map dMul)
abbrev dPolys (qs : List E94.MP) : PyData := .list (qs.map dPoly)
theorem noList_mul (x : Nat × List Nat) : noList (dMul x) = true := by
  simp only [noList, noLists, noLists_map noList_int, Bool.and_self]
theorem dp_mul {H : Hp} {v : V} {x : Nat × List Nat} (h : Dp K H v (dMul x)) : ∃ a b, v = .ref a ∧ SqT K H a [.int (x.1 : Nat), .ref b] ∧ SqT K H b ((tupC x.2).map V.int) := by
  cases h with
  | tup h1 h2 =>
    cases h2 with
    | cons h3 h4 =>
      cases h4 with
      | cons h5 h6 =>
        cases h6
        cases h3
        obtain ⟨b, rfl, hb⟩ := dp_tup h5
        exact ⟨_, b, rfl, h1, hb⟩
theorem prods_56 {d : Int} {k : Nat} (hd : d ≤ 5) (h1 : 1 ≤ k) (h3 : k ≤ 3) : (E94.prodsW d k).length ≤ 56 := by
  by_cases h0 : d < 0
  · rw [E94.prodsW_neg h0 (by omega)]; decide
  · obtain ⟨n, rfl⟩ : ∃ n : Nat, d = n := ⟨d.toNat, by omega⟩
    have hn : n < 6 := by omega
    have : ∀ n < 6, ∀ k < 4, 1 ≤ k → (E94.prodsW ((n : Nat) : Int) k).length ≤ 56 := by decide +kernel
    exact this n hn k (by omega) h1
def mulOf (d k : Nat) (x : E94.MP × Nat) : List (Nat × List Nat) := if x.1 = [] then [] else (E94.prodsW ((d : Int) - (E94.degM x.1 : Int)) k).map fun c => (x.2, c)
def mulTo (d k : Nat) (eqs : List E94.MP) (i : Nat) : List (Nat × List Nat) := ((eqs.zip (List.range eqs.length)).take i).flatMap (mulOf d k)
theorem mulTo_all (d k : Nat) (eqs : List E94.MP) : mulTo d k eqs eqs.length = E94.multiplesM d k eqs := by
  unfold mulTo
  rw [List.take_of_length_le (by rw [List.length_zip, List.length_range]; omega)]
  rfl
theorem mulTo_more {d k : Nat} {eqs : List E94.MP} {i : Nat} {q : E94.MP} (h : eqs[i]? = some q) : mulTo d k eqs (i + 1) = mulTo d k eqs i ++ mulOf d k (q, i) := by
  have hi : i < eqs.length := by
    rcases Nat.lt_or_ge i eqs.length with h' | h'
    · exact h'
    · rw [List.getElem?_eq_none h'] at h; cases h
  have : (eqs.zip (List.range eqs.length))[i]? = some (q, i) := (List.getElem?_zip_eq_some (z := (q, i))).mpr ⟨h, by rw [List.getElem?_range hi]⟩
  unfold mulTo
  rw [take_more this, List.flatMap_append]
  simp
theorem mulOf_len {d k : Nat} (hd : d ≤ 5) (h1 : 1 ≤ k) (h3 : k ≤ 3) (x : E94.MP × Nat) : (mulOf d k x).length ≤ 56 := by
  unfold mulOf
  split
  · simp
  · rw [List.length_map]
    exact prods_56 (by omega) h1 h3
theorem mulTo_len {d k : Nat} (hd : d ≤ 5) (h1 : 1 ≤ k) (h3 : k ≤ 3) (eqs : List E94.MP) : ∀ i, i ≤ eqs.length → (mulTo d k eqs i).length ≤ 56 * i
  | 0, _ => by simp [mulTo]
  | i + 1, hi => by
    have h := mulTo_len hd h1 h3 eqs i (by omega)
    rw [mulTo_more (List.getElem?_eq_getElem (show i < eqs.length by omega)), List.length_append]
    have := mulOf_len hd h1 h3 (eqs[i], i)
    omega
/-! ### multiples_within -/
theorem sc_multiples_within : FnScope ["d", "letter_count", "equations", "multiples", "index", "equation", "product"] ["d", "letter_count", "equations"] (defScope s_multiples_within) := ⟨rfl, rfl, rfl, by decide +kernel, rfl, by decide +kernel, by decide +kernel⟩
def sp_multiples_within (K : PySem.W.Frag) : Sp := fun vs H Q _ => ∃ (v : V) (d k : Nat) (eqs : List E94.MP), vs = [.int (d : Int), .int (k : Int), v] ∧ Dp K H v (dPolys eqs) ∧ d ≤ 5 ∧ 1 ≤ k ∧ k ≤ 3 ∧ eqs.length ≤ 3 ∧ (∀ q ∈ eqs, E94.degM q ≤ 5) ∧
  ∀ H' a vs, Same H H' → H a = none → H' a = some (.lst vs) → DpAll K H' vs ((E94.multiplesM d k eqs).map dMul) → Q (.ref a) H'
theorem ok_multiples_within {f fD fW fO : Addr} {fd fdD fdW fdO : FuncData} {k : Nat} (F : Fun K "multiples_within" "multiples_within" s_multiples_within f fd) (FD : Fun K "degree_of" "degree_of" s_degree_of fD fdD) (bD : Binds K fdD ["polynomial"] []) (gD : mg "degree_of" = some (.ref fD))
    (FW : Fun K "products_within" "products_within" s_products_within fW fdW) (bW : Binds K fdW ["degree", "letter_count"] []) (gW : mg "products_within" = some (.ref fW)) (FO : Fun K "product_of" "product_of" s_product_of fO fdO) (bO : Binds K fdO ["counts"] []) (gO : mg "product_of" = some (.ref fO))
    (msum : mg "sum" = none) (mtup : mg "tuple" = none) (mrange : mg "range" = none) (msorted : mg "sorted" = none) (menum : mg "enumerate" = none) : FnOk P w K mg base CX0 (k + 3) f fd ["d", "letter_count", "equations"] (sp_multiples_within K) := by
  have GD : FnOk P w K mg base CX0 (k + 1) fD fdD ["polynomial"] (sp_degree_of K) := ok_degree_of FD
  have GW : FnOk P w K mg base CX0 (k + 2) fW fdW ["degree", "letter_count"] (sp_products_within K) := ok_products_within FW FO bO gO msum mtup mrange msorted
  refine F.ok sc_multiples_within (fun vs H Q E h => ?_) (fun cdv A outer s H vs Q E hr h => ?_)
  · obtain ⟨v, d, kk, eqs, rfl, _⟩ := h
    rfl
  · obtain ⟨v, d, kk, eqs, rfl, hD, d5, k1, k3, e3, deg, q⟩ := h
    have hr1 : Room (k + 1) _ := hr.mono (by omega)
    refine ⟨_, pss_cons (ps_set (i := 3) sc_multiples_within.nd rfl (.inl rfl) (pe_lst pa_nil))
      (pss_cons (ps_for PassesOwn.never rfl (pi_enum (by rfl) menum (pa_cons (pv 2) pa_nil)) (pg_tup rfl (pgs_cons (pg_name (i := 4) sc_multiples_within.nd rfl (.inl rfl)) (pgs_cons (pg_name (i := 5) sc_multiples_within.nd rfl (.inl rfl)) pgs_nil)))
        (pss_one (ps_if (pt_cmpR (op_neD hr.units) (pv 5) (pe_lst pa_nil) (nomark _))
          (pss_one (ps_for PassesOwn.never rfl (pi_list (pe_call GW hr (by rfl) gW FW.kp bW .nil pass0 (pa_cons (pe_op op_sub (pv 0) (pe_call GD hr1 (by rfl) gD FD.kp bD .nil pass0 (pa_cons (pv 5) pa_nil))) (pa_cons (pv 1) pa_nil)))) (pg_name (i := 6) sc_multiples_within.nd rfl (.inl rfl))
            (pss_one (ps_expr (pe_bm PySem.F.plainAttrs_list PySem.F.slot_list_append PySem.F.type_list_append mt_append (pv 3) (pa_cons (pe_tup (pa_cons (pv 4) (pa_cons (pv 6) pa_nil))) pa_nil)))))) pss_nil)))
      (pss_one (ps_ret (pv 3)))), ?_⟩
    cases hD with
    | @lst aE xs _ hE hAll =>
    have lx : xs.length = eqs.length := by rw [dpAll_len hAll, List.length_map]
    refine ⟨Nat.zero_le _, fun m nm => ?_⟩
    have s0 := same_upd (o := .lst []) nm
    refine ⟨_, rfl, aE, _, rfl, s0.seq hE, for_it (walk_enum (xs := xs)) (fun i σ H2 => Same H H2 ∧ (∃ vs, H2 m = some (.lst vs) ∧ DpAll K H2 vs ((mulTo d kk eqs i).map dMul)) ∧ ∃ y4 y5 y6, σ = [some (.int (d : Int)), some (.int (kk : Int)), some (.ref aE), some (.ref m), y4, y5, y6]) ⟨s0, ⟨[], upd_same, .nil⟩, none, none, none, rfl⟩ (fun i σ H2 _ h => h.1.seq hE) ?_ ?_⟩
    · rintro i vv σ H2 H3 hi ⟨sm, ⟨ws, hm, hW⟩, y4, y5, y6, rfl⟩ ⟨T, u1, u2, rfl, nT, rfl, g1, g2⟩
      have e1 : u1 = .int (i : Nat) := (Option.some.inj g1).symm
      subst e1
      obtain ⟨q0, hq0, hdp⟩ := dpAll_get hAll g2
      have qm : q0 ∈ eqs := List.mem_of_getElem? hq0
      have smT := same_upd (o := .tup [V.int (i : Nat), u2]) nT
      have s3 : Same H (upd H2 T (.tup [V.int (i : Nat), u2])) := sm.trans smT
      refine ⟨T, _, rfl, .inl (.inl upd_same), rfl, _, _, rfl, _, _, rfl, rfl, ?_⟩
      refine ⟨_, rfl, Nat.zero_le _, fun l nl => ?_⟩
      have sl := same_upd (o := .lst []) nl
      have s4 := s3.trans sl
      refine ⟨_, _, same_dp s4 _ _ hdp, .lst (SqL.of upd_same) .nil, shaped_poly q0, shaped_nil, _, rfl, ?_⟩
      rw [eqv_nil]
      have s24 := smT.trans sl
      have hm4 := s24 _ _ hm
      have hW4 := same_dpAll s24 _ _ hW
      by_cases q00 : q0 = []
      · subst q00
        refine iteF ⟨s4, ⟨ws, hm4, ?_⟩, _, _, _, rfl⟩
        rw [mulTo_more hq0]
        unfold mulOf
        rw [if_pos rfl, List.append_nil]
        exact hW4
      · have ne : q0.map dTerm ≠ [] := fun z => q00 (List.map_eq_nil_iff.mp z)
        rw [decide_eq_false ne]
        refine iteT ?_
        refine ⟨_, rfl, _, rfl, u2, q0, rfl, same_dp s4 _ _ hdp, fun H5 s5 => ?_⟩
        have s25 := s24.trans s5
        have dq := deg q0 qm
        refine ⟨_, _, rfl, rfl, _, rfl, (d : Int) - (E94.degM q0 : Int), kk, rfl, k1, k3, by omega, by omega, fun H6 a6 vs6 s6 n6 h6 hT6 => ?_⟩
        have am : a6 ≠ m := fun e => by
          have := s25 _ _ hm
          rw [← e, n6] at this
          cases this
        have s26 := s25.trans s6
        have s06 : Same H H6 := sm.trans s26
        have l56 : (E94.prodsW ((d : Int) - (E94.degM q0 : Int)) kk).length ≤ 56 := prods_56 (by omega) k1 k3
        refine ⟨a6, rfl, ⟨_, SqL.of h6⟩, for_list (K := K) (a := a6) (xs := vs6) (fun j σ3 H7 => Same H H7 ∧ H7 a6 = some (.lst vs6) ∧ TrT H7 vs6 (E94.prodsW ((d : Int) - (E94.degM q0 : Int)) kk) ∧ (∃ us, H7 m = some (.lst us) ∧ DpAll K H7 us ((mulTo d kk eqs i ++ ((E94.prodsW ((d : Int) - (E94.degM q0 : Int)) kk).take j).map fun c => (i, c)).map dMul)) ∧ ∃ z6, σ3 = [some (.int (d : Int)), some (.int (kk : Int)), some (.ref aE), some (.ref m), some (.int (i : Nat)), some u2, z6]) ⟨s06, h6, hT6, ⟨ws, s26 _ _ hm, by rw [List.take_zero, List.map_nil, List.append_nil]; exact same_dpAll s26 _ _ hW⟩, _, rfl⟩ (fun j σ3 H7 _ h => SqL.of h.2.1) ?_ ?_⟩
        · rintro j x σ3 H7 hj ⟨s07, h7, hT7, ⟨us, hm7, hU7⟩, z6, rfl⟩
          obtain ⟨r, c, hc, rfl, hrt⟩ := hT7.get hj
          have jl : j < (E94.prodsW ((d : Int) - (E94.degM q0 : Int)) kk).length := by
            rcases Nat.lt_or_ge j (E94.prodsW ((d : Int) - (E94.degM q0 : Int)) kk).length with h | h
            · exact h
            · rw [List.getElem?_eq_none h] at hc; cases hc
          refine ⟨_, rfl, .inl ⟨rfl, _, SqL.of hm7⟩, _, rfl, _, rfl, by show 2 ≤ sizeLine; decide, fun t nt => ?_⟩
          have st := same_upd (o := .tup [V.int (i : Nat), .ref r]) nt
          have hm8 := st _ _ hm7
          refine ⟨m, _, _, rfl, rfl, hm8, ?_, ?_⟩
          · have lu := dpAll_len hU7
            rw [List.length_map, List.length_append, List.length_map, List.length_take] at lu
            have il : i < eqs.length := by rw [← lx]; exact hi
            have lm := mulTo_len d5 k1 k3 eqs i (by omega)
            exact Nat.lt_of_le_of_lt (show us.length ≤ 300 by omega) (by decide)
          · have keep : ∀ b o, b ≠ m → H7 b = some o → (upd (upd H7 t (.tup [V.int (i : Nat), .ref r])) m (.lst (us ++ [.ref t]))) b = some o := fun b o nb e => by
              rw [upd_ne nb]
              exact st _ _ e
            refine ⟨fun b0 o0 e0 => keep _ _ (ne_of_none e0 nm) (s07 _ _ e0), keep _ _ am h7, ?_, ⟨us ++ [.ref t], upd_same, ?_⟩, _, rfl⟩
            · have hT8 := hT7.mono st
              exact trt_upd hT8 hm8
            · have e9 : (mulTo d kk eqs i ++ ((E94.prodsW ((d : Int) - (E94.degM q0 : Int)) kk).take (j + 1)).map fun c => (i, c)) = (mulTo d kk eqs i ++ ((E94.prodsW ((d : Int) - (E94.degM q0 : Int)) kk).take j).map fun c => (i, c)) ++ [(i, c)] := by
                rw [take_more hc, List.map_append, ← List.append_assoc]
                rfl
              rw [e9, List.map_append]
              refine dpAll_snoc (dpAll_updL hm8 _ _ (noLists_map noList_mul _) (same_dpAll st _ _ hU7)) ?_
              refine dp_updL hm8 _ _ (noList_mul _) ?_
              exact .tup (SqT.of upd_same) (.cons (.int _) (.cons (tup_dp (SqT.of (st _ _ hrt))) .nil))
        · rintro σ3 H7 ⟨s07, h7, hT7, hU7, z6, rfl⟩
          rw [hT6.len, List.take_length] at hU7
          refine ⟨s07, ?_, _, _, _, rfl⟩
          rw [mulTo_more hq0]
          unfold mulOf
          rw [if_neg q00]
          exact hU7
    · rintro σ H2 ⟨sm, ⟨ws, hm, hW⟩, y4, y5, y6, rfl⟩
      rw [lx, mulTo_all] at hW
      exact ⟨_, rfl, q _ _ _ sm nm hm hW⟩
end
end E94H
set_option Elab.async false
set_option linter.all false
set_option maxRecDepth 100000
set_option maxHeartbeats 2000000
namespace E94H
open PySem PySem.Spec PyProof.Rows L2
section
variable {P : Program} {w : World} {K : PySem.W.Frag} {mg : Str → Option Value} {base : Heap}
/-! tracked rows, tracked columns -/
def TrR (H : Hp) : List V → List (List Int) → Prop
  | [], [] => True
  | v :: vs, c :: cs => (∃ r, v = .ref r ∧ H r = some (.lst (c.map V.int))) ∧ TrR H vs cs
  | _, _ => False
theorem TrR.len {H : Hp} : ∀ {vs : List V} {cs : List (List Int)}, TrR H vs cs → vs.length = cs.length
  | [], [], _ => rfl
  | _ :: _, _ :: _, h => by rw [List.length_cons, List.length_cons, TrR.len h.2]
  | [], _ :: _, h => h.elim
  | _ :: _, [], h => h.elim
theorem TrR.mem {H : Hp} : ∀ {vs : List V} {cs : List (List Int)} {v : V}, TrR H vs cs → v ∈ vs → ∃ (r : Addr) (c : List Int), v = .ref r ∧ H r = some (.lst (c.map V.int))
  | [], [], _, _, e => nomatch e
  | u :: vs, c :: cs, v, h, e => by
    rcases List.mem_cons.mp e with rfl | e
    · obtain ⟨r, e1, h1⟩ := h.1
      exact ⟨r, c, e1, h1⟩
    · exact TrR.mem (vs := vs) (cs := cs) h.2 e
  | [], _ :: _, _, h, _ => h.elim
  | _ :: _, [], _, h, _ => h.elim
theorem TrR.keep {H H' : Hp} : ∀ {vs : List V} {cs : List (List Int)}, TrR H vs cs → (∀ r o, V.ref r ∈ vs → H r = some o → H' r = some o) → TrR H' vs cs
  | [], [], _, _ => trivial
  | _ :: _, _ :: _, h, hk => by
    obtain ⟨r, e1, h1⟩ := h.1
    exact ⟨⟨r, e1, hk r _ (by rw [e1]; exact List.mem_cons_self ..) h1⟩, TrR.keep h.2 fun r o hr e => hk r o (List.mem_cons_of_mem _ hr) e⟩
  | [], _ :: _, h, _ => h.elim
  | _ :: _, [], h, _ => h.elim
theorem TrR.mono {H H' : Hp} {vs : List V} {cs : List (List Int)} (h : TrR H vs cs) (hs : Same H H') : TrR H' vs cs := h.keep fun r o _ e => hs r o e
theorem TrR.self {H : Hp} {vs : List V} {cs : List (List Int)} {d : Addr} (h : TrR H vs cs) (hd : H d = some (.lst vs)) : V.ref d ∉ vs := fun m => by
  obtain ⟨r, c, e, h1⟩ := h.mem m
  have : d = r := V.ref.inj e
  subst this
  rw [hd] at h1
  have e2 : vs = c.map V.int := HO.lst.inj (Option.some.inj h1)
  rw [e2] at m
  obtain ⟨_, _, e3⟩ := List.mem_map.mp m
  cases e3
theorem TrR.snoc {H : Hp} : ∀ {vs : List V} {cs : List (List Int)} {r : Addr} {c : List Int}, TrR H vs cs → H r = some (.lst (c.map V.int)) → TrR H (vs ++ [.ref r]) (cs ++ [c])
  | [], [], r, c, _, h => ⟨⟨r, rfl, h⟩, trivial⟩
  | _ :: _, _ :: _, _, _, h, h1 => ⟨h.1, TrR.snoc h.2 h1⟩
  | [], _ :: _, _, _, h, _ => h.elim
  | _ :: _, [], _, _, h, _ => h.elim
theorem TrR.dp {H : Hp} : ∀ {vs : List V} {cs : List (List Int)}, TrR H vs cs → DpAll K H vs (cs.map dRow)
  | [], [], _ => .nil
  | _ :: _, _ :: _, h => by
    obtain ⟨r, e1, h1⟩ := h.1
    rw [e1]
    exact .cons (row_dp (SqL.of h1)) (TrR.dp h.2)
  | [], _ :: _, h => h.elim
  | _ :: _, [], h => h.elim
abbrev Col := List (List Nat × Int)
def CAll (H : Hp) : List V → List Col → Prop
  | [], [] => True
  | v :: vs, c :: cs => (∃ r, v = .ref r ∧ H r = some (.dT (colK c))) ∧ CAll H vs cs
  | _, _ => False
theorem CAll.len {H : Hp} : ∀ {vs : List V} {cs : List Col}, CAll H vs cs → vs.length = cs.length
  | [], [], _ => rfl
  | _ :: _, _ :: _, h => by rw [List.length_cons, List.length_cons, CAll.len h.2]
  | [], _ :: _, h => h.elim
  | _ :: _, [], h => h.elim
theorem CAll.get {H : Hp} : ∀ {vs : List V} {cs : List Col} {i : Nat} {v : V}, CAll H vs cs → vs[i]? = some v → ∃ r c, cs[i]? = some c ∧ v = .ref r ∧ H r = some (.dT (colK c))
  | [], [], i, v, _, e => by simp at e
  | u :: vs, c :: cs, i, v, h, e => by
    cases i with
    | zero =>
      have : u = v := Option.some.inj e
      subst this
      obtain ⟨r, e1, h1⟩ := h.1
      exact ⟨r, c, rfl, e1, h1⟩
    | succ i => exact CAll.get (vs := vs) (cs := cs) (i := i) h.2 (by simpa using e)
  | [], _ :: _, _, _, h, _ => h.elim
  | _ :: _, [], _, _, h, _ => h.elim
theorem CAll.mono {H H' : Hp} (hs : Same H H') : ∀ {vs : List V} {cs : List Col}, CAll H vs cs → CAll H' vs cs
  | [], [], _ => trivial
  | _ :: _, _ :: _, h => by
    obtain ⟨r, e1, h1⟩ := h.1
    exact ⟨⟨r, e1, hs _ _ h1⟩, CAll.mono hs h.2⟩
  | [], _ :: _, h => h.elim
  | _ :: _, [], h => h.elim
theorem CAll.upd {H : Hp} {l : Addr} {acc : List V} {o' : HO} (hl : H l = some (.lst acc)) : ∀ {vs : List V} {cs : List Col}, CAll H vs cs → CAll (upd H l o') vs cs
  | [], [], _ => trivial
  | _ :: _, _ :: _, h => by
    obtain ⟨r, e1, h1⟩ := h.1
    refine ⟨⟨r, e1, ?_⟩, CAll.upd hl h.2⟩
    rw [upd_ne (ne_of h1 hl (fun z => nomatch z))]
    exact h1
  | [], _ :: _, h => h.elim
  | _ :: _, [], h => h.elim
theorem CAll.snoc {H : Hp} : ∀ {vs : List V} {cs : List Col} {r : Addr} {c : Col}, CAll H vs cs → H r = some (.dT (colK c)) → CAll H (vs ++ [.ref r]) (cs ++ [c])
  | [], [], r, c, _, h => ⟨⟨r, rfl, h⟩, trivial⟩
  | _ :: _, _ :: _, _, _, h, h1 => ⟨h.1, CAll.snoc h.2 h1⟩
  | [], _ :: _, _, _, h, _ => h.elim
  | _ :: _, [], _, _, h, _ => h.elim
def colsM (eqs : List E94.MP) (I : List (Nat × List Nat)) : List Col := I.map fun i => E94.scaledMul i.2 (eqs.getD i.1 [])
theorem rowOf_cols (eqs : List E94.MP) (p : E94.MP) (I : List (Nat × List Nat)) (z c : List Nat) : E94.rowOfM eqs p I z c = (colsM eqs I ++ [E94.scaledMul z p]).map fun col => E94.colGet col c := by
  unfold E94.rowOfM colsM
  rw [List.map_append, List.map_map]
  rfl
theorem dpAll_at {H : Hp} {α : Type} {f : α → PyData} {xs : List α} {vs : List V} {i : Nat} {x : α} (h : DpAll K H vs (xs.map f)) (e : xs[i]? = some x) : ∃ v, vs[i]? = some v ∧ Dp K H v (f x) := by
  have l := dpAll_len h
  rw [List.length_map] at l
  have hi : i < xs.length := by
    rcases Nat.lt_or_ge i xs.length with h' | h'
    · exact h'
    · rw [List.getElem?_eq_none h'] at e; cases e
  have hv : vs[i]? = some (vs[i]'(by omega)) := List.getElem?_eq_getElem _
  obtain ⟨y, hy, hd⟩ := dpAll_get h hv
  rw [e] at hy
  have : x = y := Option.some.inj hy
  subst this
  exact ⟨_, hv, hd⟩
theorem TrT.at {H : Hp} {vs : List V} {cs : List (List Nat)} {i : Nat} {c : List Nat} (h : TrT H vs cs) (e : cs[i]? = some c) : ∃ r, vs[i]? = some (.ref r) ∧ H r = some (.tup ((tupC c).map V.int)) := by
  have l := h.len
  have hi : i < cs.length := by
    rcases Nat.lt_or_ge i cs.length with h' | h'
    · exact h'
    · rw [List.getElem?_eq_none h'] at e; cases e
  have hv : vs[i]? = some (vs[i]'(by omega)) := List.getElem?_eq_getElem _
  obtain ⟨r, d, hd, er, hr⟩ := h.get hv
  rw [e] at hd
  have : c = d := Option.some.inj hd
  subst this
  rw [er] at hv
  exact ⟨r, hv, hr⟩
theorem getD_of {α : Type} {xs : List α} {i : Nat} {z : α} (h : i < xs.length) : xs[i]? = some (xs.getD i z) := by
  rw [List.getD_eq_getElem?_getD, List.getElem?_eq_getElem h]
  rfl
end
end E94H
set_option Elab.async false
set_option linter.all false
set_option maxRecDepth 100000
set_option maxHeartbeats 2000000
namespace E94H
open PySem PySem.Spec PyProof.Rows L2
section
variable {P : Program} {w : World} {K : PySem.W.Frag} {mg : Str → Option Value} {base : Heap}
theorem FAt.keys {H : Hp} : ∀ {kvs : List (Key × V)} {F : E94.Found}, FAt K H kvs F → kvs.map (·.1) = (F.map fun y => (y.1 : Int)).map Sum.inl
  | [], [], _ => rfl
  | (k, v) :: kvs, y :: F, h => by
    obtain ⟨ek, _, ht⟩ := h
    rw [List.map_cons, List.map_cons, List.map_cons, FAt.keys ht]
    exact congrArg (· :: _) ek
  | [], _ :: _, h => h.elim
  | _ :: _, [], h => h.elim
theorem FAt.val {H : Hp} : ∀ {kvs : List (Key × V)} {F : E94.Found} (j : Nat), FAt K H kvs F → match E94.rowAt F j with
    | none => valV kvs (Sum.inl (j : Int) : Key) = none
    | some o => ∃ a, valV kvs (Sum.inl (j : Int) : Key) = some (.ref a) ∧ SqL K H a (o.map V.int)
  | [], [], j, _ => rfl
  | (k, v) :: kvs, y :: F, j, h => by
    obtain ⟨ek, ⟨a, ev, hs⟩, ht⟩ := h
    have ih := FAt.val j ht
    have er : E94.rowAt (y :: F) j = if j = y.1 then some y.2 else E94.rowAt F j := by
      unfold E94.rowAt
      rw [List.lookup_cons]
      by_cases e : j = y.1
      · rw [if_pos e]; simp [e]
      · rw [if_neg e]
        have : (j == y.1) = false := by simp [e]
        rw [this]
    rw [er]
    have ek' : k = Sum.inl (y.1 : Int) := ek
    have ev' : v = .ref a := ev
    by_cases e : j = y.1
    · rw [if_pos e]
      exact ⟨a, by rw [valV_pos (show k = Sum.inl (j : Int) by rw [ek', e]), ev'], hs⟩
    · rw [if_neg e, valV_neg (show ¬ k = Sum.inl (j : Int) from fun z => e (by rw [ek'] at z; have := Sum.inl.inj z; omega))]
      exact ih
  | [], _ :: _, _, h => h.elim
  | _ :: _, [], _, h => h.elim
theorem lookup_mem {α β : Type} [BEq α] [LawfulBEq α] {l : List (α × β)} {a : α} {b : β} (h : l.lookup a = some b) : (a, b) ∈ l := by
  induction l with
  | nil => cases h
  | cons x l ih =>
    rw [List.lookup_cons] at h
    by_cases e : a = x.1
    · subst e
      simp at h
      subst h
      exact List.mem_cons_self ..
    · have : (a == x.1) = false := by simp [e]
      rw [this] at h
      exact List.mem_cons_of_mem _ (ih h)
theorem col_bits {k : Nat} {p : E94.MP} (ok : POk k p) (c x : List Nat) : (E94.colGet (E94.scaledMul c p) x).natAbs < 2 ^ 173 := by
  unfold E94.colGet
  cases e : (E94.scaledMul c p).lookup x with
  | none => exact Nat.pow_pos (by decide)
  | some z =>
    obtain ⟨t, ht, et⟩ := List.mem_map.mp (lookup_mem e)
    have ez : z = t.2.1 * ((E94.scaleOf p / t.2.2 : Nat) : Int) := (Prod.mk.inj et).2.symm
    show z.natAbs < _
    rw [ez, Int.natAbs_mul, Int.natAbs_natCast]
    have h1 := ok.num t ht
    have h2 : E94.scaleOf p / t.2.2 ≤ 9999 ^ 12 := Nat.le_trans (Nat.div_le_self _ _) ok.scale
    exact Nat.lt_of_le_of_lt (Nat.mul_le_mul h1 h2) (by decide)
/-- a def that the module holds by its name -/
def Has (K : PySem.W.Frag) (mg : Str → Option Value) (name : Str) (st : Stmt) (ps : List Str) : Prop := ∃ f fd, Fun K name name st f fd ∧ Binds K fd ps [] ∧ mg name = some (.ref f)
structure BsEnv (K : PySem.W.Frag) (mg : Str → Option Value) : Prop where
  mult : Has K mg "multiples_within" s_multiples_within ["d", "letter_count", "equations"]
  redu : Has K mg "reduced" s_reduced ["rows"]
  scal : Has K mg "scale_of" s_scale_of ["polynomial"]
  lowe : Has K mg "lowest_terms" s_lowest_terms ["top", "bottom"]
  smul : Has K mg "scaled_multiple" s_scaled_multiple ["product", "polynomial"]
  prow : Has K mg "products_within" s_products_within ["degree", "letter_count"]
  tims : Has K mg "times" s_times ["one", "other"]
  cmul : Has K mg "common_multiple" s_common_multiple ["one", "other"]
  cdiv : Has K mg "common_divisor" s_common_divisor ["one", "other"]
  prof : Has K mg "product_of" s_product_of ["counts"]
  degr : Has K mg "degree_of" s_degree_of ["polynomial"]
  with0 : Has K mg "with_zero_at" s_with_zero_at ["place", "row", "other"]
  firs : Has K mg "first_place" s_first_place ["row"]
  clea : Has K mg "cleared" s_cleared ["row"]
  mabs : mg "abs" = none
  mzip : mg "zip" = none
  mtup : mg "tuple" = none
  msum : mg "sum" = none
  mrange : mg "range" = none
  msorted : mg "sorted" = none
  mrev : mg "reversed" = none
  menum : mg "enumerate" = none
  mlen : mg "len" = none
theorem noList_term (t : E94.MT) : noList (dTerm t) = true := by
  simp only [noList, noLists, noLists_map noList_int, Bool.and_self]
theorem refs_get {rs : List Addr} {i : Nat} {v : V} (h : (rs.map V.ref)[i]? = some v) : ∃ r, rs[i]? = some r ∧ v = .ref r := by
  rw [List.getElem?_map] at h
  obtain ⟨r, h1, h2⟩ := Option.map_eq_some_iff.mp h
  exact ⟨r, h1, h2.symm⟩
theorem row_last {r : List Int} {n : Nat} (h : r.length = n + 1) : atI (r.map V.int) (-1) = some (.int (r.getD n 0)) := by
  have e : r = r.take n ++ [r.getD n 0] := by
    have : r[n]? = some (r.getD n 0) := getD_of (by omega)
    rw [← take_more this, List.take_of_length_le (by omega)]
  have := atI_last ((r.take n).map V.int) (.int (r.getD n 0))
  rw [show (r.take n).map V.int ++ [V.int (r.getD n 0)] = r.map V.int by
    conv => rhs; rw [e]
    rw [List.map_append]
    rfl] at this
  exact this
theorem get_place {pd : List (Nat × List Int)} {i : Nat} {x : V} (h : ((pd.map fun y => (y.1 : Int)).map V.int)[i]? = some x) : ∃ y, pd[i]? = some y ∧ x = .int (y.1 : Int) := by
  rw [List.getElem?_map, List.getElem?_map] at h
  cases e : pd[i]? with
  | none => rw [e] at h; cases h
  | some y => rw [e] at h; exact ⟨y, rfl, (Option.some.inj h).symm⟩
theorem scale_log {k : Nat} {p : E94.MP} (ok : POk k p) : ((E94.scaleOf p : Nat) : Int).natAbs.log2 ≤ 160 := by
  rw [Int.natAbs_natCast]
  exact log2_le (Nat.lt_of_le_of_lt ok.scale (by decide))
theorem filterMap_more {α β : Type} {f : α → Option β} {l : List α} {i : Nat} {y : α} (h : l[i]? = some y) : (l.take (i + 1)).filterMap f = (l.take i).filterMap f ++ (f y).toList := by
  rw [take_more h, List.filterMap_append]
  cases e : f y <;> simp [e]
end
end E94H
set_option Elab.async false
set_option linter.all false
set_option maxRecDepth 100000
set_option maxHeartbeats 2000000
namespace E94H
open PySem PySem.Spec PyProof.Rows L2
section
variable {P : Program} {w : World} {K : PySem.W.Frag} {mg : Str → Option Value} {base : Heap}
/-! ### in_letters -/
theorem sum_mon : ∀ {l c : List Nat}, l.length = c.length → ((E94.mon l c).map (·.2)).sum = c.sum
  | [], [], _ => by rw [E94.mon_drop]; rfl
  | a :: l, n :: c, h => by
    have ih := sum_mon (l := l) (c := c) (by simpa using h)
    rw [E94.mon_drop] at ih ⊢
    rw [List.zip_cons_cons, List.filter_cons, List.sum_cons]
    by_cases n0 : n = 0
    · subst n0
      rw [if_neg (by simp), ih]
      omega
    · rw [if_pos (by simpa using n0), List.map_cons, List.sum_cons, ih]
  | [], _ :: _, h => by simp at h
  | _ :: _, [], h => by simp at h
theorem pick_sum {l : List Nat} (hl : E94.LetOk l) {q : E94.MP} (h : E94.GoodR q) (ho : E94.otherM l q = false) : ∀ t ∈ q, (E94.pickC l t.1).sum = t.1.sum := by
  have hw : Al04.within l (E94.toPoly E94.az q) = true := by rw [E94.otherM_within h, ho]; rfl
  have hw := E94.within_iff.mp hw
  intro t ht
  have hc := h.good.len t ht
  have hm : E94.mon l (E94.pickC l t.1) = E94.mon E94.az t.1 := E94.mon_pick hl.asc hl.hi hc fun y hy => hw (E94.mon E94.az t.1, E94.ratT t) (List.mem_map_of_mem (f := fun t : E94.MT => (E94.mon E94.az t.1, E94.ratT t)) ht) y hy
  rw [← sum_mon (l := l) (c := E94.pickC l t.1) (by simp [E94.pickC]), hm, sum_mon (by rw [hc]; rfl)]
theorem sc_in_letters : FnScope ["polynomial", "letters", "terms", "term", "product", "letter"] ["polynomial", "letters"] (defScope s_in_letters) := ⟨rfl, rfl, rfl, by decide +kernel, rfl, by decide +kernel, by decide +kernel⟩
def sp_in_letters (K : PySem.W.Frag) : Sp := fun vs H Q _ => ∃ (v : V) (a : Addr) (p : E94.MP) (l : List Nat), vs = [v, .ref a] ∧ Dp K H v (dPoly p) ∧ SqL K H a ((ofN l).map V.int) ∧ l.length ≤ 3 ∧ 1 ≤ l.length ∧ (∀ x ∈ l, x < 26) ∧ (∀ t ∈ p, t.1.length = 26 ∧ (E94.pickC l t.1).sum = t.1.sum) ∧ p.length ≤ 12 ∧
  ∀ H' r ts, Same H H' → H r = none → H' r = some (.lst ts) → DpAll K H' ts ((E94.pickM l p).map dTerm) → Q (.ref r) H'
theorem ok_in_letters {f : Addr} {fd : FuncData} {k : Nat} (F : Fun K "in_letters" "in_letters" s_in_letters f fd) (mtup : mg "tuple" = none) : FnOk P w K mg base CX0 (k + 1) f fd ["polynomial", "letters"] (sp_in_letters K) := by
  refine F.ok sc_in_letters (fun vs H Q E h => ?_) (fun cdv A outer s H vs Q E hr h => ?_)
  · obtain ⟨v, a, p, l, rfl, _⟩ := h
    rfl
  · obtain ⟨v, aL, p, l, rfl, hP, hA, l3, l1, l26, hp, h12, q⟩ := h
    refine ⟨_, pss_cons (ps_set (i := 2) sc_in_letters.nd rfl (.inl rfl) (pe_lst pa_nil))
      (pss_cons (ps_for PassesOwn.never rfl (pi_list (pv 0)) (pg_name (i := 3) sc_in_letters.nd rfl (.inr rfl))
        (pss_cons (ps_set (i := 4) sc_in_letters.nd rfl (.inl rfl) (pe_op op_cat (pe_lst (pa_cons (pe_ix ix_tup (pe_ix ix_tup (pv 3) pe_int (fun _ _ => rfl)) pe_int (fun _ _ => rfl)) pa_nil))
          (pe_lc (own := [("letter", 5)]) (g := gName 5) (tt := tYes) (by rfl) sc_in_letters.nd (pi_list (pv 1)) (blkOk_by (own := [("letter", 5)]) (N := ["polynomial", "letters", "terms", "term", "product", "letter"]) (sc := defScope s_in_letters) (by decide +kernel)) (fun _ _ _ _ _ => pg_name (i := 5) sc_in_letters.nd rfl (.inl rfl)) (fun _ _ _ _ _ => pts_nil)
            (fun _ _ _ _ _ => pe_ix (show IxR _ (rIxT K) from ix_tup) (pe_ix (show IxR _ (rIxT K) from ix_tup) (pv 3) pe_int (fun _ _ => rfl)) (pe_op op_add pe_int (pv 5)) (fun _ _ => rfl)))))
        (pss_one (ps_expr (pe_bm PySem.F.plainAttrs_list PySem.F.slot_list_append PySem.F.type_list_append mt_append (pv 2) (pa_cons (pe_tup (pa_cons (pe_callTy call_tuple_of (by rfl) mtup (by decide +kernel) (pa_cons (pv 4) pa_nil)) (pa_cons (pe_ix ix_tup (pv 3) pe_int (fun _ _ => rfl)) (pa_cons (pe_ix ix_tup (pv 3) pe_int (fun _ _ => rfl)) pa_nil)))) pa_nil))))))
      (pss_one (ps_ret (pv 2)))), ?_⟩
    obtain ⟨a, xs, rfl, hL, hAll⟩ := dp_poly hP
    have lx : xs.length = p.length := by rw [dpAll_len hAll, List.length_map]
    refine ⟨Nat.zero_le _, fun m nm => ?_⟩
    have s0 := same_upd (o := .lst []) nm
    refine ⟨_, rfl, a, rfl, ⟨_, s0.seq hL⟩, for_list (K := K) (a := a) (xs := xs) (fun i σ H2 => Same H H2 ∧ (∃ ts, H2 m = some (.lst ts) ∧ DpAll K H2 ts ((E94.pickM l (p.take i)).map dTerm)) ∧ ∃ y3 y4 y5, σ = [some (.ref a), some (.ref aL), some (.ref m), y3, y4, y5]) ⟨s0, ⟨[], upd_same, .nil⟩, none, none, none, rfl⟩ (fun i σ H2 _ h => h.1.seq hL) ?_ ?_⟩
    · rintro i x σ H2 hi ⟨sm, ⟨ts, hm, hts⟩, y3, y4, y5, rfl⟩
      obtain ⟨t, htt, hdp⟩ := dpAll_get hAll hi
      have tm := hp t (List.mem_of_getElem? htt)
      obtain ⟨b, c, rfl, hB, hC⟩ := dp_term (same_dp sm _ _ hdp)
      have il : i < p.length := by
        rcases Nat.lt_or_ge i p.length with h | h
        · exact h
        · rw [List.getElem?_eq_none h] at htt; cases htt
      have at0 : atI ((tupC t.1).map V.int) 0 = some (.int (t.1.sum : Int)) := atI_nat (j := 0) rfl
      refine ⟨_, rfl, b, _, 0, _, rfl, rfl, hB, atI_nat (j := 0) rfl, c, _, 0, _, rfl, rfl, hC, at0, by show 1 ≤ sizeLine; decide, fun g ng => ?_⟩
      have sg := same_upd (o := .lst [V.int (t.1.sum : Int)]) ng
      refine ⟨_, rfl, aL, rfl, ⟨_, sg.seq (sm.seq hA)⟩, fun D hD => lc_list (K := K) (a := aL) (xs := (ofN l).map V.int) (fun j H3 => Same (upd H2 g (.lst [V.int (t.1.sum : Int)])) H3 ∧ H3 D = some (.lst ((ofN (E94.pickC (l.take j) t.1)).map V.int))) ⟨same_upd hD, upd_same⟩ (fun j H3 _ h => h.1.seq (sg.seq (sm.seq hA))) ?_ ?_⟩
      · rintro j x H3 hj ⟨s3, h3⟩
        obtain ⟨y, hy, rfl⟩ := get_nat hj
        have y26 := l26 y (List.mem_of_getElem? hy)
        have sB : Same H2 H3 := sg.trans s3
        refine ⟨rfl, ?_⟩
        have aty : atI ((tupC t.1).map V.int) (1 + (y : Int)) = some (.int (t.1.getD y 0 : Nat)) := by
          have e : (1 + (y : Int)) = ((y + 1 : Nat) : Int) := by omega
          rw [e]
          refine atI_nat ?_
          show ((ofN t.1).map V.int)[y]? = _
          unfold ofN
          rw [List.map_map, List.getElem?_map, getD_of (z := 0) (show y < t.1.length by rw [tm.1]; exact y26)]
          rfl
        refine ⟨_, rfl, b, _, 0, _, rfl, rfl, same_sqT sB hB, atI_nat (j := 0) rfl, _, rfl, _, _, rfl, rfl, c, _, _, _, rfl, rfl, same_sqT sB hC, aty, _, h3, ?_, fun b0 o0 e0 => ?_, ?_⟩
        · rw [List.length_map, ofN_len]
          unfold E94.pickC
          rw [List.length_map, List.length_take]
          exact Nat.lt_of_le_of_lt (show _ ≤ 3 by omega) (by decide)
        · rw [upd_ne (ne_of_none e0 hD)]
          exact s3 _ _ e0
        · rw [upd_same, take_more hy]
          unfold E94.pickC
          rw [List.map_append, List.map_singleton, ofN_snoc, List.map_append]
          rfl
      · rintro H3 ⟨s3, h3⟩
        rw [List.length_map, ofN_len, List.take_length] at h3
        have hg3 := s3 _ _ (show (upd H2 g (.lst [V.int (t.1.sum : Int)])) g = some (.lst [V.int (t.1.sum : Int)]) from upd_same)
        have s23 : Same H2 H3 := sg.trans s3
        have pl : (E94.pickC l t.1).length = l.length := by simp [E94.pickC]
        refine ⟨g, D, _, _, rfl, rfl, hg3, h3, ?_, fun r nr => ?_⟩
        · rw [List.length_map, ofN_len, pl, sizeLine_eq]
          show 1 + l.length ≤ 16777216
          omega
        · have sr := same_upd (o := .lst ([V.int (t.1.sum : Int)] ++ (ofN (E94.pickC l t.1)).map V.int)) nr
          have hmr := sr _ _ (s23 _ _ hm)
          refine ⟨_, rfl, .inl ⟨rfl, _, SqL.of hmr⟩, _, rfl, r, _, rfl, .inl ⟨SqL.of upd_same, fun t2 nt2 => ?_⟩⟩
          have st := same_upd (o := .tup ([V.int (t.1.sum : Int)] ++ (ofN (E94.pickC l t.1)).map V.int)) nt2
          have s2t := (s23.trans sr).trans st
          refine ⟨_, rfl, b, _, 1, _, rfl, rfl, same_sqT s2t hB, atI_nat (j := 1) rfl, _, rfl, b, _, 2, _, rfl, rfl, same_sqT s2t hB, atI_nat (j := 2) rfl, by show 3 ≤ sizeLine; decide, fun t3 nt3 => ?_⟩
          have s3t := same_upd (o := .tup [V.ref t2, V.int t.2.1, V.int (t.2.2 : Nat)]) nt3
          have hm9 := s3t _ _ (st _ _ hmr)
          refine ⟨m, _, _, rfl, rfl, hm9, ?_, fun b0 o0 e0 => ?_, ⟨ts ++ [.ref t3], upd_same, ?_⟩, _, _, _, rfl⟩
          · have h1 := dpAll_len hts
            unfold E94.pickM at h1
            rw [List.length_map, List.length_map, List.length_take] at h1
            exact Nat.lt_of_le_of_lt (show ts.length ≤ 12 by omega) (by decide)
          · rw [upd_ne (ne_of_none e0 nm)]
            exact s3t _ _ (s2t _ _ (sm _ _ e0))
          · have e9 : E94.pickM l (p.take (i + 1)) = E94.pickM l (p.take i) ++ [(E94.pickC l t.1, t.2)] := by
              unfold E94.pickM
              rw [take_more htt, List.map_append]
              rfl
            rw [e9, List.map_append]
            refine dpAll_snoc (dpAll_updL hm9 _ _ (noLists_map noList_term _) (same_dpAll (s2t.trans s3t) _ _ hts)) (dp_updL hm9 _ _ (noList_term _) ?_)
            refine term_dp (b := t2) (SqT.of upd_same) (SqT.of (s3t _ _ ?_))
            show _ = some (HO.tup ((tupC (E94.pickC l t.1)).map V.int))
            unfold tupC
            rw [upd_same, tm.2]
            rfl
    · rintro σ H2 ⟨sm, ⟨ts, hm, hts⟩, y3, y4, y5, rfl⟩
      rw [lx, List.take_length] at hts
      exact ⟨_, rfl, q _ _ _ sm nm hm hts⟩
end
end E94H
set_option Elab.async false
set_option linter.all false
set_option maxRecDepth 100000
set_option maxHeartbeats 2000000
namespace E94H
open PySem PySem.Spec PyProof.Rows L2
section
variable {P : Program} {w : World} {K : PySem.W.Frag} {mg : Str → Option Value} {base : Heap}
/-! polynomials read, in a list at D -/
def OAt (K : PySem.W.Frag) (H : Hp) (D : Addr) (v : V) (o : Option E94.MP) : Prop := match o with
  | none => v = .non
  | some q => ∃ p vs, v = .ref p ∧ p ≠ D ∧ H p = some (.lst vs) ∧ DpAll K H vs (q.map dTerm)
def OTr (K : PySem.W.Frag) (H : Hp) (D : Addr) : List V → List (Option E94.MP) → Prop
  | [], [] => True
  | v :: vs, o :: os => OAt K H D v o ∧ OTr K H D vs os
  | _, _ => False
theorem OAt.mono {H H' : Hp} {D : Addr} {v : V} {o : Option E94.MP} (h : OAt K H D v o) (s : Same H H') : OAt K H' D v o := by
  cases o with
  | none => exact h
  | some q =>
    obtain ⟨p, vs, e, n, h1, h2⟩ := h
    exact ⟨p, vs, e, n, s _ _ h1, same_dpAll s _ _ h2⟩
theorem OAt.upd {H : Hp} {D : Addr} {v : V} {o : Option E94.MP} {acc : List V} {o' : HO} (h : OAt K H D v o) (hd : H D = some (.lst acc)) : OAt K (upd H D o') D v o := by
  cases o with
  | none => exact h
  | some q =>
    obtain ⟨p, vs, e, n, h1, h2⟩ := h
    exact ⟨p, vs, e, n, by rw [upd_ne n]; exact h1, dpAll_updL hd _ _ (noLists_map noList_term _) h2⟩
theorem OAt.dp {H : Hp} {D : Addr} {v : V} {o : Option E94.MP} (h : OAt K H D v o) : Dp K H v (dOpt o) := by
  cases o with
  | none => rw [show v = .non from h]; exact .non
  | some q =>
    obtain ⟨p, vs, e, n, h1, h2⟩ := h
    rw [e]
    exact .lst (SqL.of h1) h2
theorem OTr.mono {H H' : Hp} {D : Addr} (s : Same H H') : ∀ {vs : List V} {os : List (Option E94.MP)}, OTr K H D vs os → OTr K H' D vs os
  | [], [], _ => trivial
  | _ :: _, _ :: _, h => ⟨h.1.mono s, OTr.mono s h.2⟩
  | [], _ :: _, h => h.elim
  | _ :: _, [], h => h.elim
theorem OTr.upd {H : Hp} {D : Addr} {acc : List V} {o' : HO} (hd : H D = some (.lst acc)) : ∀ {vs : List V} {os : List (Option E94.MP)}, OTr K H D vs os → OTr K (upd H D o') D vs os
  | [], [], _ => trivial
  | _ :: _, _ :: _, h => ⟨h.1.upd hd, OTr.upd hd h.2⟩
  | [], _ :: _, h => h.elim
  | _ :: _, [], h => h.elim
theorem OTr.snoc {H : Hp} {D : Addr} : ∀ {vs : List V} {os : List (Option E94.MP)} {v : V} {o : Option E94.MP}, OTr K H D vs os → OAt K H D v o → OTr K H D (vs ++ [v]) (os ++ [o])
  | [], [], _, _, _, h => ⟨h, trivial⟩
  | _ :: _, _ :: _, _, _, h, h1 => ⟨h.1, OTr.snoc h.2 h1⟩
  | [], _ :: _, _, _, h, _ => h.elim
  | _ :: _, [], _, _, h, _ => h.elim
theorem OTr.len {H : Hp} {D : Addr} : ∀ {vs : List V} {os : List (Option E94.MP)}, OTr K H D vs os → vs.length = os.length
  | [], [], _ => rfl
  | _ :: _, _ :: _, h => by rw [List.length_cons, List.length_cons, OTr.len h.2]
  | [], _ :: _, h => h.elim
  | _ :: _, [], h => h.elim
theorem OTr.dp {H : Hp} {D : Addr} : ∀ {vs : List V} {os : List (Option E94.MP)}, OTr K H D vs os → DpAll K H vs (os.map dOpt)
  | [], [], _ => .nil
  | _ :: _, _ :: _, h => .cons h.1.dp (OTr.dp h.2)
  | [], _ :: _, h => h.elim
  | _ :: _, [], h => h.elim
theorem opts_polys (qs : List E94.MP) : (qs.map some).map dOpt = qs.map dPoly := by rw [List.map_map]; rfl
/-! what is refused, by lists -/
theorem mapM_map (ts : List (List Nat)) : ts.mapM E94.readPolyM = (ts.map E94.readPolyM).mapM id := by
  induction ts with
  | nil => rfl
  | cons t ts ih => rw [List.mapM_cons, List.map_cons, List.mapM_cons, ih]; rfl
structure ToldG (n : Nat) (l : List Nat) (d : Nat) (qs : List E94.MP) : Prop where
  lets : E94.LetOk l
  d5 : d ≤ 5
  least : n ≤ qs.length
  most : qs.length ≤ n + 3
  good : ∀ q ∈ qs, E94.GoodR q
  mine : ∀ q ∈ qs, E94.otherM l q = false
  fits : ∀ q ∈ qs, E94.tooLargeM q = false
abbrev Told (l : List Nat) (d : Nat) (qs : List E94.MP) : Prop := ToldG 1 l d qs
theorem ToldG.one {l : List Nat} {d : Nat} {qs : List E94.MP} (T : ToldG 1 l d qs) : 1 ≤ qs.length := T.least
theorem ToldG.four {l : List Nat} {d : Nat} {qs : List E94.MP} (T : ToldG 1 l d qs) : qs.length ≤ 4 := T.most
theorem guard_casesG (n d : Nat) (l : List Nat) (ts : List (List Nat)) (go : List E94.MP → List Int) : (refM n d l (ts.map E94.readPolyM) < 0 ∧ E94.guardM d n (n + 3) l ts go = [refM n d l (ts.map E94.readPolyM)]) ∨
    (refM n d l (ts.map E94.readPolyM) = 0 ∧ ∃ qs, ts.map E94.readPolyM = qs.map some ∧ ToldG n l d qs ∧ E94.guardM d n (n + 3) l ts go = go qs) := by
  unfold refM E94.guardM
  rw [List.length_map, ← mapM_map]
  by_cases h1 : Al04.lettersOk l = false
  · rw [if_pos h1, if_pos h1]; exact .inl ⟨by decide, rfl⟩
  · rw [if_neg h1, if_neg h1]
    by_cases h2 : 5 < d ∨ ts.length < n ∨ n + 3 < ts.length
    · rw [if_pos h2, if_pos h2]; exact .inl ⟨by decide, rfl⟩
    · rw [if_neg h2, if_neg h2]
      cases hm : ts.mapM E94.readPolyM with
      | none => exact .inl ⟨by show (-1 : Int) < 0; decide, rfl⟩
      | some qs =>
        dsimp only
        have hno : none ∉ ts.map E94.readPolyM := fun z => by
          rw [mapM_map, mapM_id_none z] at hm
          cases hm
        obtain ⟨qs', e1, e2⟩ := mapM_id_some hno
        rw [← mapM_map, hm] at e2
        have : qs = qs' := Option.some.inj e2
        subst this
        have ln : qs.length = ts.length := by have := congrArg List.length e1; simpa using this.symm
        by_cases h3 : qs.any (E94.otherM l) = true
        · rw [if_pos h3, if_pos h3]; exact .inl ⟨by decide, rfl⟩
        · rw [if_neg h3, if_neg h3]
          by_cases h4 : qs.any E94.tooLargeM = true
          · rw [if_pos h4, if_pos h4]; exact .inl ⟨by decide, rfl⟩
          · rw [if_neg h4, if_neg h4]
            refine .inr ⟨rfl, qs, e1, ⟨E94.lettersOk_iff.mp (by simpa using h1), by omega, by omega, by omega, E94.mapM_good hm, fun q hq => ?_, fun q hq => ?_⟩, rfl⟩
            · have := List.any_eq_false.mp (by simpa using h3) q hq
              simpa using this
            · have := List.any_eq_false.mp (by simpa using h4) q hq
              simpa using this
theorem guard_cases (d : Nat) (l : List Nat) (ts : List (List Nat)) (go : List E94.MP → List Int) : (refM 1 d l (ts.map E94.readPolyM) < 0 ∧ E94.guardM d 1 4 l ts go = [refM 1 d l (ts.map E94.readPolyM)]) ∨
    (refM 1 d l (ts.map E94.readPolyM) = 0 ∧ ∃ qs, ts.map E94.readPolyM = qs.map some ∧ Told l d qs ∧ E94.guardM d 1 4 l ts go = go qs) := guard_casesG 1 d l ts go
theorem fits_of {q : E94.MP} (h : E94.tooLargeM q = false) : E94.degM q ≤ 5 ∧ q.length ≤ 12 ∧ ∀ t ∈ q, t.2.1.natAbs ≤ 9999 ∧ t.2.2 ≤ 9999 := by
  unfold E94.tooLargeM at h
  rw [Bool.or_eq_false_iff, Bool.or_eq_false_iff] at h
  refine ⟨by simpa using h.1, by simpa using h.2.1, fun t ht => ?_⟩
  have := List.any_eq_false.mp h.2.2 t ht
  simp at this
  omega
theorem ToldG.pok {n : Nat} {l : List Nat} {d : Nat} {qs : List E94.MP} (T : ToldG n l d qs) {q : E94.MP} (hq : q ∈ qs) : POk l.length (E94.pickM l q) ∧ E94.degM (E94.pickM l q) = E94.degM q ∧ E94.degM q ≤ 5 := by
  have hp := E94.pick_toPoly T.lets (T.good q hq) (T.mine q hq)
  have hf := fits_of (T.fits q hq)
  refine ⟨⟨hp.2.1, ?_, fun t ht => ?_, fun t ht => ?_⟩, hp.2.2.2, hf.1⟩
  · unfold E94.pickM; rw [List.length_map]; exact hf.2.1
  · obtain ⟨u, hu, rfl⟩ := List.mem_map.mp ht
    exact (hf.2.2 u hu).2
  · obtain ⟨u, hu, rfl⟩ := List.mem_map.mp ht
    exact (hf.2.2 u hu).1
end
end E94H
set_option Elab.async false
set_option linter.all false
set_option maxRecDepth 100000
set_option maxHeartbeats 2000000
namespace E94H
open PySem PySem.Spec PyProof.Rows L2
open PySem.W (WData Codec OpenSpec WellAll ReadsW)
/-! ### the end of the row, with what the top says of the interpreter's own statics -/
/-- what stands in the arguments' part is a list or a tuple -/
theorem arg_cls {K : PySem.W.Frag} {h : Heap} {A : List Addr} (ar : ∀ a ∈ A, ArgOb h A a) {b : Addr} {o : Obj} (e : h.get? b = some o) (n1 : o.cls ≠ .type "list") (n2 : o.cls ≠ .type "tuple") : argH K h A b = none := by
  cases q : argH K h A b with
  | none => rfl
  | some u =>
    obtain ⟨_, vs, _, _, z⟩ := argH_is ar q
    rcases z with ⟨g, _⟩ | ⟨g, _⟩ <;> (rw [e] at g; have g' := congrArg Obj.cls (Option.some.inj g); first | exact absurd g' n1 | exact absurd g' n2)
theorem arg_dict {K : PySem.W.Frag} {h : Heap} {A : List Addr} (ar : ∀ a ∈ A, ArgOb h A a) {b : Addr} {o : Obj} {es : Array DictEntry} {ep : Nat} (e : h.get? b = some o) (d : o.data = .dict es ep) : argH K h A b = none := by
  cases q : argH K h A b with
  | none => rfl
  | some u =>
    obtain ⟨_, vs, _, _, z⟩ := argH_is ar q
    rcases z with ⟨g, _⟩ | ⟨g, _⟩ <;> (rw [e] at g; have g' := congrArg Obj.data (Option.some.inj g); rw [d] at g'; cases g')
/-- the heap that is not told of the arguments keeps namespaces and the statics -/
structure Rest (h b : Heap) : Prop where
  ns : ∀ {a : Addr} {m : Str → Option Value}, h.Ns a m → b.Ns a m
  ob : ∀ {a : Addr} {o : Obj}, h.get? a = some o → o.cls ≠ .type "list" → o.cls ≠ .type "tuple" → b.get? a = some o
theorem Rest.seer {h b : Heap} (r : Rest h b) (x : h.NoSeer) : b.NoSeer where
  statics := by obtain ⟨mc, a, c⟩ := x.statics; exact ⟨mc, r.ns a, c⟩
  mods := by obtain ⟨mc, a, c⟩ := x.mods; exact ⟨mc, r.ns a, c⟩
  imp := by obtain ⟨mc, a, c⟩ := x.imp; exact ⟨mc, r.ns a, c⟩
  main := by
    obtain ⟨mg, bm, ob, a, c, d, e, f⟩ := x.main
    exact ⟨mg, bm, ob, r.ns a, c, r.ob d (by rw [e]; decide) (by rw [e]; decide), e, f⟩
theorem Rest.digits {h b : Heap} (r : Rest h b) (x : h.NoDigits) : b.NoDigits := by obtain ⟨mc, a, c⟩ := x; exact ⟨mc, r.ns a, c⟩
theorem call_rest {P : Program} {w : World} {K : PySem.W.Frag} {mg mb : Str → Option Value} {k : Nat} {fa : Addr} {fd : FuncData} {ps : List Str} {sp : Sp} {s1 : Shared} {vals : List Value} {ds : List WData} {R : PySem.W.WRecords} {cl : Str → Option Addr} {d0 : WData}
    (KX : K.In s1.heap) (g1 : s1.heap.Ns mainGlobals mg) (g2 : s1.heap.Ns builtinsNs mb) (g3 : ∀ x : Str, x ≠ "__name__" → mb x = bootBuiltins x) (g4 : s1.heap.NoLimit) (g5 : s1.heap.NoSeer) (g6 : s1.heap.NoDigits) (g7 : s1.gens = #[])
    (wl : WellAll w.params s1.heap vals ds) (pl : plWs ds = true) (wt : ∀ d ∈ ds, d.weight ≤ 1048576) (room : Room k callerA)
    (F : ∀ base : Heap, base.NoSeer → base.NoDigits → FnOk P w K mg base CX0 k fa fd ps sp) (bnd : ∀ (s : Shared) (us : List Value), us.length = ps.length → BindsTo s fd ⟨us, []⟩ (ps.zip us)) (len : ds.length = ps.length)
    (wish : ∀ (H : Hp) (xs : List V), OnlyF H → DwAll K H xs ds → sp xs H (fun v H' => Dw K H' v d0) fun _ _ _ => False) :
    codeAny (model P w) callerA (.call (.ref fa) ⟨vals, []⟩) (fun r s' => ∃ u as, r = .ok (.ret u) ∧ ReadsW R cl s'.heap u d0 as ∧ OldK s1.heap s'.heap ∧ s'.os = s1.os ∧ AllBare s'.gens) s1 := by
  obtain ⟨A, okA, ar⟩ := area_all ds vals wl pl wt
  have only : OnlyF (argH K s1.heap A) := argH_only ar
  have hok : HOk P w (argH K s1.heap A) s1.heap := argH_ok ar
  have dws := dw_all KX ar ds vals wl pl okA
  have rel := vals_toV okA
  have noK : ∀ b o, K.lookup b = some o → argH K s1.heap A b = none := fun b o e => by
    cases q : argH K s1.heap A b with
    | none => rfl
    | some u => rw [(argH_is ar q).1] at e; cases e
  have rst : Rest s1.heap (hidT s1.heap (argH K s1.heap A)) := ⟨fun {a m} ⟨o, es, ep, e, d, z⟩ => ⟨o, es, ep, hidT_get e (arg_dict ar e d), d, z⟩, fun {a o} e n1 n2 => hidT_get e (arg_cls ar e n1 n2)⟩
  have kin : K.In (hidT s1.heap (argH K s1.heap A)) := fun b o e => hidT_get (KX b o e) (noK b o e)
  have md : Mod K mg (hidT s1.heap (argH K s1.heap A)) := ⟨kin, rst.ns g1, ⟨mb, rst.ns g2, g3⟩, by obtain ⟨mc, z1, z2⟩ := g4; exact ⟨mc, rst.ns z1, z2⟩⟩
  have ev : Env0 P w K mg (hidT s1.heap (argH K s1.heap A)) callerA [] s1 (argH K s1.heap A) := ⟨rfl, md, fun b o e => of_hidT e, Nat.le_of_eq (hidT_size _ _), trivial, fun b hb => absurd (show b ∈ ([] : List Addr) from hb) (by simp), hok, .of_eq g7⟩
  have lv : vals.length = ps.length := (wellAll_len wl).trans len
  refine codeAny_mono ((F _ (rst.seer g5) (rst.digits g6)).run callerA [] s1 _ ⟨vals, []⟩ vals (vals.map toV) _ _ room ev (bnd s1 vals lv) rel (wish _ _ only dws)) fun r s' x => ?_
  match r, x with
  | .error e, x => exact False.elim x
  | .ok .next, x => exact False.elim x
  | .ok .brk, x => exact False.elim x
  | .ok .cont, x => exact False.elim x
  | .ok (.ret u), x =>
    obtain ⟨v, H', os, bare, un, hok', r', q⟩ := x
    have kept : ∀ b o, s1.heap.get? b = some o → s'.heap.get? b = some o := fun b o e => by
      rcases only b with z | ⟨ob, u3, z⟩
      · exact un.keep b o e z (fun y => absurd (show b ∈ ([] : List Addr) from y) (by simp)) (by simp)
      · have e1 := (hok b _ z).1
        have e2 := (hok' b _ (un.frzs b ob _ z)).1
        rw [e] at e1
        cases e1
        exact e2
    obtain ⟨as, hrd⟩ := Dw.reads (R := R) (cl := cl) hok' (fun b o e => kept b o (KX b o e)) d0 v u q r'
    exact ⟨u, as, rfl, hrd, OldK.of_keep kept, os, bare⟩
theorem walk_rest {r : OpenSpec} {k : Nat} {q : Program} {loose : List Str} {XP : (Str → Option Value) → Heap → Prop} {YP : World → Heap → Prop} {d : DefRec} {K : Params → PySem.W.Frag} {ps : List Str} {sp : PySem.W.Frag → Sp}
    (imp : importsNone q = true) (well : r.wellSaid = true) (dfl : d.params.defaults = []) (len : r.args.length = ps.length) (room : Room k callerA) (inK : ∀ (w : World) (h : Heap), YP w h → (K w.params).In h)
    (F : ∀ (w : World) (mg : Str → Option Value) (fa : Addr) (h : Heap), YP w h → (K w.params).In h → h.Ns mainGlobals mg → mg d.name = some (.ref fa) →
      ∃ fd : FuncData, (∀ (s : Shared) (us : List Value), us.length = ps.length → BindsTo s fd ⟨us, []⟩ (ps.zip us)) ∧ ∀ base : Heap, base.NoSeer → base.NoDigits → FnOk r.prog w (K w.params) mg base CX0 k fa fd ps (sp (K w.params)))
    (wish : ∀ (K : PySem.W.Frag) (H : Hp) (xs : List V) (a : Codec.denoteAll r.args), OnlyF H → Codec.withinAll r.args a = true → Codec.app r.args r.asked a = true → DwAll K H xs (Codec.encAll r.args a) →
      sp K xs H (fun v H' => Dw K H' v (r.ret.enc (Codec.app r.args r.f a))) fun _ _ _ => False) :
    PySem.W.WalkOS q loose XP YP r d [] (fun f vs => PySem.call f vs) := by
  intro w s0 s1 mg mb G Y fa o pm cd doc dV kV ho hd hcd hD hmg hg args vals as pre lay hrd wl hlo
  obtain ⟨a, e1, e2⟩ := PySem.W.os_pre_some pre
  obtain ⟨rfl, wi⟩ := Codec.encAll_of_decAll r.args args a e1
  have KX := inK w _ Y
  obtain ⟨fd, bnd, ok⟩ := F w mg fa _ Y KX G.T.g hmg
  have run := call_rest (R := []) (cl := classAt s0.heap) (d0 := r.ret.enc (Codec.app r.args r.f a)) KX G.T.g G.T.b G.T.builtins G.T.nolimit (G.T.seer imp) G.T.nodigits hg wl (pl_encAll _ _) (layable_weight lay) room ok bnd ((encAll_len _ _).trans len) fun H xs hO hS => wish _ H xs a hO wi e2 hS
  refine PySem.W.enter_call (codeAny_mono run fun r' s' hq => ?_)
  obtain ⟨u, as', rfl, h1, h2, h3, h4⟩ := hq
  exact ⟨.inl ⟨u, _, as', rfl, fun _ => rfl, h1, (OpenSpec.post_iff well wi _ _).mpr rfl, fun z => Bool.noConfusion (show false = true from z)⟩, h2, h3, h4⟩
end E94H
set_option Elab.async false
set_option linter.all false
set_option maxRecDepth 100000
set_option maxHeartbeats 2000000
namespace E94H
open PySem PySem.Spec PyProof.Rows L2
section
variable {P : Program} {w : World} {K : PySem.W.Frag} {mg : Str → Option Value} {base : Heap}
def Num (mg : Str → Option Value) (x : Str) (n : Int) : Prop := ∃ t, mg x = some (.int n t)
/-- all that reading and refusing lean on -/
structure EnvR (K : PySem.W.Frag) (mg : Str → Option Value) : Prop extends BsEnv K mg where
  piec : Has K mg "pieces_between" s_pieces_between ["text", "separator"]
  rwho : Has K mg "read_whole" s_read_whole ["text"]
  digi : Has K mg "is_digit" s_is_digit ["byte"]
  rnum : Has K mg "read_number" s_read_number ["text"]
  rpow : Has K mg "read_power" s_read_power ["text"]
  rpro : Has K mg "read_product" s_read_product ["factors"]
  rter : Has K mg "read_term" s_read_term ["text"]
  sign : Has K mg "signed_words" s_signed_words ["text"]
  rpol : Has K mg "read_polynomial" s_read_polynomial ["text"]
  arel : Has K mg "are_letters" s_are_letters ["letters"]
  haso : Has K mg "has_other_letter" s_has_other_letter ["polynomial", "letters"]
  istl : Has K mg "is_too_large" s_is_too_large ["polynomial"]
  firr : Has K mg "first_refusal" s_first_refusal ["d", "letters", "ahead", "polynomials"]
  inle : Has K mg "in_letters" s_in_letters ["polynomial", "letters"]
  cZ : Num mg "ZERO" 48
  cN : Num mg "NINE" 57
  cS : Num mg "SLASH" 47
  cC : Num mg "CARET" 94
  cA : Num mg "SMALL_A" 97
  cL : Num mg "SMALL_Z" 122
  cK : Num mg "LETTER_COUNT" 26
  cT : Num mg "STAR" 42
  cB : Num mg "BLANK" 32
  cM : Num mg "MINUS" 45
  cP : Num mg "PLUS" 43
  n3 : Num mg "MOST_LETTERS" 3
  n25 : Num mg "LAST_LETTER" 25
  n5 : Num mg "LARGEST_DEGREE" 5
  n12 : Num mg "MOST_PRODUCTS" 12
  n9 : Num mg "LARGEST_WHOLE" 9999
  nb : Num mg "BAD_TEXT" (-1)
  nm : Num mg "TOO_MUCH" (-2)
  nt : Num mg "BAD_LETTERS" (-4)
  ne : Num mg "MOST_EQUATIONS" 3
  many : mg "any" = none
theorem EnvR.okRead {k : Nat} (T : EnvR K mg) : ∃ f fd, (∃ F : Fun K "read_polynomial" "read_polynomial" s_read_polynomial f fd, True) ∧ Binds K fd ["text"] [] ∧ mg "read_polynomial" = some (.ref f) ∧ FnOk P w K mg base CX0 (k + 6) f fd ["text"] (sp_read_polynomial K) := by
  obtain ⟨f, fd, F, b, g⟩ := T.rpol
  obtain ⟨fB, fdB, FB, bB, gB⟩ := T.piec
  obtain ⟨fW, fdW, FW, bW, gW⟩ := T.rwho
  obtain ⟨fD, fdD, FD, bD, gD⟩ := T.digi
  obtain ⟨fG, fdG, FG, bG, gG⟩ := T.cdiv
  obtain ⟨fN, fdN, FN, bN, gN⟩ := T.rnum
  obtain ⟨fP, fdP, FP, bP, gP⟩ := T.rpow
  obtain ⟨fO, fdO, FO, bO, gO⟩ := T.prof
  obtain ⟨fR, fdR, FR, bR, gR⟩ := T.rpro
  obtain ⟨fT, fdT, FT, bT, gT⟩ := T.rter
  obtain ⟨fS, fdS, FS, bS, gS⟩ := T.sign
  obtain ⟨_, cZ⟩ := T.cZ
  obtain ⟨_, cN⟩ := T.cN
  obtain ⟨_, cS⟩ := T.cS
  obtain ⟨_, cC⟩ := T.cC
  obtain ⟨_, cA⟩ := T.cA
  obtain ⟨_, cL⟩ := T.cL
  obtain ⟨_, cK⟩ := T.cK
  obtain ⟨_, cT⟩ := T.cT
  obtain ⟨_, cB⟩ := T.cB
  obtain ⟨_, cM⟩ := T.cM
  obtain ⟨_, cP⟩ := T.cP
  exact ⟨f, fd, ⟨F, trivial⟩, b, g, ok_read_polynomial F ⟨FB, bB, gB, FW, bW, gW, FD, bD, gD, FG, bG, gG, FN, bN, gN, FP, bP, gP, FO, bO, gO, FR, bR, gR, cZ, cN, cS, cC, cA, cL, cK, cT, T.mlen, T.mabs, T.msum, T.mtup⟩ FT bT gT FS bS gS cB cM cP T.mrange⟩
theorem EnvR.okRef {k : Nat} (T : EnvR K mg) : ∃ f fd, (∃ F : Fun K "first_refusal" "first_refusal" s_first_refusal f fd, True) ∧ Binds K fd ["d", "letters", "ahead", "polynomials"] [] ∧ mg "first_refusal" = some (.ref f) ∧ FnOk P w K mg base CX0 (k + 3) f fd ["d", "letters", "ahead", "polynomials"] (sp_first_refusal K) := by
  obtain ⟨f, fd, F, b, g⟩ := T.firr
  obtain ⟨fL, fdL, FL, bL, gL⟩ := T.arel
  obtain ⟨fO, fdO, FO, bO, gO⟩ := T.haso
  obtain ⟨fT, fdT, FT, bT, gT⟩ := T.istl
  obtain ⟨fD, fdD, FD, bD, gD⟩ := T.degr
  obtain ⟨_, g3⟩ := T.n3
  obtain ⟨_, g25⟩ := T.n25
  obtain ⟨_, g5⟩ := T.n5
  obtain ⟨_, g12⟩ := T.n12
  obtain ⟨_, g9⟩ := T.n9
  obtain ⟨_, gb⟩ := T.nb
  obtain ⟨_, gm⟩ := T.nm
  obtain ⟨_, gt⟩ := T.nt
  obtain ⟨_, ge⟩ := T.ne
  exact ⟨f, fd, ⟨F, trivial⟩, b, g, ok_first_refusal F ⟨FL, bL, gL, FO, bO, gO, FT, bT, gT, FD, bD, gD, g3, g25, g5, g12, g9, T.mlen, T.mabs, T.menum, T.many⟩ gb gm gt ge⟩
end
end E94H
set_option Elab.async false
set_option linter.all false
set_option maxRecDepth 100000
set_option maxHeartbeats 2000000
namespace E94H
open PySem PySem.Spec PyProof.Rows L2

open PySem.W (Codec)
theorem has_mk {K : PySem.W.Frag} {h : Heap} {mg : Str → Option Value} (KX : K.In h) (G : h.Ns mainGlobals mg) {x : Str} {st : Stmt} {ps : List Str} {f : Addr} {oc : Value} {od an : Option Addr} {osl : Array (Option Value)} {kV doc pm cdv ct : Value} (a : PySem.W.nsIn K mainGlobals x = some (some (.ref f)))
    (l : K.lookup f = some ⟨oc, od, .func (PySem.W.fnOf x x (defArgs st) (defBody st) (defScope st) .none kV doc pm an cdv ct), osl⟩) (c : PySem.W.codeIn K cdv x = true) (k : PySem.W.keepIn K (.ref f) = true)
    (b : ∀ (kV doc pm : Value) (an : Option Addr) (cdv ct : Value) (us : List Value), us.length = ps.length → bindArgs (PySem.W.fnOf x x (defArgs st) (defBody st) (defScope st) .none kV doc pm an cdv ct) ⟨us, []⟩ = pure (ps.zip us)) : Has K mg x st ps :=
  ⟨f, _, fun_mk l c k, (fun_mk l c k).binds b, PySem.W.mg_of KX G a⟩
theorem top_mk {K : PySem.W.Frag} {h : Heap} {mg : Str → Option Value} (KX : K.In h) (G : h.Ns mainGlobals mg) {x : Str} {st : Stmt} {ps : List Str} {f : Addr} {oc : Value} {od an : Option Addr} {osl : Array (Option Value)} {kV doc pm cdv ct : Value} (a : PySem.W.nsIn K mainGlobals x = some (some (.ref f)))
    (l : K.lookup f = some ⟨oc, od, .func (PySem.W.fnOf x x (defArgs st) (defBody st) (defScope st) .none kV doc pm an cdv ct), osl⟩) (c : PySem.W.codeIn K cdv x = true) (k : PySem.W.keepIn K (.ref f) = true)
    (b : ∀ (kV doc pm : Value) (an : Option Addr) (cdv ct : Value) (us : List Value), us.length = ps.length → bindArgs (PySem.W.fnOf x x (defArgs st) (defBody st) (defScope st) .none kV doc pm an cdv ct) ⟨us, []⟩ = pure (ps.zip us)) : ∃ f fd, Fun K x x st f fd ∧ (∀ (s : Shared) (us : List Value), us.length = ps.length → BindsTo s fd ⟨us, []⟩ (ps.zip us)) ∧ mg x = some (.ref f) :=
  ⟨f, _, fun_mk l c k, fun s us hu => .of_eq (b _ _ _ _ _ _ us hu), PySem.W.mg_of KX G a⟩
theorem num_mk {K : PySem.W.Frag} {h : Heap} {mg : Str → Option Value} (KX : K.In h) (G : h.Ns mainGlobals mg) {x : Str} {n : Int} {t : Tok} (a : PySem.W.nsIn K mainGlobals x = some (some (.int n t))) : Num mg x n := ⟨t, PySem.W.mg_of KX G a⟩
theorem txt_mk {K : PySem.W.Frag} {h : Heap} {mg : Str → Option Value} (KX : K.In h) (G : h.Ns mainGlobals mg) {x : Str} {n : Str} {t : Tok} (a : PySem.W.nsIn K mainGlobals x = some (some (.str n t))) : ∃ t, mg x = some (.str n t) := ⟨t, PySem.W.mg_of KX G a⟩
theorem none_mk {K : PySem.W.Frag} {h : Heap} {mg : Str → Option Value} (KX : K.In h) (G : h.Ns mainGlobals mg) {x : Str} (a : PySem.W.nsIn K mainGlobals x = some none) : mg x = none := PySem.W.mg_none_of KX G a
/-! the arguments -/
theorem ofN_toNat : ∀ {ns : List Int}, (∀ n ∈ ns, 0 ≤ n) → ofN (ns.map Int.toNat) = ns
  | [], _ => rfl
  | n :: ns, h => by
    have h1 := h n (List.mem_cons_self ..)
    have h2 := ofN_toNat fun m hm => h m (List.mem_cons_of_mem _ hm)
    show ((n.toNat : Int)) :: ofN (ns.map Int.toNat) = n :: ns
    rw [h2]
    congr 1
    omega
theorem dw_row {K : PySem.W.Frag} {H : Hp} {v : V} {ns : List Int} (h : Dw K H v (.list (ns.map PySem.W.WData.int))) : ∃ a, v = .ref a ∧ SqL K H a (ns.map V.int) := by
  cases h with
  | lst hs ha =>
    have e := ints_dw ns _ ha
    subst e
    exact ⟨_, rfl, hs⟩
theorem dw_words {K : PySem.W.Frag} {H : Hp} : ∀ {ts : List (List Int)} {vs : List V}, (∀ t ∈ ts, ∀ n ∈ t, 0 ≤ n) → DwAll K H vs (ts.map fun t => PySem.W.WData.list (t.map PySem.W.WData.int)) → DpAll K H vs ((ts.map fun t => t.map Int.toNat).map fun t => dRow (ofN t))
  | [], _, _, h => by cases h; exact .nil
  | t :: ts, _, n, h => by
    cases h with
    | cons h1 h2 =>
      obtain ⟨a, rfl, ha⟩ := dw_row h1
      refine .cons ?_ (dw_words (fun u hu => n u (List.mem_cons_of_mem _ hu)) h2)
      show Dp K H (.ref a) (dRow (ofN (t.map Int.toNat)))
      rw [ofN_toNat (n t (List.mem_cons_self ..))]
      exact row_dp ha
end E94H
set_option Elab.async false
set_option linter.all false
set_option maxRecDepth 100000
set_option maxHeartbeats 2000000
namespace E94H
open PySem PySem.Spec PyProof.Rows L2 RT
/-! ### list(reversed(xs)) -/
section
variable {prog : Program} {w : World} {A : Around} {E : Value → Shared → Prop} {s : Shared}
theorem extend_rev {it l S : Addr} {items : Array Value} {c0 : Nat} {R : Result → Shared → Prop} (res : Value) (hh : A.handled = none) (hit : s.heap.IsRevIter it l ((items.size : Int) - 1)) (hl : s.heap.IsList l items) (hne : l ≠ it) (hn : items.size ≤ sizeLine) (hSi : S ≠ it) (hSl : S ≠ l)
    (hS : s.heap.get? S = some { cls := .type "list", data := .seq #[] c0 })
    (hR : ∀ (h' : Heap) (tk : Nat) (acc : Array Value) (c' : Nat), (∀ b o, b ≠ it → b ≠ S → s.heap.get? b = some o → h'.get? b = some o) → h'.get? S = some { cls := .type "list", dict := none, data := .seq acc c', slots := #[] } → ItemsOf (fun i v => items[items.size - 1 - i]? = some v) acc items.size → R (.ok (.ret res)) { s with heap := h', toks := tk }) :
    wpAny (model prog w) A.in1 (Builtin.List.listExtendWith (.ref S) (.ref it) res)
      (fun fin s' => match fin with | .done f => R (.ok f) s' | .again c' => c'.quiet = true ∧ codeAny (model prog w) A c' R s') (fun e s' => R (.error e) s') s := by
  have W := (Walks.listRev (prog := prog) (w := w) (A := A.in1) hh it l hne items).toS
  have hSf : S ∉ [it, l] := by simp only [List.mem_cons, List.not_mem_nil, or_false, not_or]; exact ⟨hSi, hSl⟩
  have hT : s.TypeIs (.ref it) "list_reverseiterator" := hit.typeIs
  have h1 : Builtin.List.listSameRef (.ref S) (.ref it) = false := by simp [Builtin.List.listSameRef, hSi]
  unfold Builtin.List.listExtendWith
  refine wpAny_bind (wpAny_typeOf hT ?_)
  rw [if_neg (by rw [h1]; decide)]
  refine wpAny_bind (wpAny_pyIter_revIter hit ?_)
  refine wpAny_bind (wpAny_holding ?_)
  unfold Builtin.List.listLengthHint
  refine wpAny_bind (wpAny_specialOf hT nolen_lri ?_)
  show wpAny _ A.in1 (specialOf (Value.ref it) (Str.ofString "__length_hint__") >>= _) _ _ _
  refine wpAny_bind (wpAny_specialOf hT hint_lri ?_)
  generalize hid : ("list_reverseiterator.__length_hint__" : String) = id0
  wp_delta
  rw [show splitId id0 = some ("list_reverseiterator", "__length_hint__") from by subst hid; decide +kernel]
  subst hid
  refine wpAny_bind (wpAny_isInstance (b := true) hT (by rw [isSubtype_type]; kernel_rfl) ?_)
  refine wpAny_pure ?_
  rw [if_neg (by decide)]
  have e0 : ((items.size : Nat) : Int) - 1 - ((0 : Nat) : Int) = (items.size : Int) - 1 := by omega
  refine wpAny_pure ⟨plainId_quiet F.plain_extend_loop _, codeAny_extend_loopS W hn _ hSf _ items.size 0 _ _ _ rfl (Nat.zero_le _) ⟨Nat.zero_le _, by rw [e0]; exact hit, hl⟩ hS (ItemsOf.nil _) fun s' acc' c' hm hS' hacc => ?_⟩
  rw [Moved.eq_with hm]
  refine hR s'.heap s'.toks acc' c' (fun b o hb hb2 e => hm.heap b o (fun hmem => ?_) e) hS' hacc
  rcases List.mem_cons.mp hmem with e' | hmem
  · exact hb2 e'
  · exact hb (List.mem_singleton.mp hmem)
theorem call_list_rev {it l : Addr} {items : Array Value} {Q : Value → Shared → Prop} (hh : A.handled = none) (hit : s.heap.IsRevIter it l ((items.size : Int) - 1)) (hl : s.heap.IsList l items) (hne : l ≠ it) (hn : items.size ≤ sizeLine)
    (hQ : ∀ (h' : Heap) (tk : Nat) (acc : Array Value) (c' : Nat), (∀ b o, b ≠ it → s.heap.get? b = some o → h'.get? b = some o) → h'.get? s.heap.objs.size = some { cls := .type "list", dict := none, data := .seq acc c', slots := #[] } → ItemsOf (fun i v => items[items.size - 1 - i]? = some v) acc items.size →
      Q (.ref s.heap.objs.size) { s with heap := h', toks := tk }) :
    wpAny (model prog w) A (call (.type "list") [.ref it]) Q E s := by
  refine callType_codes (Q₁ := fun obj s₁ => obj = .ref s.heap.objs.size ∧ s₁ = { s with heap := s.heap.push { cls := .type "list", data := .seq #[] } }) PySem.F.called_list (PySem.F.typeCall_list_1 _) PySem.F.entry_list_init
    (code_list_new _ ⟨rfl, rfl⟩) fun obj s₁ h₁ => ?_
  obtain ⟨rfl, rfl⟩ := h₁
  have hS : (s.heap.push { cls := .type "list", data := .seq #[] }).get? s.heap.objs.size = some { cls := .type "list", data := .seq #[] } := Heap.get?_push_size _ rfl
  obtain ⟨oi, hoi, _⟩ := id hit
  obtain ⟨ol, hol, _⟩ := id hl
  have hSi : s.heap.objs.size ≠ it := Nat.ne_of_gt (Heap.lt_size hoi)
  have hSl : s.heap.objs.size ≠ l := Nat.ne_of_gt (Heap.lt_size hol)
  refine ⟨⟨_, hS, rfl⟩, PySem.F.args_list_init_2 _ _, ?_⟩
  generalize hs1 : ({ s with heap := s.heap.push { cls := .type "list", data := .seq #[] } } : Shared) = s1
  have hS1 : s1.heap.get? s.heap.objs.size = some { cls := .type "list", data := .seq #[] } := by rw [← hs1]; exact hS
  have hit1 : s1.heap.IsRevIter it l ((items.size : Int) - 1) := by rw [← hs1]; exact hit.at fun o e => Heap.get?_push_of_some _ e
  have hl1 : s1.heap.IsList l items := by rw [← hs1]; exact hl.push _
  show wpAny _ A.in1.in1 (do let old ← Builtin.List.listItems (.ref s.heap.objs.size); Builtin.List.listUpdate (.ref s.heap.objs.size) (fun _ => #[]); letGo old.toList.reverse; Builtin.List.listExtendWith (.ref s.heap.objs.size) (.ref it) .none) _ _ s1
  refine wpAny_bind ?_
  unfold Builtin.List.listItems
  refine wpAny_bind (wpAny_seqItems hS1 rfl (wpAny_pure ?_))
  show wpAny _ _ (updateSeq s.heap.objs.size (fun _ => #[]) >>= fun _ => letGo (#[] : Array Value).toList.reverse >>= fun _ => Builtin.List.listExtendWith (.ref s.heap.objs.size) (.ref it) .none) _ _ s1
  refine wpAny_bind (wpAny_updateSeq hS1 rfl ?_)
  have hS₂ := Heap.get?_update_self (Obj.mapSeq (fun _ => (#[] : Array Value))) hS1 rfl
  have oth : ∀ b o, b ≠ s.heap.objs.size → s1.heap.get? b = some o → (s1.heap.update s.heap.objs.size (Obj.mapSeq (fun _ => (#[] : Array Value)))).get? b = some o :=
    fun b o hb e => (Heap.get?_update_other _ _ (Ne.symm hb)).trans e
  refine wpAny_bind (wpAny_letGo ?_)
  refine extend_rev (A := A.in1) .none hh (hit1.at fun o e => oth _ _ hSi.symm e) (let ⟨o, e, r⟩ := hl1; ⟨o, oth _ _ hSl.symm e, r⟩) hne hn hSi hSl hS₂ (fun h' tk acc' c' hk hS' hacc => ?_)
  refine ⟨rfl, ?_⟩
  rw [← hs1] at hk oth ⊢
  exact hQ h' tk acc' c' (fun b o hb e => hk b o hb (Nat.ne_of_lt (Heap.lt_size e)) (oth b o (Nat.ne_of_lt (Heap.lt_size e)) (Heap.get?_push_of_some _ e))) hS' hacc
end
/-- list(reversed(x)), x a list: a new list -/
def tLstRev (K : PySem.W.Frag) (te : TE) : TE := fun σ H Q => te σ H fun v H1 => ∃ (a : Addr) (xs : List V), v = .ref a ∧ SqL K H1 a xs ∧ ∀ q, H1 q = none → Q (.ref q) (upd H1 q (.lst xs.reverse))
section
variable {X : Cx}
theorem pe_lstRev {e : Expr} {te : TE} {p p2 pos pos2 : Pos} (hc : X.calm = true) (hg : Gl X "list") (hm : X.mg "list" = none) (hg2 : Gl X "reversed") (hm2 : X.mg "reversed" = none) (he : PE X e te)
    (hs : starEach [e] X.env = (false, eval e X.env) :: starEach [] X.env := by rfl)
    (hs2 : starEach [.Call (.Name "reversed" p2) [e] [] pos2] X.env = (false, eval (.Call (.Name "reversed" p2) [e] [] pos2) X.env) :: starEach [] X.env := by rfl) :
    PE X (.Call (.Name "list" p) [.Call (.Name "reversed" p2) [e] [] pos2] [] pos) (tLstRev X.K te) := by
  refine ⟨fun pins s σ H Q I h => ?_⟩
  refine Call_ (ld_blt I hg hm boot_list (PyProof.Rows.callWith_type1 (args_cons (Call_ (ld_blt I hg2 hm2 PyProof.Rows.boot_reversed (PyProof.Rows.callWith_type1 (args_cons (thn (he.run pins s σ H _ I h) fun u s1 ⟨v, H1, I1, r1, q1⟩ => args_nil ?_) hs) hs rfl))) hs2) hs2 rfl))
  obtain ⟨a, xs, ev, hq, q⟩ := q1
  subst ev
  obtain rfl : u = Value.ref a := r1
  obtain ⟨its, rv, p', hz⟩ := I1.list hq
  refine call_reversed_list p'.isList (args_nil ?_)
  have k0 : ∀ b o, s1.heap.get? b = some o → (s1.heap.push (revObj a ((its.toArray.size : Int) - 1))).get? b = some o := fun b o e => Heap.get?_push_of_some _ e
  have I2 : Inv X pins σ H1 { s1 with heap := s1.heap.push (revObj a ((its.toArray.size : Int) - 1)) } := I1.kept (t' := s1.toks) k0
  obtain ⟨f0, f1, f2, f3, f4, f5⟩ := I1.fpOk (H' := H1) (b := s1.heap.objs.size) (Nat.le_refl _) (I1.hok.fresh (Nat.le_refl _))
  have hl := p'.isList
  obtain ⟨ol, hol, _⟩ := id hl
  have hne : a ≠ s1.heap.objs.size := Nat.ne_of_lt (Heap.lt_size hol)
  have hn : its.toArray.size ≤ sizeLine := by rw [List.size_toArray, ← rv.length]; exact hz
  refine call_list_rev (s := { s1 with heap := s1.heap.push (revObj a ((its.toArray.size : Int) - 1)) }) (I1.ok.hd hc) ⟨_, Heap.get?_push_size _ rfl, rfl, rfl⟩ (hl.push _) hne hn fun h' tk acc c' hk hS hi => ?_
  have sz : (s1.heap.push (revObj a ((its.toArray.size : Int) - 1))).objs.size = s1.heap.objs.size + 1 := Heap.size_push ..
  have le1 : s1.heap.objs.size ≤ (s1.heap.push (revObj a ((its.toArray.size : Int) - 1))).objs.size := by omega
  refine ⟨.ref (s1.heap.push (revObj a ((its.toArray.size : Int) - 1))).objs.size, upd H1 (s1.heap.push (revObj a ((its.toArray.size : Int) - 1))).objs.size (.lst xs.reverse), I1.laid (t' := tk) (fun b o e => hk b o (Nat.ne_of_lt (Heap.lt_size e)) (Heap.get?_push_of_some _ e)) le1 (show ObjOk X.prog X.w _ _ _ (.lst xs.reverse) from ⟨by rw [List.length_reverse]; exact hz, acc.toList, c', vals_rev rv hi, ?_⟩), rfl, q _ (I1.hok.fresh le1)⟩
  rw [Array.toArray_toList]
  exact hS
end
/-! ### list + list, of any standing -/
def rCatS (K : PySem.W.Frag) : R2 := fun x y H Q => ∃ l b xs zs, x = .ref l ∧ y = .ref b ∧ SqL K H l xs ∧ SqL K H b zs ∧ xs.length + zs.length ≤ sizeLine ∧ ∀ p, H p = none → Q (.ref p) (upd H p (.lst (xs ++ zs)))
theorem op_catS {X : Cx} : OpR X (binaryOp .Add) (rCatS X.K) := by
  intro pins s σ H x y v u Q I rx ry h
  obtain ⟨l, b, xs, zs, rfl, rfl, hH, hB, hz, q⟩ := h
  cases rx
  cases ry
  obtain ⟨its, r, hl, z⟩ := I.list hH
  obtain ⟨its2, r2, hl2, z2⟩ := I.list hB
  have e1 := r.length
  have e2 := r2.length
  obtain ⟨⟨cls, dd, data, sl⟩, n, ho, hc, _, hd⟩ := hl
  obtain ⟨⟨cls2, dd2, data2, sl2⟩, n2, ho2, hc2, _, hd2⟩ := hl2
  simp only at hc hd hc2 hd2
  subst hc hd hc2 hd2
  refine concat_meets ⟨_, ho, rfl⟩ ⟨_, ho2, rfl⟩ noFill_list_add seq_list_add PySem.F.slot_list_add PySem.F.entry_list_add (PySem.F.args_list_add_2 _ _) (list_addW l b its.toArray its2.toArray n n2 dd dd2 sl sl2 (by rw [List.size_toArray, List.size_toArray]; omega)) ⟨ho, ho2, ?_⟩
  have ea : its.toArray ++ its2.toArray = (its ++ its2).toArray := by simp
  rw [ea]
  exact ⟨.ref _, _, I.lnew (t' := s.toks) (r.append r2) (by rw [List.length_append]; omega), rfl, q _ I.fresh⟩
end E94H
set_option Elab.async false
set_option linter.all false
set_option maxRecDepth 100000
set_option maxHeartbeats 2000000
namespace E94H
open PySem PySem.Spec PyProof.Rows L2
section
variable {P : Program} {w : World} {K : PySem.W.Frag} {mg : Str → Option Value} {base : Heap}
theorem TrT.snoc {H : Hp} : ∀ {vs : List V} {cs : List (List Nat)} {v : V} {c : List Nat}, TrT H vs cs → PT H (v, c) → TrT H (vs ++ [v]) (cs ++ [c])
  | [], [], _, _, _, h => ⟨h, trivial⟩
  | _ :: _, _ :: _, _, _, h, h1 => ⟨h.1, TrT.snoc h.2 h1⟩
  | [], _ :: _, _, _, h, _ => h.elim
  | _ :: _, [], _, _, h, _ => h.elim
theorem TrT.rev {H : Hp} : ∀ {vs : List V} {cs : List (List Nat)}, TrT H vs cs → TrT H vs.reverse cs.reverse
  | [], [], _ => trivial
  | _ :: _, _ :: _, h => by
    rw [List.reverse_cons, List.reverse_cons]
    exact (TrT.rev h.2).snoc h.1
  | [], _ :: _, h => h.elim
  | _ :: _, [], h => h.elim
theorem TrT.dp {H : Hp} : ∀ {vs : List V} {cs : List (List Nat)}, TrT H vs cs → DpAll K H vs (cs.map dTup)
  | [], [], _ => .nil
  | _ :: _, _ :: _, h => by
    obtain ⟨r, e, hr⟩ := h.1
    dsimp only at e
    subst e
    exact .cons (tup_dp (SqT.of hr)) (TrT.dp h.2)
  | [], _ :: _, h => h.elim
  | _ :: _, [], h => h.elim
/-! ### columns_within -/
theorem sc_columns_within : FnScope ["d", "letter_count"] ["d", "letter_count"] (defScope s_columns_within) := ⟨rfl, rfl, rfl, by decide +kernel, rfl, by decide +kernel, by decide +kernel⟩
def sp_columns_within (K : PySem.W.Frag) : Sp := fun vs H Q _ => ∃ (d k : Nat), vs = [.int (d : Int), .int (k : Int)] ∧ 1 ≤ k ∧ k ≤ 3 ∧ d ≤ 5 ∧ ∀ H' a vs, Same H H' → H a = none → H' a = some (.lst vs) → TrT H' vs (E94.colsM d k) → Q (.ref a) H'
theorem ok_columns_within {f fW fO : Addr} {fd fdW fdO : FuncData} {k : Nat} (F : Fun K "columns_within" "columns_within" s_columns_within f fd) (FW : Fun K "products_within" "products_within" s_products_within fW fdW) (bW : Binds K fdW ["degree", "letter_count"] []) (gW : mg "products_within" = some (.ref fW))
    (FO : Fun K "product_of" "product_of" s_product_of fO fdO) (bO : Binds K fdO ["counts"] []) (gO : mg "product_of" = some (.ref fO)) (msum : mg "sum" = none) (mtup : mg "tuple" = none) (mrange : mg "range" = none) (msorted : mg "sorted" = none) (mrev : mg "reversed" = none) (mlist : mg "list" = none) :
    FnOk P w K mg base CX0 (k + 3) f fd ["d", "letter_count"] (sp_columns_within K) := by
  have GW : FnOk P w K mg base CX0 (k + 2) fW fdW ["degree", "letter_count"] (sp_products_within K) := ok_products_within FW FO bO gO msum mtup mrange msorted
  refine F.ok sc_columns_within (fun vs H Q E h => ?_) (fun cdv A outer s H vs Q E hr h => ?_)
  · obtain ⟨d, kk, rfl, _⟩ := h
    rfl
  · obtain ⟨d, kk, rfl, k1, k3, d5, q⟩ := h
    refine ⟨_, pss_one (ps_ret (pe_lstRev (by rfl) (by rfl) mlist (by rfl) mrev (pe_call GW hr (by rfl) gW FW.kp bW .nil pass0 (pa_cons (pv 0) (pa_cons (pv 1) pa_nil))))), ?_⟩
    refine ⟨_, rfl, _, rfl, (d : Int), kk, rfl, k1, k3, by omega, by omega, fun H1 a1 vs1 s1 n1 h1 hT1 => ?_⟩
    refine ⟨a1, vs1, rfl, SqL.of h1, fun p np => ?_⟩
    have sp := same_upd (o := .lst vs1.reverse) np
    exact q _ p _ (s1.trans sp) (s1.free np) upd_same (hT1.mono sp).rev
/-! ### row_of -/
theorem sc_row_of : FnScope ["product", "polynomial", "columns", "numbers", "column"] ["product", "polynomial", "columns"] (defScope s_row_of) := ⟨rfl, rfl, rfl, by decide +kernel, rfl, by decide +kernel, by decide +kernel⟩
def sp_row_of (K : PySem.W.Frag) : Sp := fun vs H Q _ => ∃ (b a : Addr) (v : V) (c : List Nat) (p : E94.MP) (k : Nat) (us : List V) (cs : List (List Nat)), vs = [.ref b, v, .ref a] ∧ SqT K H b ((tupC c).map V.int) ∧ Dp K H v (dPoly p) ∧ POk k p ∧ c.length = k ∧ k ≤ 1000 ∧ H a = some (.lst us) ∧ TrT H us cs ∧ cs.length ≤ 1000 ∧
  ∀ H' r, Same H H' → H r = none → H' r = some (.lst ((E94.rowM cs c p).map V.int)) → Q (.ref r) H'
theorem ok_row_of {f : Addr} {fd : FuncData} {k : Nat} (F : Fun K "row_of" "row_of" s_row_of f fd) (T : BsEnv K mg) : FnOk P w K mg base CX0 (k + 5) f fd ["product", "polynomial", "columns"] (sp_row_of K) := by
  obtain ⟨fS, fdS, FS, bS, gS⟩ := T.scal
  obtain ⟨fX, fdX, FX, bX, gX⟩ := T.smul
  obtain ⟨fT, fdT, FT, bT, gT⟩ := T.tims
  obtain ⟨fC, fdC, FC, bC, gC⟩ := T.cmul
  obtain ⟨fG, fdG, FG, bG, gG⟩ := T.cdiv
  have GX : FnOk P w K mg base CX0 (k + 4) fX fdX ["product", "polynomial"] (sp_scaled_multiple K) := ok_scaled_multiple FX FS bS gS FT bT gT FC bC gC FG bG gG T.mabs T.mzip T.mtup
  refine F.ok sc_row_of (fun vs H Q E h => ?_) (fun cdv A outer s H vs Q E hr h => ?_)
  · obtain ⟨b, a, v, c, p, kk, us, cs, rfl, _⟩ := h
    rfl
  · obtain ⟨b, a, v, c, p, kk, us, cs, rfl, hB, hP, pok, hc, hk, hA, hT, hl, q⟩ := h
    have hu := hu_of hr
    refine ⟨_, pss_cons (ps_set (i := 3) sc_row_of.nd rfl (.inr rfl) (pe_call GX hr (by rfl) gX FX.kp bX .nil pass0 (pa_cons (pv 0) (pa_cons (pv 1) pa_nil))))
      (pss_one (ps_ret (pe_lc (own := [("column", 4)]) (g := gName 4) (tt := tYes) (by rfl) sc_row_of.nd (pi_list (pv 2)) (blkOk_by (own := [("column", 4)]) (N := ["product", "polynomial", "columns", "numbers", "column"]) (sc := defScope s_row_of) (by decide +kernel))
        (fun _ _ _ _ _ => pg_name (i := 4) sc_row_of.nd rfl (.inl rfl)) (fun _ _ _ _ _ => pts_nil) (fun _ _ _ _ _ => pe_dget2 hu (pv 3) (pv 4) pe_int ⟨rfl, rfl, rfl, rfl⟩)))), ?_⟩
    refine ⟨_, rfl, _, rfl, b, v, c, p, kk, rfl, hB, hP, pok, hc, hk, fun H1 d1 s1 n1 h1 => ?_⟩
    have hA1 := s1 _ _ hA
    have lu := hT.len
    refine ⟨_, rfl, a, rfl, ⟨_, SqL.of hA1⟩, fun D hD => lc_list (K := K) (a := a) (xs := us) (fun j H2 => Same H1 H2 ∧ H2 D = some (.lst ((E94.rowM (cs.take j) c p).map V.int))) ⟨same_upd hD, upd_same⟩ (fun j H2 _ h => SqL.of (h.1 _ _ hA1)) ?_ ?_⟩
    · rintro j x H2 hj ⟨s2, h2⟩
      obtain ⟨r, cc, hcc, rfl, hr2⟩ := (hT.mono (s1.trans s2)).get hj
      rw [← keyC_V] at hr2
      refine ⟨rfl, ?_⟩
      refine ⟨_, rfl, d1, rfl, .inr ⟨_, .inl (s2 _ _ h1)⟩, _, rfl, _, DGet.t (s2 _ _ h1) hr2, ?_⟩
      have hval : (valV (colK (E94.scaledMul c p)) (keyC cc)).getD (.int 0) = .int (E94.colGet (E94.scaledMul c p) cc) := by
        rw [valV_col]
        unfold E94.colGet
        cases (E94.scaledMul c p).lookup cc <;> rfl
      rw [hval]
      refine ⟨_, h2, ?_, fun b0 o0 e0 => ?_, ?_⟩
      · rw [List.length_map, E94.rowM_len, List.length_take]
        exact Nat.lt_of_le_of_lt (show _ ≤ 1000 by omega) (by decide)
      · rw [upd_ne (ne_of_none e0 hD)]
        exact s2 _ _ e0
      · rw [upd_same, take_more hcc]
        unfold E94.rowM
        rw [List.map_append, List.map_append]
        rfl
    · rintro H2 ⟨s2, h2⟩
      rw [lu, List.take_length] at h2
      exact q _ D (s1.trans s2) (s1.free hD) h2
/-! ### rows_within -/
structure CsEnv (K : PySem.W.Frag) (mg : Str → Option Value) : Prop extends BsEnv K mg where
  cols : Has K mg "columns_within" s_columns_within ["d", "letter_count"]
  rowo : Has K mg "row_of" s_row_of ["product", "polynomial", "columns"]
  rwit : Has K mg "rows_within" s_rows_within ["d", "letter_count", "equations", "columns"]
  divi : Has K mg "divided" s_divided ["row", "divisor", "columns"]
  mlist : mg "list" = none
theorem mul_168 {d k : Nat} {eqs : List E94.MP} (d5 : d ≤ 5) (k1 : 1 ≤ k) (k3 : k ≤ 3) (e3 : eqs.length ≤ 3) : (E94.multiplesM d k eqs).length ≤ 168 := by
  rw [← mulTo_all]
  have := mulTo_len d5 k1 k3 eqs eqs.length (Nat.le_refl _)
  omega
theorem cols_56 {d k : Nat} (d5 : d ≤ 5) (k1 : 1 ≤ k) (k3 : k ≤ 3) : (E94.colsM d k).length ≤ 56 ∧ 0 < (E94.colsM d k).length := by
  unfold E94.colsM
  rw [List.length_reverse]
  refine ⟨prods_56 (by omega) k1 k3, ?_⟩
  have := E94.prodsW_zero d (k := k) (by omega)
  rcases Nat.eq_zero_or_pos (E94.prodsW d k).length with h | h
  · rw [List.eq_nil_of_length_eq_zero h] at this
    cases this
  · exact h
theorem rowsC_ok {d k : Nat} {eqs : List E94.MP} {cs : List (List Nat)} (k1 : 1 ≤ k) (c56 : cs.length ≤ 56) (c0 : 0 < cs.length) (eok : ∀ q ∈ eqs, POk k q) : RowsOk cs.length (E94.rowsB cs d k eqs) where
  few := .inr c56
  pos := c0
  wide := by omega
  all := fun r hr => by
    obtain ⟨i, hi, rfl⟩ := List.mem_map.mp hr
    refine ⟨E94.rowM_len .., fun x hx => ?_⟩
    obtain ⟨c, _, rfl⟩ := List.mem_map.mp hx
    exact col_bits (eok _ (E94.mulM_mem (by omega) hi).2.1) _ _
theorem rowsB_ok {d k : Nat} {eqs : List E94.MP} (d5 : d ≤ 5) (k1 : 1 ≤ k) (k3 : k ≤ 3) (eok : ∀ q ∈ eqs, POk k q) : RowsOk (E94.colsM d k).length (E94.rowsB (E94.colsM d k) d k eqs) := rowsC_ok k1 (cols_56 d5 k1 k3).1 (cols_56 d5 k1 k3).2 eok
theorem sc_rows_within : FnScope ["d", "letter_count", "equations", "columns", "rows", "index", "product"] ["d", "letter_count", "equations", "columns"] (defScope s_rows_within) := ⟨rfl, rfl, rfl, by decide +kernel, rfl, by decide +kernel, by decide +kernel⟩
def sp_rows_within (K : PySem.W.Frag) : Sp := fun vs H Q _ => ∃ (ve : V) (aC : Addr) (us : List V) (cs : List (List Nat)) (d k : Nat) (eqs : List E94.MP), vs = [.int (d : Int), .int (k : Int), ve, .ref aC] ∧ H aC = some (.lst us) ∧ TrT H us cs ∧ cs.length ≤ 56 ∧ 0 < cs.length ∧ Dp K H ve (dPolys eqs) ∧ d ≤ 5 ∧ 1 ≤ k ∧ k ≤ 3 ∧ eqs.length ≤ 3 ∧ (∀ q ∈ eqs, POk k q ∧ E94.degM q ≤ 5) ∧
  ∀ H' da kvs, Same H H' → H da = none → H' da = some (.dK kvs) → FAt K H' kvs (E94.reduced (E94.rowsB cs d k eqs)) → Q (.ref da) H'
theorem ok_rows_within {f : Addr} {fd : FuncData} {k : Nat} (hk : 32 ≤ k) (hS : base.NoSeer) (hT : P.given.tree = none) (F : Fun K "rows_within" "rows_within" s_rows_within f fd) (T : CsEnv K mg) : FnOk P w K mg base CX0 (k + 6) f fd ["d", "letter_count", "equations", "columns"] (sp_rows_within K) := by
  obtain ⟨fM, fdM, FM, bM, gM⟩ := T.mult
  obtain ⟨fR, fdR, FR, bR, gR⟩ := T.rowo
  obtain ⟨fE, fdE, FE, bE, gE⟩ := T.redu
  obtain ⟨fW, fdW, FW, bW, gW⟩ := T.prow
  obtain ⟨fG, fdG, FG, bG, gG⟩ := T.cdiv
  obtain ⟨fO, fdO, FO, bO, gO⟩ := T.prof
  obtain ⟨fD, fdD, FD, bD, gD⟩ := T.degr
  obtain ⟨fZ, fdZ, FZ, bZ, gZ⟩ := T.with0
  obtain ⟨fP, fdP, FP, bP, gP⟩ := T.firs
  obtain ⟨fA, fdA, FA, bA, gA⟩ := T.clea
  have GM : FnOk P w K mg base CX0 (k + 3) fM fdM ["d", "letter_count", "equations"] (sp_multiples_within K) := ok_multiples_within FM FD bD gD FW bW gW FO bO gO T.msum T.mtup T.mrange T.msorted T.menum
  have GR : FnOk P w K mg base CX0 (k + 5) fR fdR ["product", "polynomial", "columns"] (sp_row_of K) := ok_row_of FR T.toBsEnv
  have GE : FnOk P w K mg base CX0 (k + 3) fE fdE ["rows"] (sp_reduced K) := ok_reduced hk hS hT FE FZ bZ gZ FP bP gP FA bA gA FG bG gG T.mabs T.mzip T.menum
  refine F.ok sc_rows_within (fun vs H Q E h => ?_) (fun cdv A outer s H vs Q E hr h => ?_)
  · obtain ⟨ve, aC, us, cs, d, kk, eqs, rfl, _⟩ := h
    rfl
  · obtain ⟨ve, aC, us, cs, d, kk, eqs, rfl, h1, hT1, c56, c0, hE, d5, k1, k3, e3, eok, q⟩ := h
    have hr3 : Room (k + 3) _ := hr.mono (by omega)
    refine ⟨_, pss_cons (ps_set (i := 4) sc_rows_within.nd rfl (.inl rfl) (pe_lst pa_nil))
      (pss_cons (ps_for PassesOwn.never rfl (pi_list (pe_call GM hr3 (by rfl) gM FM.kp bM .nil pass0 (pa_cons (pv 0) (pa_cons (pv 1) (pa_cons (pv 2) pa_nil))))) (pg_tup rfl (pgs_cons (pg_name (i := 5) sc_rows_within.nd rfl (.inl rfl)) (pgs_cons (pg_name (i := 6) sc_rows_within.nd rfl (.inl rfl)) pgs_nil)))
        (pss_one (ps_expr (pe_bm PySem.F.plainAttrs_list PySem.F.slot_list_append PySem.F.type_list_append mt_append (pv 4) (pa_cons (pe_call GR hr (by rfl) gR FR.kp bR .nil pass0 (pa_cons (pv 6) (pa_cons (pe_ix (show IxR _ (rIxL K) from ix_list) (pv 2) (pv 5) (fun _ _ => rfl)) (pa_cons (pv 3) pa_nil)))) pa_nil)))))
      (pss_one (ps_ret (pe_call GE hr3 (by rfl) gE FE.kp bE .nil pass0 (pa_cons (pv 4) pa_nil))))), ?_⟩
    cases hE with
    | @lst aE es _ hEs hEAll =>
    have hI168 := mul_168 d5 k1 k3 e3
    have hI : ∀ x ∈ E94.multiplesM d kk eqs, x.1 < eqs.length ∧ eqs.getD x.1 [] ∈ eqs ∧ x.2.length = kk := fun x hx => ⟨(E94.mulM_mem (by omega) hx).1, (E94.mulM_mem (by omega) hx).2.1, (E94.mulM_mem (by omega) hx).2.2.1⟩
    have ROK := rowsC_ok (d := d) (eqs := eqs) k1 c56 c0 fun q hq => (eok q hq).1
    refine ⟨Nat.zero_le _, fun m nm => ?_⟩
    have sm0 := same_upd (o := .lst []) nm
    have s1m := sm0
    refine ⟨_, rfl, _, rfl, _, rfl, .ref aE, d, kk, eqs, rfl, same_dp s1m _ _ (.lst hEs hEAll), d5, k1, k3, e3, fun q hq => (eok q hq).2, fun H2 aM ms s2 n2 hm2 hM2 => ?_⟩
    have lm : ms.length = (E94.multiplesM d kk eqs).length := by rw [dpAll_len hM2, List.length_map]
    have aMm : aM ≠ m := fun e => by
      rw [e, upd_same] at n2
      cases n2
    have s02 : Same H H2 := s1m.trans s2
    have hm2' : H2 m = some (.lst []) := s2 _ _ upd_same
    have hC2 : H2 aC = some (.lst us) := s2 _ _ (sm0 _ _ h1)
    have aCm : aC ≠ m := fun e => by
      rw [e, nm] at h1
      cases h1
    have hT2 : TrT H2 us cs := hT1.mono (sm0.trans s2)
    have mH : H m = none := nm
    refine ⟨aM, rfl, ⟨_, SqL.of hm2⟩, for_list (K := K) (a := aM) (xs := ms) (fun i σ H3 => (∀ b o, b ≠ m → H2 b = some o → H3 b = some o) ∧ (∃ rs, H3 m = some (.lst rs) ∧ TrR H3 rs ((E94.rowsB cs d kk eqs).take i)) ∧ ∃ y5 y6, σ = [some (.int (d : Int)), some (.int (kk : Int)), some (.ref aE), some (.ref aC), some (.ref m), y5, y6]) ⟨fun b o _ e => e, ⟨[], hm2', trivial⟩, none, none, rfl⟩ (fun i σ H3 _ h => SqL.of (h.1 _ _ aMm hm2)) ?_ ?_⟩
    · rintro i x σ H3 hx ⟨kp, ⟨rs, hr3', hR3⟩, y5, y6, rfl⟩
      have s03 : Same H H3 := fun b o e => kp b o (ne_of_none e mH) (s02 _ _ e)
      have sU : Same (upd H2 m (.lst rs)) H3 := fun b o e => by
        by_cases q0 : b = m
        · subst q0
          rw [upd_same] at e
          rw [hr3']
          exact e
        · rw [upd_ne q0] at e
          exact kp b o q0 e
      obtain ⟨mx, hmx, hdp⟩ := dpAll_get hM2 hx
      obtain ⟨a2, b2, rfl, hT, hB⟩ := dp_mul (same_dp sU _ _ (dp_updL hm2' _ _ (noList_mul _) hdp))
      have mm := hI mx (List.mem_of_getElem? hmx)
      obtain ⟨ev, hev, dev⟩ := dpAll_at hEAll (getD_of (z := []) mm.1)
      have hT3 : TrT H3 us cs := (trt_upd (o' := .lst rs) hT2 hm2').mono sU
      have hC3 := kp _ _ aCm hC2
      have hrow : (E94.rowsB cs d kk eqs)[i]? = some (E94.rowM cs mx.2 (eqs.getD mx.1 [])) := by
        unfold E94.rowsB
        rw [List.getElem?_map, hmx]
        rfl
      have il : i < ms.length := by
        rcases Nat.lt_or_ge i ms.length with h | h
        · exact h
        · rw [List.getElem?_eq_none h] at hx; cases hx
      refine ⟨a2, _, rfl, hT, rfl, _, _, rfl, _, _, rfl, rfl, ?_⟩
      refine ⟨_, rfl, .inl ⟨rfl, _, SqL.of hr3'⟩, _, rfl, _, rfl, _, rfl, aE, es, (mx.1 : Int), ev, rfl, rfl, s03.seq hEs, atI_nat hev, _, rfl, b2, aC, ev, mx.2, eqs.getD mx.1 [], kk, us, cs, rfl, hB, same_dp s03 _ _ dev, (eok _ mm.2.1).1, mm.2.2, by omega, hC3, hT3, by omega, fun H4 r4 s4 n4 h4 => ?_⟩
      have hm4 := s4 _ _ hr3'
      refine ⟨m, _, _, rfl, rfl, hm4, ?_, ?_⟩
      · rw [hR3.len, List.length_take]
        have : (E94.rowsB cs d kk eqs).length = ms.length := by rw [lm]; exact List.length_map ..
        exact Nat.lt_of_le_of_lt (show _ ≤ 168 by omega) (by decide)
      · have r4m : r4 ≠ m := fun e => by rw [e, hr3'] at n4; cases n4
        refine ⟨fun b o nb e => by rw [upd_ne nb]; exact s4 _ _ (kp b o nb e), ⟨rs ++ [.ref r4], upd_same, ?_⟩, _, _, rfl⟩
        rw [take_more hrow]
        refine TrR.snoc (hR3.keep fun r o hr e => ?_) ?_
        · have : r ≠ m := fun z => hR3.self hr3' (by rw [← z]; exact hr)
          rw [upd_ne this]
          exact s4 _ _ e
        · rw [upd_ne r4m]
          exact h4
    · rintro σ H3 ⟨kp, ⟨rs, hr3', hR3⟩, y5, y6, rfl⟩
      have s03 : Same H H3 := fun b o e => kp b o (ne_of_none e mH) (s02 _ _ e)
      have lr : (E94.rowsB cs d kk eqs).length = ms.length := by rw [lm]; exact List.length_map ..
      rw [← lr, List.take_length] at hR3
      refine ⟨_, rfl, .ref m, _, _, rfl, .lst (SqL.of hr3') hR3.dp, ROK, fun H4 fa kvs s4 nfa hfa hF4 => ?_⟩
      exact q _ _ _ (s03.trans s4) (s03.free nfa) hfa hF4
end
end E94H
set_option Elab.async false
set_option linter.all false
set_option maxRecDepth 100000
set_option maxHeartbeats 2000000
namespace E94H
open PySem PySem.Spec PyProof.Rows L2
section
variable {P : Program} {w : World} {K : PySem.W.Frag} {mg : Str → Option Value} {base : Heap}
theorem termsOf_more {cs : List (List Nat)} {tops : List Int} {D : Int} {i : Nat} {c : List Nat} {z : Int} (hc : cs[i]? = some c) (hz : tops[i]? = some z) : E94.termsOf ((cs.zip tops).take (i + 1)) D = E94.termsOf ((cs.zip tops).take i) D ++ (if z = 0 then [] else [(c, E94.low z D)]) := by
  unfold E94.termsOf
  rw [filterMap_more ((List.getElem?_zip_eq_some (z := (c, z))).mpr ⟨hc, hz⟩)]
  congr 1
  show (if z = 0 then none else some _).toList = _
  by_cases q : z = 0
  · rw [if_pos q, if_pos q]; rfl
  · rw [if_neg q, if_neg q]; rfl
/-! ### divided -/
theorem sc_divided : FnScope ["row", "divisor", "columns", "terms", "product", "top", "number"] ["row", "divisor", "columns"] (defScope s_divided) := ⟨rfl, rfl, rfl, by decide +kernel, rfl, by decide +kernel, by decide +kernel⟩
def sp_divided (K : PySem.W.Frag) : Sp := fun vs H Q _ => ∃ (pr aC : Addr) (DD : Int) (us : List V) (tops : List Int) (cs : List (List Nat)), vs = [.ref pr, .int DD, .ref aC] ∧ SqL K H pr (tops.map V.int) ∧ H aC = some (.lst us) ∧ TrT H us cs ∧ tops.length = cs.length ∧ cs.length ≤ 56 ∧ DD ≠ 0 ∧
  ∀ H' r ts, Same H H' → H r = none → H' r = some (.lst ts) → DpAll K H' ts ((E94.termsOf (cs.zip tops) DD).map dTerm) → Q (.ref r) H'
theorem ok_divided {f : Addr} {fd : FuncData} {k : Nat} (hk : 32 ≤ k) (hS : base.NoSeer) (hT : P.given.tree = none) (F : Fun K "divided" "divided" s_divided f fd) (T : BsEnv K mg) : FnOk P w K mg base CX0 (k + 2) f fd ["row", "divisor", "columns"] (sp_divided K) := by
  obtain ⟨fL, fdL, FL, bL, gL⟩ := T.lowe
  obtain ⟨fG, fdG, FG, bG, gG⟩ := T.cdiv
  have GL : FnOk P w K mg base CX0 (k + 1) fL fdL ["top", "bottom"] sp_lowest_terms := ok_lowest_terms hk hS hT FL FG bG gG T.mabs
  refine F.ok sc_divided (fun vs H Q E h => ?_) (fun cdv A outer s H vs Q E hr h => ?_)
  · obtain ⟨pr, aC, DD, us, tops, cs, rfl, _⟩ := h
    rfl
  · obtain ⟨pr, aC, DD, us, tops, cs, rfl, hp, hC, hTr, ltops, c56, rD, q⟩ := h
    refine ⟨_, pss_cons (ps_set (i := 3) sc_divided.nd rfl (.inl rfl) (pe_lst pa_nil))
      (pss_cons (ps_for PassesOwn.never rfl (pi_zip (by rfl) T.mzip (pa_cons (pv 2) (pa_cons (pv 0) pa_nil))) (pg_tup rfl (pgs_cons (pg_name (i := 4) sc_divided.nd rfl (.inl rfl)) (pgs_cons (pg_name (i := 5) sc_divided.nd rfl (.inl rfl)) pgs_nil)))
        (pss_one (ps_if (pt_cmpR op_ne (pv 5) pe_int (nomark _))
          (pss_cons (ps_set (i := 6) sc_divided.nd rfl (.inl rfl) (pe_call GL hr (by rfl) gL FL.kp bL .nil pass0 (pa_cons (pv 5) (pa_cons (pv 1) pa_nil))))
          (pss_one (ps_expr (pe_bm PySem.F.plainAttrs_list PySem.F.slot_list_append PySem.F.type_list_append mt_append (pv 3) (pa_cons (pe_tup (pa_cons (pv 4) (pa_cons (pe_ix ix_tup (pv 6) pe_int (fun _ _ => rfl)) (pa_cons (pe_ix ix_tup (pv 6) pe_int (fun _ _ => rfl)) pa_nil)))) pa_nil))))) pss_nil)))
      (pss_one (ps_ret (pv 3)))), ?_⟩
    have lu := hTr.len
    refine ⟨Nat.zero_le _, fun m nm => ?_⟩
    have sm := same_upd (o := .lst []) nm
    refine ⟨_, rfl, _, rfl, aC, pr, us, _, rfl, SqL.of (sm _ _ hC), sm.seq hp, for_it (walk_zip (xs := us) (ys := tops.map V.int) (n := cs.length) (by rw [List.length_map, ltops, lu, Nat.min_self])) (fun i σ H8 => Same H H8 ∧ (∃ ts, H8 m = some (.lst ts) ∧ DpAll K H8 ts ((E94.termsOf ((cs.zip tops).take i) DD).map dTerm)) ∧ ∃ y4 y5 y6, σ = [some (.ref pr), some (.int DD), some (.ref aC), some (.ref m), y4, y5, y6]) ⟨sm, ⟨[], upd_same, .nil⟩, _, _, _, rfl⟩ (fun i σ H8 _ h => ⟨SqL.of (h.1 _ _ hC), h.1.seq hp⟩) ?_ ?_⟩
    · rintro i vv σ H8 H9 hi ⟨s8, ⟨ts, hm8, hts⟩, y4, y5, y6, rfl⟩ ⟨T2, x1, x2, rfl, nT, rfl, g1, g2⟩
      obtain ⟨r, c, hc, rfl, hrt⟩ := (hTr.mono s8).get g1
      obtain ⟨z, hz, rfl⟩ := get_int g2
      have smT := same_upd (o := .tup [V.ref r, V.int z]) nT
      have hmore := termsOf_more (D := DD) hc hz
      refine ⟨T2, _, rfl, .inl (.inl upd_same), rfl, _, _, rfl, _, _, rfl, rfl, ?_⟩
      refine ⟨_, rfl, rfl, _, rfl, ite2 (fun e => ?_) (fun e => ?_)⟩
      · have z0 : z ≠ 0 := by
          intro q0
          subst q0
          exact absurd e (by decide)
        rw [if_neg z0] at hmore
        refine ⟨_, rfl, _, rfl, z, DD, rfl, rD, fun nt nnt => ?_⟩
        have sn := same_upd (o := .tup [V.int (E94.low z DD).1, V.int ((E94.low z DD).2 : Nat)]) nnt
        have hm9 := sn _ _ (smT _ _ hm8)
        refine ⟨_, rfl, .inl ⟨rfl, _, SqL.of hm9⟩, _, rfl, _, rfl, nt, _, 0, _, rfl, rfl, SqT.of upd_same, atI_nat (j := 0) rfl, _, rfl, nt, _, 1, _, rfl, rfl, SqT.of upd_same, atI_nat (j := 1) rfl, by show 3 ≤ sizeLine; decide, fun tt ntt => ?_⟩
        have st := same_upd (o := .tup [V.ref r, V.int (E94.low z DD).1, V.int ((E94.low z DD).2 : Nat)]) ntt
        have hm10 := st _ _ hm9
        have sTn := smT.trans (sn.trans st)
        have tl : ts.length ≤ 56 := by
          have h1 := dpAll_len hts
          rw [List.length_map] at h1
          unfold E94.termsOf at h1
          have h2 := List.length_filterMap_le (fun x : List Nat × Int => if x.2 = 0 then none else some (x.1, E94.low x.2 DD)) ((cs.zip tops).take i)
          rw [List.length_take, List.length_zip] at h2
          omega
        refine ⟨m, _, _, rfl, rfl, hm10, Nat.lt_of_le_of_lt tl (by decide), fun b0 o0 e0 => ?_, ⟨ts ++ [.ref tt], upd_same, ?_⟩, _, _, _, rfl⟩
        · rw [upd_ne (ne_of_none e0 nm)]
          exact sTn _ _ (s8 _ _ e0)
        · rw [hmore, List.map_append]
          refine dpAll_snoc (dpAll_updL hm10 _ _ (noLists_map noList_term _) (same_dpAll sTn _ _ hts)) (dp_updL hm10 _ _ (noList_term _) ?_)
          exact term_dp (t := (c, E94.low z DD)) (SqT.of upd_same) (SqT.of (sTn _ _ hrt))
      · have z0 : z = 0 := by
          refine Classical.byContradiction fun q0 => e ?_
          have : ¬ (V.int z = V.int 0) := fun w => q0 (V.int.inj w)
          simp [this]
        rw [if_pos z0, List.append_nil] at hmore
        refine ⟨s8.trans smT, ⟨ts, smT _ _ hm8, ?_⟩, _, _, _, rfl⟩
        rw [hmore]
        exact same_dpAll smT _ _ hts
    · rintro σ H8 ⟨s8, ⟨ts, hm8, hts⟩, y4, y5, y6, rfl⟩
      rw [List.take_of_length_le (by rw [List.length_zip, ltops]; omega)] at hts
      exact ⟨_, rfl, q _ m ts s8 nm hm8 hts⟩
end
end E94H
set_option Elab.async false
set_option linter.all false
set_option maxRecDepth 100000
set_option maxHeartbeats 2000000
namespace E94H
open PySem PySem.Spec PyProof.Rows L2
section
variable {P : Program} {w : World} {K : PySem.W.Frag} {mg : Str → Option Value} {base : Heap}
/-! ### what's left, behind some of the rows -/
def restL (F : E94.Found) (r : List Int) (m : Nat) : List Int := (F.take m).foldl E94.leftStep r
theorem restL_more {F : E94.Found} {r : List Int} {m : Nat} {y : Nat × List Int} (h : F[m]? = some y) : restL F r (m + 1) = E94.withZero y.1 (restL F r m) (y.2 ++ [0]) := by
  unfold restL
  rw [take_more h, List.foldl_append]
  rfl
theorem restL_all (F : E94.Found) (r : List Int) : restL F r F.length = E94.leftRow F r := by
  unfold restL E94.leftRow
  rw [List.take_length]
theorem restL_len {wd : Nat} {F : E94.Found} {r : List Int} (hr : r.length = wd + 1) (hF : ∀ y ∈ F, y.2.length = wd) : ∀ m, m ≤ F.length → (restL F r m).length = wd + 1
  | 0, _ => hr
  | m + 1, hm => by
    have h := List.getElem?_eq_getElem (show m < F.length by omega)
    have hl : (F[m].2 ++ [0]).length = wd + 1 := by rw [List.length_append, hF _ (List.getElem_mem ..)]; rfl
    rw [restL_more h, E94.withZero_len, restL_len hr hF m (by omega)]
    rw [restL_len hr hF m (by omega), hl]
theorem Bnd.snoc0 {b : Nat} {r : List Int} (h : Bnd b r) : Bnd b (r ++ [0]) := fun x hx => by
  rcases List.mem_append.mp hx with hx | hx
  · exact h x hx
  · rw [List.mem_singleton.mp hx]
    exact Nat.pow_pos (by decide)
theorem restL_bits {F : E94.Found} {r : List Int} (hr : Bnd 173 r) (hF : ∀ y ∈ F, Bnd BB y.2) : ∀ m, m ≤ F.length → Bnd (173 + m * (BB + 1)) (restL F r m)
  | 0, _ => by simpa [restL] using hr
  | m + 1, hm => by
    have h := List.getElem?_eq_getElem (show m < F.length by omega)
    rw [restL_more h]
    have := (restL_bits hr hF m (by omega)).withZero (hF (F[m]'(by omega)) (List.getElem_mem ..)).snoc0 (F[m]'(by omega)).1
    have e : 173 + (m + 1) * (BB + 1) = 173 + m * (BB + 1) + BB + 1 := by rw [Nat.succ_mul]; omega
    rw [e]
    exact this
theorem start_bits {k : Nat} {p : E94.MP} (ok : POk k p) (cols : List (List Nat)) (z : List Nat) : Bnd 173 (E94.startRow cols z p) := fun x hx => by
  rcases List.mem_append.mp hx with hx | hx
  · obtain ⟨c, _, rfl⟩ := List.mem_map.mp hx
    exact col_bits ok _ _
  · rw [List.mem_singleton.mp hx, Int.natAbs_natCast]
    exact Nat.lt_of_le_of_lt ok.scale (by decide)
theorem cols_last {d k : Nat} (hk : 0 < k) : (E94.colsM d k)[(E94.colsM d k).length - 1]? = some (List.replicate k 0) := by
  have h := E94.prodsW_zero d hk
  have l0 : 0 < (E94.prodsW d k).length := by
    rcases Nat.eq_zero_or_pos (E94.prodsW d k).length with q | q
    · rw [List.eq_nil_of_length_eq_zero q] at h; cases h
    · exact q
  unfold E94.colsM
  rw [List.length_reverse, List.getElem?_reverse (by omega), show (E94.prodsW d k).length - 1 - ((E94.prodsW d k).length - 1) = 0 by omega]
  exact h
theorem at_last {us : List V} {v : V} (h : us[us.length - 1]? = some v) : atI us (-1) = some v := by
  have l0 : 0 < us.length := by
    rcases Nat.eq_zero_or_pos us.length with q | q
    · rw [List.eq_nil_of_length_eq_zero q] at h; cases h
    · exact q
  have e : us = us.take (us.length - 1) ++ [v] := by
    rw [← take_more h, List.take_of_length_le (by omega)]
  have := atI_last (us.take (us.length - 1)) v
  rw [← e] at this
  exact this
theorem cut_last {n : Nat} {xs : List V} (h : xs.length = n + 1) : cutV xs none (some (-1)) = xs.take n := by
  unfold cutV
  rw [HT.sIx_none, List.drop_zero, Nat.sub_zero]
  congr 1
  show (if (-1 : Int) < 0 then ((-1 : Int) + (xs.length : Int)).toNat else min ((-1 : Int)).toNat xs.length) = n
  rw [if_pos (by decide), h]
  omega
/-! ### left_by -/
structure LbEnv (K : PySem.W.Frag) (mg : Str → Option Value) : Prop where
  lefb : Has K mg "left_by" s_left_by ["basis", "columns", "p"]
theorem sc_left_by : FnScope ["basis", "columns", "p", "rest", "place", "row"] ["basis", "columns", "p"] (defScope s_left_by) := ⟨rfl, rfl, rfl, by decide +kernel, rfl, by decide +kernel, by decide +kernel⟩
structure LOk (l : List Nat) (d : Nat) (p : E94.MP) (eqs : List E94.MP) : Prop where
  hyp : E94.Hyp l d eqs p
  d5 : d ≤ 5
  k3 : l.length ≤ 3
  e3 : eqs.length ≤ 3
  eok : ∀ q ∈ eqs, POk l.length q ∧ E94.degM q ≤ 5
  pok : POk l.length p
def sp_left_by (K : PySem.W.Frag) : Sp := fun vs H Q _ => ∃ (da aC : Addr) (v : V) (kvs : List (Key × V)) (us : List V) (l : List Nat) (d : Nat) (p : E94.MP) (eqs : List E94.MP), vs = [.ref da, .ref aC, v] ∧ H da = some (.dK kvs) ∧ FAt K H kvs (E94.basisM d l.length eqs) ∧ H aC = some (.lst us) ∧ TrT H us (E94.colsM d l.length) ∧ Dp K H v (dPoly p) ∧ LOk l d p eqs ∧
  ∀ H' r ts, Same H H' → H r = none → H' r = some (.lst ts) → DpAll K H' ts ((E94.leftM d l.length p eqs).map dTerm) → Q (.ref r) H'
theorem ok_left_by {f : Addr} {fd : FuncData} {k : Nat} (hk : 32 ≤ k) (hS : base.NoSeer) (hT : P.given.tree = none) (F : Fun K "left_by" "left_by" s_left_by f fd) (T : CsEnv K mg) : FnOk P w K mg base CX0 (k + 6) f fd ["basis", "columns", "p"] (sp_left_by K) := by
  obtain ⟨fR, fdR, FR, bR, gR⟩ := T.rowo
  obtain ⟨fS, fdS, FS, bS, gS⟩ := T.scal
  obtain ⟨fL, fdL, FL, bL, gL⟩ := T.divi
  obtain ⟨fC, fdC, FC, bC, gC⟩ := T.cmul
  obtain ⟨fG, fdG, FG, bG, gG⟩ := T.cdiv
  obtain ⟨fZ, fdZ, FZ, bZ, gZ⟩ := T.with0
  obtain ⟨fA, fdA, FA, bA, gA⟩ := T.clea
  have GR : FnOk P w K mg base CX0 (k + 5) fR fdR ["product", "polynomial", "columns"] (sp_row_of K) := ok_row_of FR T.toBsEnv
  have GS : FnOk P w K mg base CX0 (k + 3) fS fdS ["polynomial"] (sp_scale_of K) := ok_scale_of FS FC bC gC FG bG gG T.mabs
  have GL : FnOk P w K mg base CX0 (k + 2) fL fdL ["row", "divisor", "columns"] (sp_divided K) := ok_divided hk hS hT FL T.toBsEnv
  have GZ : FnOk P w K mg base CX0 (k + 2) fZ fdZ ["place", "row", "other"] (sp_with_zero_at K) := ok_with_zero_at hk hS hT FZ FA bA gA FG bG gG T.mabs T.mzip
  refine F.ok sc_left_by (fun vs H Q E h => ?_) (fun cdv A outer s H vs Q E hr h => ?_)
  · obtain ⟨da, aC, v, kvs, us, l, d, p, eqs, rfl, _⟩ := h
    rfl
  · obtain ⟨da, aC, v, kvs, us, l, d, p, eqs, rfl, hda, hFA, hC, hTr, hP, LK, q⟩ := h
    have hr1 : Room (k + 1) _ := hr.mono (by omega)
    have hr2 : Room (k + 2) _ := hr.mono (by omega)
    have hr3 : Room (k + 3) _ := hr.mono (by omega)
    refine ⟨_, pss_cons (ps_set (i := 3) sc_left_by.nd rfl (.inl rfl) (pe_op op_cat (pe_call GR hr (by rfl) gR FR.kp bR .nil pass0 (pa_cons (pe_ix ix_list (pv 1) (pe_un un_neg pe_int) (fun _ _ => rfl)) (pa_cons (pv 2) (pa_cons (pv 1) pa_nil)))) (pe_lst (pa_cons (pe_call GS hr3 (by rfl) gS FS.kp bS .nil pass0 (pa_cons (pv 2) pa_nil)) pa_nil))))
      (pss_cons (ps_lock (ps_for PassesOwn.never rfl (pi_items (pv 0)) (pg_tup rfl (pgs_cons (pg_name (i := 4) sc_left_by.nd rfl (.inl rfl)) (pgs_cons (pg_name (i := 5) sc_left_by.nd rfl (.inl rfl)) pgs_nil)))
        (pss_one (ps_set (i := 3) sc_left_by.nd rfl (.inl rfl) (pe_call GZ hr2 (by rfl) gZ FZ.kp bZ .nil pass0 (pa_cons (pv 4) (pa_cons (pv 3) (pa_cons (pe_op op_catS (pv 5) (pe_lst (pa_cons pe_int pa_nil))) pa_nil))))))))
      (pss_one (ps_ret (pe_call GL hr2 (by rfl) gL FL.kp bL .nil pass0 (pa_cons (pe_slice sl_list (pv 3) po_none (po_some (pe_un un_neg pe_int))) (pa_cons (pe_ix ix_list (pv 3) (pe_un un_neg pe_int) (fun _ _ => rfl)) (pa_cons (pv 1) pa_nil))))))), ?_⟩
    have lu := hTr.len
    have kpos := LK.hyp.hk
    have c56 := cols_56 LK.d5 kpos LK.k3
    have ROK := rowsB_ok (eqs := eqs) LK.d5 kpos LK.k3 fun q hq => (LK.eok q hq).1
    obtain ⟨U, RD⟩ := E94.red_all (w := (E94.colsM d l.length).length) (rows := E94.rowsB (E94.colsM d l.length) d l.length eqs) fun r hr' => (ROK.all r hr').1
    have hFl := ROK.found_all
    have hFb := red_bits RD ROK.wide ROK.all hFl
    have lrow := E94.left_row LK.hyp RD
    have lspec : E94.leftM d l.length p eqs = E94.leftTerms (E94.colsM d l.length) (E94.leftRow (E94.basisM d l.length eqs) (E94.startRow (E94.colsM d l.length) (List.replicate l.length 0) p)) := rfl
    rw [lspec] at q
    have hbm : E94.reduced (E94.rowsB (E94.colsM d l.length) d l.length eqs) = E94.basisM d l.length eqs := rfl
    rw [hbm] at RD hFl hFb
    have hclast := cols_last (d := d) (k := l.length) kpos
    have hst : (E94.startRow (E94.colsM d l.length) (List.replicate l.length 0) p).length = (E94.colsM d l.length).length + 1 := by
      unfold E94.startRow
      rw [List.length_append, E94.rowM_len]
      rfl
    have hsb := start_bits LK.pok (E94.colsM d l.length) (List.replicate l.length 0)
    dsimp only at lrow
    have hsr : (E94.rowM (E94.colsM d l.length) (List.replicate l.length 0) p) ++ [(E94.scaleOf p : Int)] = E94.startRow (E94.colsM d l.length) (List.replicate l.length 0) p := rfl
    have wdl : (E94.colsM d l.length).length + 1 < sizeLine := Nat.lt_of_le_of_lt (show _ ≤ 57 by omega) (by decide)
    generalize E94.basisM d l.length eqs = FF at *
    generalize E94.startRow (E94.colsM d l.length) (List.replicate l.length 0) p = r0 at *
    obtain ⟨rz, hvz, hrz⟩ := hTr.at hclast
    rw [← lu] at hvz
    -- rest = row_of(columns[-1], p, columns) + [scale_of(p)]
    refine ⟨_, rfl, 1, rfl, aC, us, -1, .ref rz, rfl, rfl, SqL.of hC, at_last hvz, _, rfl, _, rfl, rz, aC, v, List.replicate l.length 0, p, l.length, us, E94.colsM d l.length, rfl, SqT.of hrz, hP, LK.pok, List.length_replicate, by have := LK.k3; omega, hC, hTr, by omega, fun H1 r1 s1 n1 h1 => ?_⟩
    refine ⟨_, rfl, v, p, l.length, rfl, same_dp s1 _ _ hP, LK.pok, by show 1 ≤ sizeLine; decide, fun l1 nl1 => ?_⟩
    have sl1 := same_upd (o := .lst [V.int (E94.scaleOf p : Nat)]) nl1
    refine ⟨r1, l1, _, _, rfl, rfl, sl1 _ _ h1, upd_same, ?_, fun p2 np2 => ?_⟩
    · rw [List.length_map, E94.rowM_len]
      show _ + 1 ≤ sizeLine
      omega
    have sp2 := same_upd (o := .lst ((E94.rowM (E94.colsM d l.length) (List.replicate l.length 0) p).map V.int ++ [V.int (E94.scaleOf p : Nat)])) np2
    have hrest : (upd (upd H1 l1 (.lst [V.int (E94.scaleOf p : Nat)])) p2 (.lst ((E94.rowM (E94.colsM d l.length) (List.replicate l.length 0) p).map V.int ++ [V.int (E94.scaleOf p : Nat)]))) p2 = some (.lst (r0.map V.int)) := by
      rw [upd_same, ← hsr, List.map_append]
      rfl
    have s03 : Same H (upd (upd H1 l1 (.lst [V.int (E94.scaleOf p : Nat)])) p2 (.lst ((E94.rowM (E94.colsM d l.length) (List.replicate l.length 0) p).map V.int ++ [V.int (E94.scaleOf p : Nat)]))) := s1.trans (sl1.trans sp2)
    generalize upd (upd H1 l1 (.lst [V.int (E94.scaleOf p : Nat)])) p2 (.lst ((E94.rowM (E94.colsM d l.length) (List.replicate l.length 0) p).map V.int ++ [V.int (E94.scaleOf p : Nat)])) = H3 at hrest s03
    have hd3 := s03 _ _ hda
    have hF3 : FAt K H3 kvs FF := hFA.mono fun a xs h => s03.seq h
    -- the walk over the basis
    refine ⟨da, .dK kvs, hd3, trivial, fun od => ?_⟩
    have toL : ∀ a xs, SqL K H3 a xs → SqL K (upd H3 da (.frz od (.dK kvs))) a xs := fun a xs h => sq_upd h hd3 (fun _ z => nomatch z) (fun _ _ z => nomatch z)
    refine ⟨_, rfl, da, od, kvs, rfl, upd_same, for_it (walk_items (kvs := kvs)) (fun m σ2 H4 => Same (upd H3 da (.frz od (.dK kvs))) H4 ∧ ∃ p4 z4 z5, σ2 = [some (.ref da), some (.ref aC), some v, some (.ref p4), z4, z5] ∧ SqL K H4 p4 ((restL FF r0 m).map V.int)) ⟨Same.refl _, p2, none, none, rfl, toL _ _ (SqL.of hrest)⟩ (fun m σ2 H4 _ h => h.1 _ _ upd_same) ?_ ?_⟩
    · rintro m vv σ2 H4 H5 hm ⟨sm4, p4, z4, z5, rfl, hp4⟩ ⟨T1, t1, t2, rfl, nT, rfl, g1, g2⟩
      obtain ⟨kv, hkv⟩ : ∃ kv, kvs[m]? = some kv := ⟨_, List.getElem?_eq_getElem hm⟩
      dsimp only at g1 g2
      rw [hkv] at g1 g2
      have e1 : t1 = kV kv.1 := (Option.some.inj g1).symm
      have e2 : t2 = kv.2 := (Option.some.inj g2).symm
      subst e1 e2
      obtain ⟨y, ay, hy, ek, ev, hSy⟩ := hF3.get (k := kv.1) (v := kv.2) hkv
      have hyF : y ∈ FF := List.mem_of_getElem? hy
      have hmF : m < FF.length := by
        rcases Nat.lt_or_ge m FF.length with h | h
        · exact h
        · rw [List.getElem?_eq_none h] at hy; cases hy
      have smT := same_upd (o := .tup [kV kv.1, kv.2]) nT
      have lr := restL_len (F := FF) hst RD.len m (by omega)
      have yl := RD.len y hyF
      refine ⟨T1, _, rfl, .inl (.inl upd_same), rfl, _, _, rfl, _, _, rfl, rfl, ?_⟩
      refine ⟨_, rfl, _, rfl, _, rfl, by show 1 ≤ sizeLine; decide, fun l5 nl5 => ?_⟩
      have sl5 := same_upd (o := .lst [V.int 0]) nl5
      refine ⟨ay, l5, _, _, ev, rfl, sl5.seq (smT.seq (sm4.seq (toL _ _ hSy))), SqL.of upd_same, ?_, fun c5 nc5 => ?_⟩
      · rw [List.length_map, yl]
        show _ + 1 ≤ sizeLine
        omega
      have sc5 := same_upd (o := .lst (y.2.map V.int ++ [V.int 0])) nc5
      have hc5 : SqL K (upd (upd (upd H4 T1 (.tup [kV kv.1, kv.2])) l5 (.lst [V.int 0])) c5 (.lst (y.2.map V.int ++ [V.int 0]))) c5 ((y.2 ++ [0]).map V.int) := SqL.of (by rw [upd_same, List.map_append]; rfl)
      refine ⟨p4, c5, y.1, restL FF r0 m, y.2 ++ [0], _, _, ?_, sc5.seq (sl5.seq (smT.seq hp4)), hc5, by rw [lr, List.length_append, yl]; rfl, by rw [lr]; have := RD.lt y hyF; omega, by rw [lr]; exact wdl, restL_bits hsb hFb m (by omega), (hFb y hyF).snoc0, ?_, fun H6 p6 sm6 hp6 => ?_⟩
      · rw [ek]; rfl
      · have : m * (BB + 1) ≤ 56 * (BB + 1) := Nat.mul_le_mul_right _ (by omega)
        have : 56 * (BB + 1) + BB + 173 < 133000000 := by decide
        omega
      · refine ⟨sm4.trans (smT.trans (sl5.trans (sc5.trans sm6))), p6, _, _, rfl, ?_⟩
        rw [restL_more hy]
        exact hp6
    · rintro σ2 H4 ⟨sm4, p4, z4, z5, rfl, hp4⟩
      rw [hF3.len, restL_all] at hp4
      have hd4 : H4 da = some (.frz od (.dK kvs)) := sm4 _ _ upd_same
      refine ⟨hd4, ?_⟩
      have sm34 : Same H3 (upd H4 da (.dK kvs)) := same_of_two hd3 fun b o e ne => sm4 b o (by rw [upd_ne ne]; exact e)
      have hp' : SqL K (upd H4 da (.dK kvs)) p4 ((E94.leftRow FF r0).map V.int) := sq_upd hp4 hd4 (fun _ z => nomatch z) (fun _ _ z => nomatch z)
      generalize upd H4 da (.dK kvs) = H7 at sm34 hp'
      have s07 : Same H H7 := s03.trans sm34
      have hC7 := s07 _ _ hC
      have hT7 := hTr.mono s07
      obtain ⟨rl, rD, _⟩ := lrow
      have tk : (E94.leftRow FF r0).length = (E94.colsM d l.length).length + 1 := rl
      have hleft : E94.leftTerms (E94.colsM d l.length) (E94.leftRow FF r0) = E94.termsOf ((E94.colsM d l.length).zip ((E94.leftRow FF r0).take (E94.colsM d l.length).length)) ((E94.leftRow FF r0).getD (E94.colsM d l.length).length 0) := rfl
      rw [hleft] at q
      have hlast := row_last tk
      have ltops : ((E94.leftRow FF r0).take (E94.colsM d l.length).length).length = (E94.colsM d l.length).length := by rw [List.length_take, tk]; omega
      refine ⟨_, rfl, 1, rfl, -1, rfl, p4, _, rfl, hp', fun c8 nc8 => ?_⟩
      rw [cut_last (n := (E94.colsM d l.length).length) (by rw [List.length_map, tk])]
      have htops : (((E94.leftRow FF r0).map V.int).take (E94.colsM d l.length).length) = ((E94.leftRow FF r0).take (E94.colsM d l.length).length).map V.int := by rw [List.map_take]
      rw [htops]
      have sc8 := same_upd (o := .lst (((E94.leftRow FF r0).take (E94.colsM d l.length).length).map V.int)) nc8
      refine ⟨_, rfl, 1, rfl, p4, _, _, _, rfl, rfl, sc8.seq hp', hlast, _, rfl, c8, aC, _, us, _, E94.colsM d l.length, rfl, SqL.of upd_same, sc8 _ _ hC7, hT7.mono sc8, ltops, c56.1, rD, fun H9 r ts s9 n9 h9 hts => ?_⟩
      exact q _ r ts (s07.trans (sc8.trans s9)) ((s07.trans sc8).free n9) h9 hts
end
end E94H
set_option Elab.async false
set_option linter.all false
set_option maxRecDepth 100000
set_option maxHeartbeats 2000000
namespace E94H
open PySem PySem.Spec PyProof.Rows L2
section
variable {P : Program} {w : World} {K : PySem.W.Frag} {mg : Str → Option Value} {base : Heap}
/-! ### what_is_left -/
theorem sc_what_is_left : FnScope ["d", "letter_count", "p", "equations", "columns", "basis"] ["d", "letter_count", "p", "equations"] (defScope s_what_is_left) := ⟨rfl, rfl, rfl, by decide +kernel, rfl, by decide +kernel, by decide +kernel⟩
def sp_what_is_left (K : PySem.W.Frag) : Sp := fun vs H Q _ => ∃ (vp ve : V) (l : List Nat) (d : Nat) (p : E94.MP) (eqs : List E94.MP), vs = [.int (d : Int), .int (l.length : Int), vp, ve] ∧ Dp K H vp (dPoly p) ∧ Dp K H ve (dPolys eqs) ∧ LOk l d p eqs ∧
  ∀ H' r ts, Same H H' → H r = none → H' r = some (.lst ts) → DpAll K H' ts ((E94.leftM d l.length p eqs).map dTerm) → Q (.ref r) H'
theorem ok_what_is_left {f : Addr} {fd : FuncData} {k : Nat} (hk : 32 ≤ k) (hS : base.NoSeer) (hT : P.given.tree = none) (F : Fun K "what_is_left" "what_is_left" s_what_is_left f fd) (T : CsEnv K mg) (B : LbEnv K mg) : FnOk P w K mg base CX0 (k + 7) f fd ["d", "letter_count", "p", "equations"] (sp_what_is_left K) := by
  obtain ⟨fW, fdW, FW, bW, gW⟩ := T.prow
  obtain ⟨fO, fdO, FO, bO, gO⟩ := T.prof
  obtain ⟨fC, fdC, FC, bC, gC⟩ := T.cols
  obtain ⟨fB, fdB, FB, bB, gB⟩ := T.rwit
  obtain ⟨fL, fdL, FL, bL, gL⟩ := B.lefb
  have GC : FnOk P w K mg base CX0 (k + 3) fC fdC ["d", "letter_count"] (sp_columns_within K) := ok_columns_within FC FW bW gW FO bO gO T.msum T.mtup T.mrange T.msorted T.mrev T.mlist
  have GB : FnOk P w K mg base CX0 (k + 6) fB fdB ["d", "letter_count", "equations", "columns"] (sp_rows_within K) := ok_rows_within hk hS hT FB T
  have GL : FnOk P w K mg base CX0 (k + 6) fL fdL ["basis", "columns", "p"] (sp_left_by K) := ok_left_by hk hS hT FL T
  refine F.ok sc_what_is_left (fun vs H Q E h => ?_) (fun cdv A outer s H vs Q E hr h => ?_)
  · obtain ⟨vp, ve, l, d, p, eqs, rfl, _⟩ := h
    rfl
  · obtain ⟨vp, ve, l, d, p, eqs, rfl, hP, hE, LK, q⟩ := h
    have hr3 : Room (k + 3) _ := hr.mono (by omega)
    refine ⟨_, pss_cons (ps_set (i := 4) sc_what_is_left.nd rfl (.inl rfl) (pe_call GC hr3 (by rfl) gC FC.kp bC .nil pass0 (pa_cons (pv 0) (pa_cons (pv 1) pa_nil))))
      (pss_cons (ps_set (i := 5) sc_what_is_left.nd rfl (.inl rfl) (pe_call GB hr (by rfl) gB FB.kp bB .nil pass0 (pa_cons (pv 0) (pa_cons (pv 1) (pa_cons (pv 3) (pa_cons (pv 4) pa_nil))))))
      (pss_one (ps_ret (pe_call GL hr (by rfl) gL FL.kp bL .nil pass0 (pa_cons (pv 5) (pa_cons (pv 4) (pa_cons (pv 2) pa_nil))))))), ?_⟩
    refine ⟨_, rfl, _, rfl, d, l.length, rfl, LK.hyp.hk, LK.k3, LK.d5, fun H1 aC us s1 n1 h1 hT1 => ?_⟩
    refine ⟨_, rfl, _, rfl, _, rfl, _, rfl, ve, aC, us, E94.colsM d l.length, d, l.length, eqs, rfl, h1, hT1, (cols_56 LK.d5 LK.hyp.hk LK.k3).1, (cols_56 LK.d5 LK.hyp.hk LK.k3).2, same_dp s1 _ _ hE, LK.d5, LK.hyp.hk, LK.k3, LK.e3, LK.eok, fun H2 da kvs s2 n2 h2 hF2 => ?_⟩
    have s02 := s1.trans s2
    refine ⟨_, rfl, _, rfl, _, rfl, da, aC, vp, kvs, us, l, d, p, eqs, rfl, h2, hF2, s2 _ _ h1, hT1.mono s2, same_dp s02 _ _ hP, LK, fun H3 r ts s3 n3 h3 hts => ?_⟩
    exact q _ r ts (s02.trans s3) (s02.free n3) h3 hts
end
end E94H
set_option Elab.async false
set_option linter.all false
set_option maxRecDepth 100000
set_option maxHeartbeats 2000000
namespace E94H
open PySem PySem.Spec PyProof.Rows L2
section
variable {P : Program} {w : World} {K : PySem.W.Frag} {mg : Str → Option Value} {base : Heap}
theorem ToldG.lok {l : List Nat} {d : Nat} {p : E94.MP} {es : List E94.MP} (TD : Told l d (p :: es)) (hd : ¬ d < E94.degM p) : LOk l d (E94.pickM l p) (es.map (E94.pickM l)) := by
  have four := TD.four
  refine ⟨E94.hyp_of TD.lets TD.good TD.mine (by omega), TD.d5, TD.lets.three, by rw [List.length_map]; rw [List.length_cons] at four; omega, fun q0 hq => ?_, (TD.pok (List.mem_cons_self ..)).1⟩
  obtain ⟨r, hr', rfl⟩ := List.mem_map.mp hq
  have := TD.pok (List.mem_cons_of_mem _ hr')
  exact ⟨this.1, by rw [this.2.1]; exact this.2.2⟩
end
end E94H
set_option Elab.async false
set_option linter.all false
set_option maxRecDepth 100000
set_option maxHeartbeats 2000000
namespace E94H
open PySem PySem.Spec PyProof.Rows L2
section
variable {P : Program} {w : World} {K : PySem.W.Frag} {mg : Str → Option Value} {base : Heap}
theorem low_le {a b : Int} (hb : b ≠ 0) : (E94.low a b).1.natAbs ≤ a.natAbs ∧ (E94.low a b).2 ≤ b.natAbs := by
  have h := low_way (a := a) hb
  constructor
  · rw [← h.1]
    exact Int.natAbs_fdiv_le_natAbs _ _
  · have := Int.natAbs_fdiv_le_natAbs b (if b < 0 then -((Nat.gcd a.natAbs b.natAbs : Nat) : Int) else ((Nat.gcd a.natAbs b.natAbs : Nat) : Int))
    rw [h.2, Int.natAbs_natCast] at this
    exact this
theorem big_num {x : Nat} (h : x ≤ 2 ^ (182 * 56) * 9999 ^ 12) : x < 10 ^ 4300 := by
  have h1 : (9999 : Nat) ^ 12 ≤ 2 ^ 160 := by decide
  have h2 : (2 : Nat) ^ (182 * 56) * 9999 ^ 12 ≤ 2 ^ (182 * 56) * 2 ^ 160 := Nat.mul_le_mul_left _ h1
  have h3 : (2 : Nat) ^ (182 * 56) * 2 ^ 160 = 2 ^ (182 * 56 + 160) := (Nat.pow_add 2 (182 * 56) 160).symm
  have h4 : (2 : Nat) ^ (182 * 56 + 160) < 2 ^ 12900 := Nat.pow_lt_pow_right (by decide) (by decide)
  have h5 := PyProof.Rows.pow_lo
  omega
theorem big_pow {x n : Nat} (hn : n ≤ 12800) (h : x ≤ 2 ^ n) : x < 10 ^ 4300 := by
  have h1 : (2 : Nat) ^ n ≤ 2 ^ 12800 := Nat.pow_le_pow_right (by decide) hn
  have h4 : (2 : Nat) ^ 12800 < 2 ^ 12900 := Nat.pow_lt_pow_right (by decide) (by decide)
  have h5 := PyProof.Rows.pow_lo
  omega
end
end E94H
set_option Elab.async false
set_option linter.all false
set_option maxRecDepth 100000
set_option maxHeartbeats 2000000
namespace E94H
open PySem PySem.Spec PyProof.Rows L2
/-! ### texts -/
def tx (b : List Nat) : Str := ⟨b.toArray⟩
theorem tx_app (a b : List Nat) : tx a ++ tx b = tx (a ++ b) := by
  show Str.mk (a.toArray ++ b.toArray) = Str.mk (a ++ b).toArray
  congr 1
  simp
theorem tx_len (b : List Nat) : (tx b).length = b.length := by
  show b.toArray.size = _
  simp
theorem tx_inj {a b : List Nat} : tx a = tx b ↔ a = b := by
  constructor
  · intro h
    have : a.toArray = b.toArray := congrArg Str.cps h
    simpa using this
  · intro h; rw [h]
theorem digitChar_nat {d : Nat} (h : d < 10) : (Nat.digitChar d).toNat = 48 + d := by
  have : ∀ d < 10, (Nat.digitChar d).toNat = 48 + d := by decide
  exact this d h
theorem toDigits_nat (n : Nat) : (Nat.toDigits 10 n).map Char.toNat = AlBase.digits n := by
  induction n using Nat.strongRecOn with
  | ind n ih =>
    by_cases h : n < 10
    · rw [Nat.toDigits_of_lt_base h, E94.digits_lt h, List.map_singleton, digitChar_nat h]
    · rw [Nat.toDigits_of_base_le (by decide) (by omega), E94.digits_ge h, List.map_append, ih (n / 10) (by omega), List.map_singleton, digitChar_nat (Nat.mod_lt _ (by decide))]
theorem str_nat (n : Nat) : Str.ofString (toString (n : Int)) = tx (AlBase.digits n) := by
  rw [Str.ofString_eq_toList]
  unfold tx
  congr 1
  congr 1
  rw [← toDigits_nat]
  have : toString (n : Int) = String.ofList (Nat.toDigits 10 n) := rfl
  rw [this, String.toList_ofList]
theorem glue_fold (s : List Nat) : ∀ (ps : List (List Nat)) (acc : List Nat), (ps.map tx).foldl (fun acc p => acc ++ (tx s).cps ++ p.cps) acc.toArray = (ps.foldl (fun acc p => acc ++ s ++ p) acc).toArray
  | [], acc => rfl
  | p :: ps, acc => by
    rw [List.map_cons, List.foldl_cons, List.foldl_cons, ← glue_fold s ps]
    congr 1
    show acc.toArray ++ s.toArray ++ p.toArray = _
    simp
theorem join_fold (s : List Nat) : ∀ (ps : List (List Nat)) (p : List Nat), ps.foldl (fun acc p => acc ++ s ++ p) p = AlBase.join s (p :: ps)
  | [], p => rfl
  | q :: ps, p => by
    rw [List.foldl_cons]
    have key : ∀ (ps : List (List Nat)) (a b : List Nat), ps.foldl (fun acc p => acc ++ s ++ p) (a ++ b) = a ++ ps.foldl (fun acc p => acc ++ s ++ p) b := by
      intro ps
      induction ps with
      | nil => intro a b; rfl
      | cons r ps ih =>
        intro a b
        rw [List.foldl_cons, List.foldl_cons, ← ih]
        simp
    rw [List.append_assoc, key, key, join_fold s ps q]
    show p ++ (s ++ AlBase.join s (q :: ps)) = p ++ s ++ AlBase.join s (q :: ps)
    rw [List.append_assoc]
theorem join_tx (s : List Nat) (ps : List (List Nat)) : PySem.Txt.join (tx s) (ps.map tx) = tx (AlBase.join s ps) := by
  show Builtin.Str.glued (tx s) (ps.map tx) = _
  unfold Builtin.Str.glued
  cases ps with
  | nil => rfl
  | cons p ps =>
    show Str.mk ((ps.map tx).foldl (fun acc q => acc ++ (tx s).cps ++ q.cps) p.toArray) = Str.mk _
    rw [glue_fold, join_fold]
/-! ### texts of ints with many digits -/
section
variable {X : Cx}
theorem call_strD (hD : X.base.NoDigits) (calm : X.calm = true) : CallR X (.type "str") (fun xs H Q => ∃ i : Int, xs = [.int i] ∧ i.natAbs < 10 ^ 4300 ∧ Q (.str (Str.ofString (toString i))) H) := fun pins s σ H xs us Q J r h => by
  obtain ⟨i, rfl, hz, q⟩ := h
  obtain ⟨u, rfl, t, rfl⟩ := vals1 r
  exact PyProof.Rows.str_of_int_or (J.ok.hd calm) (hD.keeps J.bk) (fun _ => ⟨.str _, H, J.tok _, ⟨_, rfl⟩, q⟩) fun hge => absurd hz (Nat.not_lt.mpr hge)
def tFmtD (te : TE) : TE := fun σ H Q => te σ H fun x H1 => ∃ i : Int, x = .int i ∧ i.natAbs < 10 ^ 4300 ∧ Q (.str (Str.ofString (toString i))) H1
theorem pe_fmtD {e : Expr} {te : TE} {pos : Pos} (hD : X.base.NoDigits) (calm : X.calm = true) (he : PE X e te) : PE X (.FormattedValue e (-1) none pos) (tFmtD te) := ⟨fun pins s σ H Q J h => by
  refine wpAny_FormattedValue_plain (thn (he.run pins s σ H _ J h) fun v s1 hv => ?_)
  obtain ⟨x, H1, J1, r1, i, rfl, hz, q⟩ := hv
  obtain ⟨t, rfl⟩ := r1
  exact PyProof.Rows.formatField_int (J1.ok.hd calm) (hD.keeps J1.bk) (fun _ => ⟨.str _, H1, J1.tok _, ⟨_, rfl⟩, q⟩) fun hge => absurd hz (Nat.not_lt.mpr hge)⟩
end
section
variable {P : Program} {w : World} {K : PySem.W.Frag} {mg : Str → Option Value} {base : Heap}
/-! ### number_text -/
theorem tx_nil : Str.empty = tx [] := rfl
theorem tx_slash : Str.ofString "/" = tx [47] := by decide +kernel

theorem sc_number_text : FnScope ["top", "bottom", "first"] ["top", "bottom"] (defScope s_number_text) := ⟨rfl, rfl, rfl, by decide +kernel, rfl, by decide +kernel, by decide +kernel⟩
def sp_number_text : Sp := fun vs H Q _ => ∃ (a : Int) (b : Nat), vs = [.int a, .int (b : Int)] ∧ a.natAbs < 10 ^ 4300 ∧ b < 10 ^ 4300 ∧ Q (.str (tx (E94.numText a.natAbs b))) H
theorem dig_4300 {n : Nat} (h : n < 10 ^ 4300) : (AlBase.digits n).length ≤ 4300 := E94.digits_le 4300 n h (by decide)
theorem ok_number_text {f : Addr} {fd : FuncData} {k : Nat} (hD : base.NoDigits) (F : Fun K "number_text" "number_text" s_number_text f fd) (mabs : mg "abs" = none) (mstr : mg "str" = none) : FnOk P w K mg base CX0 (k + 1) f fd ["top", "bottom"] sp_number_text := by
  refine F.ok sc_number_text (fun vs H Q E h => ?_) (fun cdv A outer s H vs Q E hr h => ?_)
  · obtain ⟨a, b, rfl, _⟩ := h
    rfl
  · obtain ⟨a, b, rfl, ha, hb, q⟩ := h
    refine ⟨_, pss_cons (ps_set (i := 2) sc_number_text.nd rfl (.inl rfl) (pe_callTy (call_strD hD (by rfl)) (by rfl) mstr (by decide +kernel) (pa_cons (pe_callB call_abs (by rfl) mabs (by decide +kernel) (pa_cons (pv 0) pa_nil)) pa_nil)))
      (pss_cons (ps_if (pt_cmpR op_eq (pv 1) pe_int (nomark _)) (pss_one (ps_ret (pv 2))) pss_nil)
      (pss_one (ps_ret (pe_joined (.cons (pe_fmt (pv 2)) (.cons pe_str (.cons (pe_fmtD hD (by rfl) (pv 1)) .nil))))))), ?_⟩
    have la := dig_4300 ha
    have lb := dig_4300 hb
    refine ⟨_, rfl, a, rfl, _, rfl, by rw [abs_nat, Int.natAbs_natCast]; exact ha, ?_⟩
    rw [abs_nat, str_nat]
    refine ⟨_, rfl, rfl, _, rfl, ite2 (fun e => ?_) (fun e => ?_)⟩
    · have e' : (b : Int) = 1 := V.int.inj (of_decide_eq_true e)
      have b1 : b = 1 := by omega
      subst b1
      refine ⟨_, rfl, ?_⟩
      have : E94.numText a.natAbs 1 = AlBase.digits a.natAbs := by
        unfold E94.numText
        rw [if_pos rfl, List.append_nil]
      rw [this] at q
      exact q
    · have b1 : b ≠ 1 := fun z => e (decide_eq_true (by rw [z]; rfl))
      refine ⟨_, rfl, .inl ⟨_, rfl, by rw [tx_len]; exact Nat.le_trans la (by decide), _, rfl, ?_, _, rfl, ?_, _, rfl, _, rfl, hb, _, rfl, ?_, ?_⟩⟩
      · rw [tx_nil, tx_app, tx_len, sizeLine_eq]
        show (AlBase.digits a.natAbs).length ≤ 16777216
        omega
      · rw [tx_nil, tx_slash, tx_app, tx_app, tx_len, sizeLine_eq, List.length_append]
        show (AlBase.digits a.natAbs).length + 1 ≤ 16777216
        omega
      · rw [tx_nil, tx_slash, str_nat, tx_app, tx_app, tx_app, tx_len, sizeLine_eq, List.length_append, List.length_append]
        show (AlBase.digits a.natAbs).length + 1 + (AlBase.digits b).length ≤ 16777216
        omega
      · rw [tx_nil, tx_slash, str_nat, tx_app, tx_app, tx_app]
        have : E94.numText a.natAbs b = [] ++ AlBase.digits a.natAbs ++ [47] ++ AlBase.digits b := by
          unfold E94.numText
          rw [if_neg b1]
          simp
        rw [this] at q
        exact q
end
end E94H
set_option Elab.async false
set_option linter.all false
set_option maxRecDepth 100000
set_option maxHeartbeats 2000000
namespace E94H
open PySem PySem.Spec PyProof.Rows L2
section
variable {P : Program} {w : World} {K : PySem.W.Frag} {mg : Str → Option Value} {base : Heap}
/-! ### product_text -/
theorem sc_product_text : FnScope ["product", "letters", "powers", "letter", "often", "name"] ["product", "letters"] (defScope s_product_text) := ⟨rfl, rfl, rfl, by decide +kernel, rfl, by decide +kernel, by decide +kernel⟩
def abc : Str := Str.ofString "abcdefghijklmnopqrstuvwxyz"
theorem abc_at {a : Nat} (h : a < 26) : atI abc.cps.toList (a : Int) = some (97 + a) := by
  have : ∀ a < 26, atI abc.cps.toList ((a : Nat) : Int) = some (97 + a) := by decide +kernel
  exact this a h
def sp_product_text (K : PySem.W.Frag) : Sp := fun vs H Q _ => ∃ (b a : Addr) (c l : List Nat), vs = [.ref b, .ref a] ∧ SqT K H b ((tupC c).map V.int) ∧ SqL K H a ((ofN l).map V.int) ∧ c.length = l.length ∧ l.length ≤ 3 ∧ (∀ x ∈ l, x < 26) ∧ (∀ n ∈ c, n ≤ 9) ∧ ∀ H', Same H H' → Q (.str (tx (AlBase.join [42] ((E94.mon l c).map E94.powText)))) H'
theorem tx_hat : Str.ofString "^" = tx [94] := by decide +kernel
theorem tx_star : Str.ofString "*" = tx [42] := by decide +kernel
theorem one_tx (c : Nat) : (⟨#[c]⟩ : Str) = tx [c] := rfl
theorem sum_le3 : ∀ {ys : List Str}, (∀ y ∈ ys, y.length ≤ 3) → (ys.map (·.length)).sum ≤ 3 * ys.length
  | [], _ => Nat.le_refl _
  | y :: ys, h => by
    rw [List.map_cons, List.sum_cons, List.length_cons]
    have h1 := h y (List.mem_cons_self ..)
    have h2 := sum_le3 (ys := ys) fun z hz => h z (List.mem_cons_of_mem _ hz)
    omega
theorem ok_product_text {f : Addr} {fd : FuncData} {k : Nat} {ta : Tok} (F : Fun K "product_text" "product_text" s_product_text f fd) (gA : mg "ALPHABET" = some (.str abc ta)) (mzip : mg "zip" = none) : FnOk P w K mg base CX0 (k + 1) f fd ["product", "letters"] (sp_product_text K) := by
  refine F.ok sc_product_text (fun vs H Q E h => ?_) (fun cdv A outer s H vs Q E hr h => ?_)
  · obtain ⟨b, a, c, l, rfl, _⟩ := h
    rfl
  · obtain ⟨b, a, c, l, rfl, hB, hA, hl, l3, l26, c9, q⟩ := h
    refine ⟨_, pss_cons (ps_set (i := 2) sc_product_text.nd rfl (.inl rfl) (pe_lst pa_nil))
      (pss_cons (ps_for PassesOwn.never rfl (pi_zipLT (by rfl) mzip (pa_cons (pv 1) (pa_cons (pe_slice sl_tup (pv 0) (po_some pe_int) po_none) pa_nil))) (pg_tup rfl (pgs_cons (pg_name (i := 3) sc_product_text.nd rfl (.inl rfl)) (pgs_cons (pg_name (i := 4) sc_product_text.nd rfl (.inl rfl)) pgs_nil)))
        (pss_cons (ps_set (i := 5) sc_product_text.nd rfl (.inl rfl) (pe_ix ix_str (pe_glob (v := .str abc) (by rfl) gA ⟨_, rfl⟩) (pv 3) (fun _ _ => rfl)))
        (pss_cons (ps_if (pt_cmpR op_eq (pv 4) pe_int (nomark _)) (pss_one (ps_expr (pe_bm PySem.F.plainAttrs_list PySem.F.slot_list_append PySem.F.type_list_append mt_append (pv 2) (pa_cons (pv 5) pa_nil)))) pss_nil)
        (pss_one (ps_if (pt_cmpR op_gt (pv 4) pe_int (nomark _)) (pss_one (ps_expr (pe_bm PySem.F.plainAttrs_list PySem.F.slot_list_append PySem.F.type_list_append mt_append (pv 2) (pa_cons (pe_joined (.cons (pe_fmt (pv 5)) (.cons pe_str (.cons (pe_fmt (pv 4)) .nil)))) pa_nil)))) pss_nil)))))
      (pss_one (ps_ret (pe_join pe_str (pv 2))))), ?_⟩
    refine ⟨Nat.zero_le _, fun m nm => ?_⟩
    have s0 := same_upd (o := .lst []) nm
    have lz : (l.zip c).length = l.length := by rw [List.length_zip]; omega
    refine ⟨_, rfl, _, rfl, 1, rfl, b, _, rfl, same_sqT s0 hB, cut_part _, fun t nt => ?_⟩
    rw [cut_tup]
    have st := same_upd (o := .tup ((ofN c).map V.int)) nt
    have mt : m ≠ t := fun e => by rw [← e, upd_same] at nt; cases nt
    have s1 := s0.trans st
    refine ⟨a, t, _, _, rfl, s1.seq hA, SqT.of upd_same, for_it (walk_JZ (n := l.length) (by rw [List.length_map, List.length_map, ofN_len, ofN_len, hl, Nat.min_self])) (fun i σ H2 => Same H H2 ∧ H2 t = some (.tup ((ofN c).map V.int)) ∧ H2 m = some (.lst ((((E94.mon l c |> fun _ => ((l.zip c).take i).filter fun x => decide (x.2 ≠ 0)).map E94.powText).map tx).map V.str)) ∧ ∃ y3 y4 y5, σ = [some (.ref b), some (.ref a), some (.ref m), y3, y4, y5]) ⟨s1, upd_same, st _ _ upd_same, none, none, none, rfl⟩ (fun i σ H2 _ h => ⟨h.1.seq hA, SqT.of h.2.1⟩) ?_ ?_⟩
    · rintro i v σ H2 H3 hi ⟨sm, ht2, hm2, y3, y4, y5, rfl⟩ ⟨T, u1, u2, rfl, nT, rfl, g1, g2⟩
      obtain ⟨x, hx, rfl⟩ := get_nat g1
      obtain ⟨n, hn, rfl⟩ := get_nat g2
      have xm := l26 x (List.mem_of_getElem? hx)
      have nm9 := c9 n (List.mem_of_getElem? hn)
      have hxn : (l.zip c)[i]? = some (x, n) := (List.getElem?_zip_eq_some (z := (x, n))).mpr ⟨hx, hn⟩
      have smT := same_upd (o := .tup [V.int (x : Int), V.int (n : Int)]) nT
      have hm3 := smT _ _ hm2
      have ht3 := smT _ _ ht2
      have s3 := sm.trans smT
      dsimp only at hm3
      have lw : ((((((l.zip c).take i).filter fun x => decide (x.2 ≠ 0)).map E94.powText).map tx).map V.str).length ≤ 3 := by
        rw [List.length_map, List.length_map, List.length_map]
        have h1 := List.length_filter_le (fun x : Nat × Nat => decide (x.2 ≠ 0)) ((l.zip c).take i)
        rw [List.length_take] at h1
        omega
      have more : ((l.zip c).take (i + 1)).filter (fun x => decide (x.2 ≠ 0)) = ((l.zip c).take i).filter (fun x => decide (x.2 ≠ 0)) ++ if n ≠ 0 then [(x, n)] else [] := by
        rw [take_more hxn, List.filter_append]
        congr 1
        by_cases n0 : n = 0
        · subst n0; simp
        · simp [n0]
      generalize hWW : ((l.zip c).take i).filter (fun x => decide (x.2 ≠ 0)) = WW at *
      refine ⟨T, _, rfl, .inl (.inl upd_same), rfl, _, _, rfl, _, _, rfl, rfl, ?_⟩
      refine ⟨_, rfl, abc, (x : Int), 97 + x, rfl, rfl, by decide +kernel, abc_at xm, ?_⟩
      rw [one_tx]
      refine ⟨_, rfl, rfl, _, rfl, ite2 (fun e => ?_) (fun e => ?_)⟩
      · have n1 : n = 1 := by
          have : (n : Int) = 1 := V.int.inj (of_decide_eq_true e)
          omega
        subst n1
        refine ⟨_, rfl, .inl ⟨rfl, _, SqL.of hm3⟩, _, rfl, m, _, _, rfl, rfl, hm3, Nat.lt_of_le_of_lt lw (by decide), ?_⟩
        refine ⟨_, rfl, _, _, rfl, rfl, _, rfl, iteF ?_⟩
        refine ⟨fun b0 o0 e0 => ?_, ?_, ?_, _, _, _, rfl⟩
        · rw [upd_ne (ne_of_none e0 nm)]
          exact s3 _ _ e0
        · rw [upd_ne mt.symm]
          exact ht3
        · rw [upd_same]
          dsimp only
          rw [more, if_pos (by decide), List.map_append, List.map_append, List.map_append]
          rfl
      · have n1 : n ≠ 1 := fun z => e (decide_eq_true (by rw [z]; rfl))
        refine ⟨_, rfl, _, _, rfl, rfl, _, rfl, ite2 (fun e2 => ?_) (fun e2 => ?_)⟩
        · have n2 : 1 < n := by
            have : (1 : Int) < (n : Int) := of_decide_eq_true e2
            omega
          have ld : (AlBase.digits n).length = 1 := by rw [E94.digits_lt (by omega)]; rfl
          have lg : (n : Int).natAbs.log2 < 1920 := by
            rw [Int.natAbs_natCast]
            exact Nat.lt_of_le_of_lt (log2_le (b := 4) (by omega)) (by decide)
          refine ⟨_, rfl, .inl ⟨rfl, _, SqL.of hm3⟩, _, rfl, .inl ⟨_, rfl, by rw [tx_len]; show 1 ≤ sizeLine; decide, _, rfl, ?_, _, rfl, ?_, _, rfl, .inr ⟨_, rfl, lg, _, rfl, ?_, ?_⟩⟩⟩
          · rw [tx_nil, tx_app, tx_len]; show 1 ≤ sizeLine; decide
          · rw [tx_nil, tx_hat, tx_app, tx_app, tx_len]; show 2 ≤ sizeLine; decide
          · rw [tx_nil, tx_hat, str_nat, tx_app, tx_app, tx_app, tx_len, List.length_append, ld]; show 3 ≤ sizeLine; decide
          · rw [tx_nil, tx_hat, str_nat, tx_app, tx_app, tx_app]
            refine ⟨m, _, _, rfl, rfl, hm3, Nat.lt_of_le_of_lt lw (by decide), ?_⟩
            refine ⟨fun b0 o0 e0 => ?_, ?_, ?_, _, _, _, rfl⟩
            · rw [upd_ne (ne_of_none e0 nm)]
              exact s3 _ _ e0
            · rw [upd_ne mt.symm]
              exact ht3
            · rw [upd_same]
              dsimp only
              rw [more, if_pos (by omega), List.map_append, List.map_append, List.map_append]
              have : E94.powText (x, n) = [] ++ [97 + x] ++ [94] ++ AlBase.digits n := by
                unfold E94.powText
                dsimp only
                rw [if_neg n1]
                rfl
              rw [List.map_singleton, this]
              rfl
        · have n2 : n = 0 := by
            have : ¬ (1 : Int) < (n : Int) := fun z => e2 (decide_eq_true z)
            omega
          refine ⟨s3, ht3, ?_, _, _, _, rfl⟩
          dsimp only
          rw [more, if_neg (by omega), List.append_nil]
          exact hm3
    · rintro σ H2 ⟨sm, ht2, hm2, y3, y4, y5, rfl⟩
      dsimp only at hm2
      rw [← lz, List.take_length, ← E94.mon_drop] at hm2
      refine ⟨⟨_, rfl⟩, _, rfl, _, m, _, rfl, rfl, .inl (SqL.of hm2), ?_, ?_⟩
      · have hm : ∀ y ∈ ((E94.mon l c).map E94.powText).map tx, y.length ≤ 3 := fun y hy => by
          obtain ⟨w0, hw, rfl⟩ := List.mem_map.mp hy
          obtain ⟨x, hx, rfl⟩ := List.mem_map.mp hw
          rw [E94.mon_drop] at hx
          have hz := (List.of_mem_zip (List.mem_filter.mp hx).1).2
          have := c9 x.2 hz
          rw [tx_len]
          unfold E94.powText
          split
          · show 1 ≤ 3; decide
          · rw [List.length_cons, List.length_cons, E94.digits_lt (by omega)]
            show 1 + 1 + 1 ≤ 3
            decide
        have hs := sum_le3 hm
        have hl3 : (((E94.mon l c).map E94.powText).map tx).length ≤ 3 := by
          rw [List.length_map, List.length_map, E94.mon_drop]
          have := List.length_filter_le (fun x : Nat × Nat => decide (x.2 ≠ 0)) (l.zip c)
          omega
        rw [tx_star, tx_len]
        show _ + _ * 1 ≤ 16777216
        omega
      · rw [tx_star, join_tx]
        exact q _ sm
end
end E94H
set_option Elab.async false
set_option linter.all false
set_option maxRecDepth 100000
set_option maxHeartbeats 2000000
namespace E94H
open PySem PySem.Spec PyProof.Rows L2
section
variable {P : Program} {w : World} {K : PySem.W.Frag} {mg : Str → Option Value} {base : Heap}
structure LetS (l : List Nat) : Prop where
  three : l.length ≤ 3
  hi : ∀ x ∈ l, x < 26
structure LT (l : List Nat) (t : E94.MT) : Prop where
  len : t.1.length = l.length
  nine : ∀ n ∈ t.1, n ≤ 9
  top : t.2.1.natAbs < 10 ^ 4300
  bot : t.2.2 < 10 ^ 4300
def monoL (l c : List Nat) : List Nat := AlBase.join [42] ((E94.mon l c).map E94.powText)
theorem pow_len {x : Nat × Nat} (h : x.2 ≤ 9) : (E94.powText x).length ≤ 3 := by
  unfold E94.powText
  split
  · show 1 ≤ 3; decide
  · rw [List.length_cons, List.length_cons, E94.digits_lt (by omega)]
    show 1 + 1 + 1 ≤ 3
    decide
theorem join_len (s : List Nat) : ∀ {ps : List (List Nat)}, (∀ p ∈ ps, p.length ≤ 3) → (AlBase.join s ps).length ≤ ps.length * (3 + s.length)
  | [], _ => by simp [AlBase.join]
  | [p], h => by
    have := h p (List.mem_cons_self ..)
    show p.length ≤ 1 * (3 + s.length)
    omega
  | p :: r :: ps, h => by
    have h1 := h p (List.mem_cons_self ..)
    have h2 := join_len s (ps := r :: ps) fun q hq => h q (List.mem_cons_of_mem _ hq)
    show (p ++ s ++ AlBase.join s (r :: ps)).length ≤ _
    rw [List.length_append, List.length_append]
    have e : (p :: r :: ps).length * (3 + s.length) = (r :: ps).length * (3 + s.length) + (3 + s.length) := by
      rw [List.length_cons (a := p), Nat.succ_mul]
    omega
theorem mon_len {l c : List Nat} (h3 : l.length ≤ 3) : (E94.mon l c).length ≤ 3 := by
  rw [E94.mon_drop]
  have h1 := List.length_filter_le (fun x : Nat × Nat => decide (x.2 ≠ 0)) (l.zip c)
  rw [List.length_zip] at h1
  omega
theorem mono_len {l c : List Nat} (h3 : l.length ≤ 3) (h9 : ∀ n ∈ c, n ≤ 9) : (monoL l c).length ≤ 12 := by
  have h1 := join_len [42] (ps := (E94.mon l c).map E94.powText) fun p hp => by
    obtain ⟨x, hx, rfl⟩ := List.mem_map.mp hp
    rw [E94.mon_drop] at hx
    exact pow_len (h9 _ (List.of_mem_zip (List.mem_filter.mp hx).1).2)
  rw [List.length_map] at h1
  have h2 := mon_len (c := c) h3
  have : (E94.mon l c).length * (3 + [42].length) ≤ 3 * 4 := Nat.mul_le_mul h2 (Nat.le_refl _)
  unfold monoL
  omega
theorem num_len {a b : Nat} (ha : a < 10 ^ 4300) (hb : b < 10 ^ 4300) : (E94.numText a b).length ≤ 8601 := by
  have h1 := dig_4300 ha
  have h2 := dig_4300 hb
  unfold E94.numText
  rw [List.length_append]
  split
  · simp; omega
  · rw [List.length_cons]; omega
theorem body_len {l : List Nat} {t : E94.MT} (hl : LetS l) (h : LT l t) : (E94.bodyL l t).length ≤ 8620 := by
  have h1 := num_len h.top h.bot
  have h2 := mono_len (c := t.1) hl.three h.nine
  unfold monoL at h2
  unfold E94.bodyL
  split
  · omega
  · split
    · omega
    · rw [List.length_append, List.length_cons]; omega
theorem join_nil {ps : List (List Nat)} (h : ∀ p ∈ ps, p ≠ []) : AlBase.join [42] ps = [] ↔ ps = [] := by
  match ps, h with
  | [], _ => simp [AlBase.join]
  | [p], h => simp [AlBase.join, h p (List.mem_cons_self ..)]
  | p :: q :: r, _ => simp [AlBase.join]
theorem mono_nil (l c : List Nat) : monoL l c = [] ↔ E94.mon l c = [] := by
  unfold monoL
  rw [join_nil fun p hp => by
    obtain ⟨x, _, rfl⟩ := List.mem_map.mp hp
    unfold E94.powText
    exact List.cons_ne_nil _ _]
  exact List.map_eq_nil_iff
theorem num_one {a b : Nat} : E94.numText a b = [49] ↔ a = 1 ∧ b = 1 := by
  constructor
  · intro h
    unfold E94.numText at h
    by_cases b1 : b = 1
    · rw [if_pos b1, List.append_nil] at h
      have h1 : E94.readWhole [49] = some a := E94.readWhole_iff.mpr h.symm
      have h2 : E94.readWhole [49] = some 1 := by decide
      rw [h1] at h2
      exact ⟨Option.some.inj h2, b1⟩
    · rw [if_neg b1] at h
      have hn := congrArg List.length h
      rw [List.length_append, List.length_cons] at hn
      have h0 : AlBase.digits a = [] := List.eq_nil_of_length_eq_zero (by simp at hn; omega)
      rw [h0] at h
      have := (List.cons.inj h).1
      omega
  · rintro ⟨rfl, rfl⟩
    decide
/-! ### term_text -/
theorem sc_term_text : FnScope ["term", "letters", "number", "product"] ["term", "letters"] (defScope s_term_text) := ⟨rfl, rfl, rfl, by decide +kernel, rfl, by decide +kernel, by decide +kernel⟩
def sp_term_text (K : PySem.W.Frag) : Sp := fun vs H Q _ => ∃ (v : V) (a : Addr) (t : E94.MT) (l : List Nat), vs = [v, .ref a] ∧ Dp K H v (dTerm t) ∧ SqL K H a ((ofN l).map V.int) ∧ LetS l ∧ LT l t ∧ ∀ H', Same H H' → Q (.str (tx (E94.bodyL l t))) H'
theorem tx_empty : Str.ofString "" = tx [] := by decide +kernel
theorem tx_one : Str.ofString "1" = tx [49] := by decide +kernel
theorem ok_term_text {f fN fP : Addr} {fd fdN fdP : FuncData} {k : Nat} {ta : Tok} (hD : base.NoDigits) (F : Fun K "term_text" "term_text" s_term_text f fd) (FN : Fun K "number_text" "number_text" s_number_text fN fdN) (bN : Binds K fdN ["top", "bottom"] []) (gN : mg "number_text" = some (.ref fN))
    (FP : Fun K "product_text" "product_text" s_product_text fP fdP) (bP : Binds K fdP ["product", "letters"] []) (gP : mg "product_text" = some (.ref fP)) (gA : mg "ALPHABET" = some (.str abc ta)) (mzip : mg "zip" = none) (mabs : mg "abs" = none) (mstr : mg "str" = none) : FnOk P w K mg base CX0 (k + 2) f fd ["term", "letters"] (sp_term_text K) := by
  have GN : FnOk P w K mg base CX0 (k + 1) fN fdN ["top", "bottom"] sp_number_text := ok_number_text hD FN mabs mstr
  have GP : FnOk P w K mg base CX0 (k + 1) fP fdP ["product", "letters"] (sp_product_text K) := ok_product_text FP gA mzip
  refine F.ok sc_term_text (fun vs H Q E h => ?_) (fun cdv A outer s H vs Q E hr h => ?_)
  · obtain ⟨v, a, t, l, rfl, _⟩ := h
    rfl
  · obtain ⟨v, a, t, l, rfl, hT, hA, hl, ht, q⟩ := h
    refine ⟨_, pss_cons (ps_set (i := 2) sc_term_text.nd rfl (.inl rfl) (pe_call GN hr (by rfl) gN FN.kp bN .nil pass0 (pa_cons (pe_ix ix_tup (pv 0) pe_int (fun _ _ => rfl)) (pa_cons (pe_ix ix_tup (pv 0) pe_int (fun _ _ => rfl)) pa_nil))))
      (pss_cons (ps_set (i := 3) sc_term_text.nd rfl (.inl rfl) (pe_call GP hr (by rfl) gP FP.kp bP .nil pass0 (pa_cons (pe_ix ix_tup (pv 0) pe_int (fun _ _ => rfl)) (pa_cons (pv 1) pa_nil))))
      (pss_cons (ps_if (pt_cmpR op_eq (pv 3) pe_str (nomark _)) (pss_one (ps_ret (pv 2))) pss_nil)
      (pss_cons (ps_if (pt_cmpR op_eq (pv 2) pe_str (nomark _)) (pss_one (ps_ret (pv 3))) pss_nil)
      (pss_one (ps_ret (pe_joined (.cons (pe_fmt (pv 2)) (.cons pe_str (.cons (pe_fmt (pv 3)) .nil))))))))), ?_⟩
    obtain ⟨b, c, rfl, hB, hC⟩ := dp_term hT
    refine ⟨_, rfl, b, _, 1, _, rfl, rfl, hB, atI_nat (j := 1) rfl, _, rfl, b, _, 2, _, rfl, rfl, hB, atI_nat (j := 2) rfl, t.2.1, t.2.2, rfl, ht.top, ht.bot, ?_⟩
    refine ⟨_, rfl, b, _, 0, _, rfl, rfl, hB, atI_nat (j := 0) rfl, _, rfl, c, a, t.1, l, rfl, hC, hA, ht.len, hl.three, hl.hi, ht.nine, fun H2 sm => ?_⟩
    have q2 := q _ sm
    unfold E94.bodyL at q2
    refine ⟨_, rfl, rfl, _, rfl, ite2 (fun e => ?_) (fun e => ?_)⟩
    · have e' : tx (monoL l t.1) = Str.ofString "" := V.str.inj (of_decide_eq_true e)
      rw [tx_empty, tx_inj, mono_nil] at e'
      rw [if_pos e'] at q2
      exact ⟨_, rfl, q2⟩
    · have e' : ¬ E94.mon l t.1 = [] := fun z => e (decide_eq_true (by
        have : tx (monoL l t.1) = Str.ofString "" := by rw [tx_empty, tx_inj, mono_nil]; exact z
        exact congrArg V.str this))
      rw [if_neg e'] at q2
      refine ⟨_, rfl, rfl, _, rfl, ite2 (fun e2 => ?_) (fun e2 => ?_)⟩
      · have e2' : tx (E94.numText t.2.1.natAbs t.2.2) = Str.ofString "1" := V.str.inj (of_decide_eq_true e2)
        rw [tx_one, tx_inj, num_one] at e2'
        rw [if_pos e2'] at q2
        exact ⟨_, rfl, q2⟩
      · have e2' : ¬ (t.2.1.natAbs = 1 ∧ t.2.2 = 1) := fun z => e2 (decide_eq_true (by
          have : tx (E94.numText t.2.1.natAbs t.2.2) = Str.ofString "1" := by rw [tx_one, tx_inj, num_one]; exact z
          exact congrArg V.str this))
        rw [if_neg e2'] at q2
        have n1 := num_len ht.top ht.bot
        have n2 : (AlBase.join [42] ((E94.mon l t.1).map E94.powText)).length ≤ 12 := mono_len hl.three ht.nine
        refine ⟨_, rfl, .inl ⟨_, rfl, by rw [tx_len, sizeLine_eq]; omega, _, rfl, ?_, _, rfl, ?_, _, rfl, .inl ⟨_, rfl, by rw [tx_len, sizeLine_eq]; omega, _, rfl, ?_, ?_⟩⟩⟩
        · rw [tx_nil, tx_app, tx_len, sizeLine_eq]
          show (E94.numText t.2.1.natAbs t.2.2).length ≤ 16777216
          omega
        · rw [tx_nil, tx_star, tx_app, tx_app, tx_len, sizeLine_eq, List.length_append]
          show (E94.numText t.2.1.natAbs t.2.2).length + 1 ≤ 16777216
          omega
        · rw [tx_nil, tx_star, tx_app, tx_app, tx_app, tx_len, sizeLine_eq, List.length_append, List.length_append]
          show (E94.numText t.2.1.natAbs t.2.2).length + 1 + _ ≤ 16777216
          omega
        · rw [tx_nil, tx_star, tx_app, tx_app, tx_app]
          have : [] ++ E94.numText t.2.1.natAbs t.2.2 ++ [42] ++ AlBase.join [42] ((E94.mon l t.1).map E94.powText) = E94.numText t.2.1.natAbs t.2.2 ++ 42 :: AlBase.join [42] ((E94.mon l t.1).map E94.powText) := by simp
          rw [this]
          exact q2
end
end E94H
set_option Elab.async false
set_option linter.all false
set_option maxRecDepth 100000
set_option maxHeartbeats 2000000
namespace E94H
open PySem PySem.Spec PyProof.Rows L2
section
variable {P : Program} {w : World} {K : PySem.W.Frag} {mg : Str → Option Value} {base : Heap}
/-! ### how large the products are -/
theorem cols_lt {d k : Nat} (d5 : d ≤ 5) (hk : 0 < k) {c : List Nat} (h : c ∈ E94.colsM d k) : c.length = k ∧ ∀ n ∈ c, n ≤ 9 := by
  have := ((E94.prodsW_spec (d : Int) hk).2 c).mp (List.mem_reverse.mp h)
  refine ⟨this.1, fun n hn => ?_⟩
  have h2 := le_sum hn
  omega
end
end E94H
set_option Elab.async false
set_option linter.all false
set_option maxRecDepth 100000
set_option maxHeartbeats 2000000
namespace E94H
open PySem PySem.Spec PyProof.Rows L2
section
variable {P : Program} {w : World} {K : PySem.W.Frag} {mg : Str → Option Value} {base : Heap}
/-! ### how large what's left is -/
theorem left_lt {l : List Nat} {d : Nat} {p : E94.MP} {eqs : List E94.MP} (LK : LOk l d p eqs) : (E94.leftM d l.length p eqs).length ≤ 56 ∧ ∀ t ∈ E94.leftM d l.length p eqs, LT l t := by
  have kpos := LK.hyp.hk
  have c56 := cols_56 LK.d5 kpos LK.k3
  have ROK := rowsB_ok (eqs := eqs) LK.d5 kpos LK.k3 fun q hq => (LK.eok q hq).1
  obtain ⟨U, RD⟩ := E94.red_all (w := (E94.colsM d l.length).length) (rows := E94.rowsB (E94.colsM d l.length) d l.length eqs) fun r hr' => (ROK.all r hr').1
  have lrow := E94.left_row LK.hyp RD
  have hst : (E94.startRow (E94.colsM d l.length) (List.replicate l.length 0) p).length = (E94.colsM d l.length).length + 1 := by
    unfold E94.startRow
    rw [List.length_append, E94.rowM_len]
    rfl
  have hsb := start_bits LK.pok (E94.colsM d l.length) (List.replicate l.length 0)
  dsimp only at lrow
  have hF56 : U.length ≤ 56 := by
    rw [RD.cnt]
    exact ROK.found_all
  have small := fun t ht => RD.small_left (A := 2 ^ 173) (t := t) (Nat.pow_pos (by decide)) (fun r hr => ⟨(ROK.all r hr).1, fun b hb => Nat.le_of_lt ((ROK.all r hr).2 b hb)⟩) hst (fun b hb => Nat.le_of_lt (hsb b hb)) lrow.2.1 ht
  have X1 : (2 * ((E94.colsM d l.length).length + 1) * 2 ^ 173) ^ (U.length + 1) ≤ 2 ^ (182 * 57) := by
    have e0 : 2 * ((E94.colsM d l.length).length + 1) * 2 ^ 173 ≤ 2 ^ 182 := by
      have : (2 : Nat) ^ 182 = 512 * 2 ^ 173 := by decide
      rw [this]
      exact Nat.mul_le_mul_right _ (by omega)
    calc _ ≤ (2 ^ 182) ^ (U.length + 1) := Nat.pow_le_pow_left e0 _
      _ ≤ (2 ^ 182) ^ 57 := Nat.pow_le_pow_right (Nat.pow_pos (by decide)) (by omega)
      _ = 2 ^ (182 * 57) := by rw [← Nat.pow_mul]
  constructor
  · unfold E94.leftM E94.leftTerms E94.termsOf
    have h2 := List.length_filterMap_le (fun x : List Nat × Int => if x.2 = 0 then none else some (x.1, E94.low x.2 ((E94.leftRow (E94.basisM d l.length eqs) (E94.startRow (E94.colsM d l.length) (List.replicate l.length 0) p)).getD (E94.colsM d l.length).length 0))) ((E94.colsM d l.length).zip ((E94.leftRow (E94.basisM d l.length eqs) (E94.startRow (E94.colsM d l.length) (List.replicate l.length 0) p)).take (E94.colsM d l.length).length))
    rw [List.length_zip] at h2
    omega
  · intro t ht
    obtain ⟨x, hx, x0, rfl⟩ := E94.termsOf_mem ht
    have cm := cols_lt LK.d5 kpos (List.of_mem_zip hx).1
    obtain ⟨j, hj, ex⟩ := List.mem_iff_getElem.mp hx
    rw [List.getElem_zip, List.getElem_take] at ex
    rw [List.length_zip, List.length_take] at hj
    have ez : x.2 = (E94.leftRow (E94.basisM d l.length eqs) (E94.startRow (E94.colsM d l.length) (List.replicate l.length 0) p)).getD j 0 := by
      rw [← ex, List.getD_eq_getElem?_getD, List.getElem?_eq_getElem (by omega)]
      rfl
    obtain ⟨q, z, q0, qX, zX, hz⟩ := small j (by omega)
    have hz' : x.2 * q = z * (E94.leftRow (E94.basisM d l.length eqs) (E94.startRow (E94.colsM d l.length) (List.replicate l.length 0) p)).getD (E94.colsM d l.length).length 0 := by rw [ez]; exact hz
    have same := E94.low_same (a := x.2) (c := z) lrow.2.1 q0 hz'
    have ll := low_le (a := z) q0
    refine ⟨cm.1, cm.2, ?_, ?_⟩
    · show (E94.low x.2 _).1.natAbs < _
      rw [same]
      exact big_pow (n := 182 * 57) (by decide) (Nat.le_trans ll.1 (Nat.le_trans zX X1))
    · show (E94.low x.2 _).2 < _
      rw [same]
      exact big_pow (n := 182 * 57) (by decide) (Nat.le_trans ll.2 (Nat.le_trans qX X1))
end
end E94H
set_option Elab.async false
set_option linter.all false
set_option maxRecDepth 100000
set_option maxHeartbeats 2000000
namespace E94H
open PySem PySem.Spec PyProof.Rows L2
section
variable {P : Program} {w : World} {K : PySem.W.Frag} {mg : Str → Option Value} {base : Heap}
/-! ### polynomial_text -/
def firstL (l : List Nat) (t : E94.MT) : List Nat := if t.2.1 < 0 then 45 :: E94.bodyL l t else E94.bodyL l t
def preL (l : List Nat) : E94.MP → List Nat
  | [] => []
  | t :: q => firstL l t ++ q.flatMap (E94.moreL l)
theorem pre_more {l : List Nat} {q : E94.MP} {i : Nat} {t : E94.MT} (h : q[i]? = some t) : preL l (q.take (i + 1)) = preL l (q.take i) ++ if i = 0 then firstL l t else E94.moreL l t := by
  cases q with
  | nil => cases h
  | cons u q =>
    cases i with
    | zero =>
      have : u = t := Option.some.inj h
      subst this
      simp [preL]
    | succ i =>
      have h' : q[i]? = some t := by simpa using h
      rw [List.take_succ_cons, List.take_succ_cons, take_more h', if_neg (by omega)]
      show firstL l u ++ (q.take i ++ [t]).flatMap (E94.moreL l) = firstL l u ++ (q.take i).flatMap (E94.moreL l) ++ E94.moreL l t
      rw [List.flatMap_append, List.append_assoc]
      simp
theorem text_pre {l : List Nat} {q : E94.MP} (h : q ≠ []) : E94.textL l q = preL l q := by
  cases q with
  | nil => exact absurd rfl h
  | cons t q => rfl
theorem piece_len {l : List Nat} {t : E94.MT} (hl : LetS l) (h : LT l t) (i : Nat) : (if i = 0 then firstL l t else E94.moreL l t).length ≤ 8624 := by
  have hb := body_len hl h
  split
  · unfold firstL
    split
    · rw [List.length_cons]; omega
    · omega
  · unfold E94.moreL E94.sgn
    rw [List.length_cons, List.length_append, List.length_cons]
    split <;> (simp; omega)
theorem pre_len {l : List Nat} {q : E94.MP} (hl : LetS l) (h : ∀ t ∈ q, LT l t) : ∀ i, i ≤ q.length → (preL l (q.take i)).length ≤ 8624 * i
  | 0, _ => by simp [preL]
  | i + 1, hi => by
    have ih := pre_len hl h i (by omega)
    have hq : q[i]? = some q[i] := List.getElem?_eq_getElem (by omega)
    rw [pre_more hq, List.length_append]
    have := piece_len hl (h q[i] (List.getElem_mem _)) i
    omega
structure TxEnv (K : PySem.W.Frag) (mg : Str → Option Value) (ta : Tok) : Prop where
  term : Has K mg "term_text" s_term_text ["term", "letters"]
  numb : Has K mg "number_text" s_number_text ["top", "bottom"]
  prod : Has K mg "product_text" s_product_text ["product", "letters"]
  poly : Has K mg "polynomial_text" s_polynomial_text ["polynomial", "letters"]
  gA : mg "ALPHABET" = some (.str abc ta)
  mzip : mg "zip" = none
  mabs : mg "abs" = none
  mstr : mg "str" = none
  menum : mg "enumerate" = none
  mord : mg "ord" = none
theorem sc_polynomial_text : FnScope ["polynomial", "letters", "text", "place", "term", "sign"] ["polynomial", "letters"] (defScope s_polynomial_text) := ⟨rfl, rfl, rfl, by decide +kernel, rfl, by decide +kernel, by decide +kernel⟩
def sp_polynomial_text (K : PySem.W.Frag) : Sp := fun vs H Q _ => ∃ (v : V) (a : Addr) (p : E94.MP) (l : List Nat), vs = [v, .ref a] ∧ Dp K H v (dPoly p) ∧ SqL K H a ((ofN l).map V.int) ∧ LetS l ∧ (∀ t ∈ p, LT l t) ∧ p.length ≤ 168 ∧ ∀ H', Same H H' → Q (.str (tx (E94.textL l p))) H'
theorem tx_zero : Str.ofString "0" = tx [48] := by decide +kernel
theorem tx_minus : Str.ofString "-" = tx [45] := by decide +kernel
theorem tx_less : Str.ofString " - " = tx [32, 45, 32] := by decide +kernel
theorem tx_more : Str.ofString " + " = tx [32, 43, 32] := by decide +kernel
theorem ok_polynomial_text {f : Addr} {fd : FuncData} {k : Nat} {ta : Tok} (hD : base.NoDigits) (F : Fun K "polynomial_text" "polynomial_text" s_polynomial_text f fd) (T : TxEnv K mg ta) : FnOk P w K mg base CX0 (k + 3) f fd ["polynomial", "letters"] (sp_polynomial_text K) := by
  obtain ⟨fT, fdT, FT, bT, gT⟩ := T.term
  obtain ⟨fN, fdN, FN, bN, gN⟩ := T.numb
  obtain ⟨fP, fdP, FP, bP, gP⟩ := T.prod
  have GT : FnOk P w K mg base CX0 (k + 2) fT fdT ["term", "letters"] (sp_term_text K) := ok_term_text hD FT FN bN gN FP bP gP T.gA T.mzip T.mabs T.mstr
  refine F.ok sc_polynomial_text (fun vs H Q E h => ?_) (fun cdv A outer s H vs Q E hr h => ?_)
  · obtain ⟨v, a, p, l, rfl, _⟩ := h
    rfl
  · obtain ⟨v, aL, p, l, rfl, hP, hA, hl, ht, h168, q⟩ := h
    refine ⟨_, pss_cons (ps_if (pt_cmpR (op_eqD hr.units) (pv 0) (pe_lst pa_nil) (nomark _)) (pss_one (ps_ret pe_str)) pss_nil)
      (pss_cons (ps_set (i := 2) sc_polynomial_text.nd rfl (.inl rfl) pe_str)
      (pss_cons (ps_for PassesOwn.never rfl (pi_enum (by rfl) T.menum (pa_cons (pv 0) pa_nil)) (pg_tup rfl (pgs_cons (pg_name (i := 3) sc_polynomial_text.nd rfl (.inl rfl)) (pgs_cons (pg_name (i := 4) sc_polynomial_text.nd rfl (.inl rfl)) pgs_nil)))
        (pss_cons (ps_set (i := 5) sc_polynomial_text.nd rfl (.inl rfl) (pe_ifExp (pt_cmpR op_lt (pe_ix ix_tup (pv 4) pe_int (fun _ _ => rfl)) pe_int (nomark _)) pe_str pe_str))
        (pss_cons (ps_if (pt_cmpR op_gt (pv 3) pe_int (nomark _)) (pss_one (ps_set (i := 5) sc_polynomial_text.nd rfl (.inl rfl) (pe_ifExp (pt_cmpR op_lt (pe_ix ix_tup (pv 4) pe_int (fun _ _ => rfl)) pe_int (nomark _)) pe_str pe_str))) pss_nil)
        (pss_one (ps_set (i := 2) sc_polynomial_text.nd rfl (.inl rfl) (pe_op op_add_str (pe_op op_add_str (pv 2) (pv 5)) (pe_call GT hr (by rfl) gT FT.kp bT .nil pass0 (pa_cons (pv 4) (pa_cons (pv 1) pa_nil)))))))))
      (pss_one (ps_ret (pv 2))))), ?_⟩
    obtain ⟨a, xs, rfl, hL, hAll⟩ := dp_poly hP
    have lx : xs.length = p.length := by rw [dpAll_len hAll, List.length_map]
    refine ⟨_, rfl, Nat.zero_le _, fun lz nl => ?_⟩
    have s1 := same_upd (o := .lst []) nl
    refine ⟨_, _, same_dp s1 _ _ hP, .lst (SqL.of upd_same) .nil, shaped_poly p, shaped_nil, _, rfl, ?_⟩
    rw [eqv_nil]
    by_cases p0 : p = []
    · subst p0
      refine iteT ?_
      have := q _ s1
      rw [show E94.textL l [] = [48] from rfl, ← tx_zero] at this
      exact this
    · have ne : p.map dTerm ≠ [] := fun z => p0 (List.map_eq_nil_iff.mp z)
      rw [decide_eq_false ne]
      refine iteF ?_
      refine ⟨_, rfl, a, _, rfl, s1.seq hL, for_it (walk_enum (xs := xs)) (fun i σ H2 => Same H H2 ∧ ∃ y3 y4 y5, σ = [some (.ref a), some (.ref aL), some (.str (tx (preL l (p.take i)))), y3, y4, y5]) ⟨s1, none, none, none, by rw [tx_empty]; rfl⟩ (fun i σ H2 _ h => h.1.seq hL) ?_ ?_⟩
      · rintro i vv σ H2 H3 hi ⟨sm, y3, y4, y5, rfl⟩ ⟨T0, u1, u2, rfl, nT, rfl, g1, g2⟩
        have e1 : u1 = .int (i : Nat) := (Option.some.inj g1).symm
        subst e1
        obtain ⟨t, htt, hdp⟩ := dpAll_get hAll g2
        have tm := ht t (List.mem_of_getElem? htt)
        have smT := same_upd (o := .tup [V.int (i : Nat), u2]) nT
        have s3 := sm.trans smT
        have dt := same_dp s3 _ _ hdp
        obtain ⟨b, c, rfl, hB, hC⟩ := dp_term dt
        have il : i < p.length := by rw [← lx]; exact hi
        have pl := pre_len hl ht i (by omega)
        have bl := body_len hl tm
        have pm := pre_more (l := l) htt
        refine ⟨T0, _, rfl, .inl (.inl upd_same), rfl, _, _, rfl, _, _, rfl, rfl, ?_⟩
        -- behind the sign
        have go : ∀ (sg : List Nat) (S : Str), S = tx sg → sg.length ≤ 3 → preL l (p.take (i + 1)) = preL l (p.take i) ++ sg ++ E94.bodyL l t → ∀ σ', σ' = [some (V.ref a), some (V.ref aL), some (V.str (tx (preL l (p.take i)))), some (V.int (i : Nat)), some (V.ref b), some (V.str S)] → (tAsg (tOp (fun x y H Q => ∃ i j, x = V.str i ∧ y = V.str j ∧ i.length + j.length ≤ sizeLine ∧ Q (V.str (i ++ j)) H) (tOp (fun x y H Q => ∃ i j, x = V.str i ∧ y = V.str j ∧ i.length + j.length ≤ sizeLine ∧ Q (V.str (i ++ j)) H) (tVar 2) (tVar 5)) (tCall (sp_term_text K) [] E0 (tCons (tVar 4) (tCons (tVar 1) tNil)))) (gName 2)) { nx := fun σ H2 => Same H H2 ∧ ∃ y3 y4 y5, σ = [some (.ref a), some (.ref aL), some (.str (tx (preL l (p.take (i + 1))))), y3, y4, y5], rt := Q } σ' (upd H2 T0 (.tup [V.int (i : Nat), V.ref b])) := by
          rintro sg S rfl sl e σ' rfl
          refine ⟨_, rfl, _, rfl, _, _, rfl, rfl, ?_, _, rfl, _, rfl, _, aL, t, l, rfl, dt, s3.seq hA, hl, tm, fun H4 s4 => ?_⟩
          · rw [tx_len, tx_len, sizeLine_eq]; omega
          · refine ⟨_, _, rfl, rfl, ?_, ?_⟩
            · rw [tx_app, tx_len, tx_len, sizeLine_eq, List.length_append]; omega
            · rw [tx_app, tx_app, ← e]
              exact ⟨s3.trans s4, _, _, _, rfl⟩
        have pos0 : (i : Int) > 0 → i ≠ 0 := fun h z => by rw [z] at h; exact absurd h (by decide)
        refine ⟨_, rfl, b, _, 1, _, rfl, rfl, hB, atI_nat (j := 1) rfl, _, _, rfl, rfl, _, rfl, ite2 (fun e => ?_) (fun e => ?_)⟩
        · have e' : t.2.1 < 0 := of_decide_eq_true e
          refine ⟨_, rfl, _, _, rfl, rfl, _, rfl, ite2 (fun e2 => ?_) (fun e2 => ?_)⟩
          · have i0 : i ≠ 0 := by
              have : (0 : Int) < (i : Int) := of_decide_eq_true e2
              omega
            refine ⟨_, rfl, b, _, 1, _, rfl, rfl, hB, atI_nat (j := 1) rfl, _, _, rfl, rfl, _, rfl, ite2 (fun e3 => ?_) (fun e3 => absurd e e3)⟩
            refine go [32, 45, 32] _ tx_less (by decide) ?_ _ rfl
            rw [pm, if_neg i0]
            unfold E94.moreL E94.sgn
            rw [if_pos e']
            simp
          · have i0 : i = 0 := by
              have : ¬ (0 : Int) < (i : Int) := fun z => e2 (decide_eq_true z)
              omega
            refine go [45] _ tx_minus (by decide) ?_ _ rfl
            rw [pm, if_pos i0]
            unfold firstL
            rw [if_pos e']
            simp
        · have e' : ¬ t.2.1 < 0 := fun z => e (decide_eq_true z)
          refine ⟨_, rfl, _, _, rfl, rfl, _, rfl, ite2 (fun e2 => ?_) (fun e2 => ?_)⟩
          · have i0 : i ≠ 0 := by
              have : (0 : Int) < (i : Int) := of_decide_eq_true e2
              omega
            refine ⟨_, rfl, b, _, 1, _, rfl, rfl, hB, atI_nat (j := 1) rfl, _, _, rfl, rfl, _, rfl, ite2 (fun e3 => absurd e3 e) (fun e3 => ?_)⟩
            refine go [32, 43, 32] _ tx_more (by decide) ?_ _ rfl
            rw [pm, if_neg i0]
            unfold E94.moreL E94.sgn
            rw [if_neg e']
            simp
          · have i0 : i = 0 := by
              have : ¬ (0 : Int) < (i : Int) := fun z => e2 (decide_eq_true z)
              omega
            refine go [] _ tx_empty (by decide) ?_ _ rfl
            rw [pm, if_pos i0]
            unfold firstL
            rw [if_neg e']
            simp
      · rintro σ H2 ⟨sm, y3, y4, y5, rfl⟩
        rw [lx, List.take_length, ← text_pre p0]
        exact ⟨_, rfl, q _ sm⟩
/-! ### written -/
theorem sc_written : FnScope ["polynomial", "letters", "sign"] ["polynomial", "letters"] (defScope s_written) := ⟨rfl, rfl, rfl, by decide +kernel, rfl, by decide +kernel, by decide +kernel⟩
def sp_written (K : PySem.W.Frag) : Sp := fun vs H Q _ => ∃ (v : V) (a : Addr) (p : E94.MP) (l : List Nat), vs = [v, .ref a] ∧ Dp K H v (dPoly p) ∧ SqL K H a ((ofN l).map V.int) ∧ LetS l ∧ (∀ t ∈ p, LT l t) ∧ p.length ≤ 168 ∧ ∀ H' r, Same H H' → H r = none → H' r = some (.lst ((ofN (E94.textL l p)).map V.int)) → Q (.ref r) H'
theorem text_len {l : List Nat} {p : E94.MP} (hl : LetS l) (ht : ∀ t ∈ p, LT l t) (h : p.length ≤ 168) : (E94.textL l p).length ≤ 1500000 := by
  by_cases p0 : p = []
  · subst p0; show 1 ≤ 1500000; decide
  · rw [text_pre p0]
    have := pre_len hl ht p.length (Nat.le_refl _)
    rw [List.take_length] at this
    omega
theorem ok_written {f : Addr} {fd : FuncData} {k : Nat} {ta : Tok} (hD : base.NoDigits) (F : Fun K "written" "written" s_written f fd) (T : TxEnv K mg ta) : FnOk P w K mg base CX0 (k + 4) f fd ["polynomial", "letters"] (sp_written K) := by
  obtain ⟨fT, fdT, FT, bT, gT⟩ := T.poly
  have GT : FnOk P w K mg base CX0 (k + 3) fT fdT ["polynomial", "letters"] (sp_polynomial_text K) := ok_polynomial_text hD FT T
  refine F.ok sc_written (fun vs H Q E h => ?_) (fun cdv A outer s H vs Q E hr h => ?_)
  · obtain ⟨v, a, p, l, rfl, _⟩ := h
    rfl
  · obtain ⟨v, aL, p, l, rfl, hP, hA, hl, ht, h168, q⟩ := h
    refine ⟨_, pss_one (ps_ret (pe_lc (own := [("sign", 2)]) (g := gName 2) (tt := tYes) (by rfl) sc_written.nd (pi_str (pe_call GT hr (by rfl) gT FT.kp bT .nil pass0 (pa_cons (pv 0) (pa_cons (pv 1) pa_nil)))) (blkOk_by (own := [("sign", 2)]) (N := ["polynomial", "letters", "sign"]) (sc := defScope s_written) (by decide +kernel)) (fun _ _ _ _ _ => pg_name (i := 2) sc_written.nd rfl (.inl rfl)) (fun _ _ _ _ _ => pts_nil) (fun _ _ _ _ _ => pe_callB call_ord (by rfl) T.mord (by decide +kernel) (pa_cons (pv 2) pa_nil)))), ?_⟩
    refine ⟨_, rfl, _, rfl, v, aL, p, l, rfl, hP, hA, hl, ht, h168, fun H2 s2 => ?_⟩
    have tl := text_len hl ht h168
    refine ⟨_, rfl, fun D hD => lc_it walk_str (fun i H3 => Same H H3 ∧ H3 D = some (.lst ((ofN ((E94.textL l p).take i)).map V.int))) ⟨s2.trans (same_upd hD), upd_same⟩ (fun i H3 _ _ => trivial) ?_ ?_⟩
    · rintro i x H3 H4 hi ⟨s3, h3⟩ ⟨rfl, c, hc, rfl⟩
      have hc' : (E94.textL l p)[i]? = some c := by
        have : (E94.textL l p).toArray[i]? = some c := hc
        simpa using this
      refine ⟨rfl, ?_⟩
      refine ⟨_, rfl, _, rfl, rfl, _, h3, ?_, fun b0 o0 e0 => ?_, ?_⟩
      · rw [List.length_map, ofN_len, List.length_take]
        exact Nat.lt_of_le_of_lt (show _ ≤ 1500000 by omega) (by decide)
      · rw [upd_ne (ne_of_none e0 (s2.free hD))]
        exact s3 _ _ e0
      · rw [upd_same, take_more hc', ofN_snoc, List.map_append]
        rfl
    · rintro H3 ⟨s3, h3⟩
      have : (tx (E94.textL l p)).cps.size = (E94.textL l p).length := tx_len _
      rw [this, List.take_length] at h3
      exact q _ _ s3 (s2.free hD) h3
end
end E94H
set_option Elab.async false
set_option linter.all false
set_option maxRecDepth 100000
set_option maxHeartbeats 2000000
namespace E94H
open PySem PySem.Spec PyProof.Rows L2
section
variable {P : Program} {w : World} {K : PySem.W.Frag} {mg : Str → Option Value} {base : Heap}
/-! ### answer_of -/
theorem sc_answer_of : FnScope ["number", "polynomials", "letters", "answer", "polynomial", "text"] ["number", "polynomials", "letters"] (defScope s_answer_of) := ⟨rfl, rfl, rfl, by decide +kernel, rfl, by decide +kernel, by decide +kernel⟩
def ansL (z : Int) (l : List Nat) (hs : List E94.MP) : List Int := z :: hs.flatMap fun p => E94.shownM (E94.textL l p)
def sp_answer_of (K : PySem.W.Frag) : Sp := fun vs H Q _ => ∃ (z : Int) (v : V) (a : Addr) (hs : List E94.MP) (l : List Nat), vs = [.int z, v, .ref a] ∧ Dp K H v (dPolys hs) ∧ SqL K H a ((ofN l).map V.int) ∧ LetS l ∧ (∀ p ∈ hs, p.length ≤ 168 ∧ ∀ t ∈ p, LT l t) ∧ (ansL z l hs).length ≤ 16000000 ∧
  ∀ H' r, Same H H' → H' r = some (.lst ((ansL z l hs).map V.int)) → Q (.ref r) H'
theorem ans_more {z : Int} {l : List Nat} {hs : List E94.MP} {i : Nat} {p : E94.MP} (h : hs[i]? = some p) : ansL z l (hs.take (i + 1)) = ansL z l (hs.take i) ++ [((E94.textL l p).length : Int)] ++ ofN (E94.textL l p) := by
  unfold ansL
  rw [take_more h, List.flatMap_append]
  show z :: (_ ++ [p].flatMap _) = _
  rw [show [p].flatMap (fun p => E94.shownM (E94.textL l p)) = ((E94.textL l p).length : Int) :: ofN (E94.textL l p) by simp [E94.shownM, ofN]]
  simp
theorem ans_len {z : Int} {l : List Nat} {hs : List E94.MP} (hl : LetS l) (h : ∀ p ∈ hs, p.length ≤ 168 ∧ ∀ t ∈ p, LT l t) : ∀ i, i ≤ hs.length → (ansL z l (hs.take i)).length ≤ 1 + 1500001 * i
  | 0, _ => by show 1 ≤ _; omega
  | i + 1, hi => by
    have ih := ans_len (z := z) hl h i (by omega)
    have hq : hs[i]? = some hs[i] := List.getElem?_eq_getElem (by omega)
    have hp := h hs[i] (List.getElem_mem _)
    have := text_len hl hp.2 hp.1
    rw [ans_more hq, List.length_append, List.length_append, ofN_len]
    show _ + 1 + _ ≤ _
    omega
theorem ans_take {z : Int} {l : List Nat} {hs : List E94.MP} (i : Nat) : (ansL z l (hs.take i)).length ≤ (ansL z l hs).length := by
  have e : ansL z l hs = ansL z l (hs.take i) ++ (hs.drop i).flatMap fun p => E94.shownM (E94.textL l p) := by
    unfold ansL
    conv => lhs; rw [← List.take_append_drop i hs]
    rw [List.flatMap_append]
    rfl
  rw [e, List.length_append]
  omega
theorem ok_answer_of {f : Addr} {fd : FuncData} {k : Nat} {ta : Tok} (hD : base.NoDigits) (F : Fun K "answer_of" "answer_of" s_answer_of f fd) (HW : Has K mg "written" s_written ["polynomial", "letters"]) (T : TxEnv K mg ta) (mlen : mg "len" = none) : FnOk P w K mg base CX0 (k + 5) f fd ["number", "polynomials", "letters"] (sp_answer_of K) := by
  obtain ⟨fW, fdW, FW, bW, gW⟩ := HW
  have GW : FnOk P w K mg base CX0 (k + 4) fW fdW ["polynomial", "letters"] (sp_written K) := ok_written hD FW T
  refine F.ok sc_answer_of (fun vs H Q E h => ?_) (fun cdv A outer s H vs Q E hr h => ?_)
  · obtain ⟨z, v, a, hs, l, rfl, _⟩ := h
    rfl
  · obtain ⟨z, v, aL, hs, l, rfl, hP, hA, hl, ht, h3, q⟩ := h
    refine ⟨_, pss_cons (ps_set (i := 3) sc_answer_of.nd rfl (.inl rfl) (pe_lst (pa_cons (pv 0) pa_nil)))
      (pss_cons (ps_for PassesOwn.never rfl (pi_list (pv 1)) (pg_name (i := 4) sc_answer_of.nd rfl (.inl rfl))
        (pss_cons (ps_set (i := 5) sc_answer_of.nd rfl (.inl rfl) (pe_call GW hr (by rfl) gW FW.kp bW .nil pass0 (pa_cons (pv 4) (pa_cons (pv 2) pa_nil))))
        (pss_cons (ps_expr (pe_bm PySem.F.plainAttrs_list PySem.F.slot_list_append PySem.F.type_list_append mt_append (pv 3) (pa_cons (pe_callB call_len_seq (by rfl) mlen PySem.boot_len (pa_cons (pv 5) pa_nil)) pa_nil)))
        (pss_one (ps_expr (pe_bm PySem.F.plainAttrs_list PySem.F.slot_list_extend PySem.F.type_list_extend mt_extend (pv 3) (pa_cons (pv 5) pa_nil)))))))
      (pss_one (ps_ret (pv 3)))), ?_⟩
    cases hP with
    | @lst a xs _ hL hAll =>
    have lx : xs.length = hs.length := by rw [dpAll_len hAll, List.length_map]
    refine ⟨_, rfl, by show 1 ≤ sizeLine; decide, fun m nm => ?_⟩
    have s0 := same_upd (o := .lst [V.int z]) nm
    refine ⟨_, rfl, a, rfl, ⟨_, s0.seq hL⟩, for_list (K := K) (a := a) (xs := xs) (fun i σ H2 => Same H H2 ∧ H2 m = some (.lst ((ansL z l (hs.take i)).map V.int)) ∧ ∃ y4 y5, σ = [some (.int z), some (.ref a), some (.ref aL), some (.ref m), y4, y5]) ⟨s0, upd_same, none, none, rfl⟩ (fun i σ H2 _ h => h.1.seq hL) ?_ ?_⟩
    · rintro i x σ H2 hi ⟨sm, hm, y4, y5, rfl⟩
      obtain ⟨p, hp, hdp⟩ := dpAll_get hAll hi
      have pm := ht p (List.mem_of_getElem? hp)
      have al2 := ans_take (z := z) (l := l) (hs := hs) (i + 1)
      rw [ans_more hp, List.length_append, List.length_append, ofN_len] at al2
      have al2 : (ansL z l (hs.take i)).length + 1 + (E94.textL l p).length ≤ (ansL z l hs).length := al2
      refine ⟨_, rfl, _, rfl, x, aL, p, l, rfl, same_dp sm _ _ hdp, sm.seq hA, hl, pm.2, pm.1, fun H3 r s3 nr h3' => ?_⟩
      have rm : r ≠ m := fun e => by rw [e, hm] at nr; cases nr
      have hm3 := s3 _ _ hm
      refine ⟨_, rfl, .inl ⟨rfl, _, SqL.of hm3⟩, _, rfl, r, _, rfl, .inl (SqL.of h3'), ?_⟩
      rw [List.length_map, ofN_len]
      refine ⟨m, _, _, rfl, rfl, hm3, ?_, ?_⟩
      · rw [List.length_map, sizeLine_eq]
        omega
      · refine ⟨_, rfl, .inl ⟨rfl, _, SqL.of upd_same⟩, _, rfl, m, r, _, _, rfl, rfl, upd_same, (upd_ne rm).trans h3', ?_, ?_⟩
        · rw [List.length_append, List.length_map, List.length_map, ofN_len, sizeLine_eq]
          show _ + 1 + _ ≤ 16777216
          omega
        · refine ⟨fun b0 o0 e0 => ?_, ?_, _, _, rfl⟩
          · rw [upd_ne (ne_of_none e0 nm), upd_ne (ne_of_none e0 nm)]
            exact s3 _ _ (sm _ _ e0)
          · rw [upd_same, ans_more hp, List.map_append, List.map_append]
            rfl
    · rintro σ H2 ⟨sm, hm, y4, y5, rfl⟩
      rw [lx, List.take_length] at hm
      exact ⟨_, rfl, q _ _ sm hm⟩
end
end E94H
set_option Elab.async false
set_option linter.all false
set_option maxRecDepth 100000
set_option maxHeartbeats 2000000
namespace E94H
open PySem PySem.Spec PyProof.Rows L2
section
variable {P : Program} {w : World} {K : PySem.W.Frag} {mg : Str → Option Value} {base : Heap}
/-- all that the answers lean on -/
structure EnvF (K : PySem.W.Frag) (mg : Str → Option Value) : Prop extends EnvR K mg where
  term : Has K mg "term_text" s_term_text ["term", "letters"]
  numb : Has K mg "number_text" s_number_text ["top", "bottom"]
  prod : Has K mg "product_text" s_product_text ["product", "letters"]
  poly : Has K mg "polynomial_text" s_polynomial_text ["polynomial", "letters"]
  writ : Has K mg "written" s_written ["polynomial", "letters"]
  answ : Has K mg "answer_of" s_answer_of ["number", "polynomials", "letters"]
  gA : ∃ t, mg "ALPHABET" = some (.str abc t)
  mstr : mg "str" = none
  mord : mg "ord" = none
theorem EnvF.okAns {k : Nat} (hD : base.NoDigits) (T : EnvF K mg) : ∃ f fd, (∃ F : Fun K "answer_of" "answer_of" s_answer_of f fd, True) ∧ Binds K fd ["number", "polynomials", "letters"] [] ∧ mg "answer_of" = some (.ref f) ∧ FnOk P w K mg base CX0 (k + 5) f fd ["number", "polynomials", "letters"] (sp_answer_of K) := by
  obtain ⟨f, fd, F, b, g⟩ := T.answ
  obtain ⟨_, gA⟩ := T.gA
  exact ⟨f, fd, ⟨F, trivial⟩, b, g, ok_answer_of hD F T.writ ⟨T.term, T.numb, T.prod, T.poly, gA, T.mzip, T.mabs, T.mstr, T.menum, T.mord⟩ T.mlen⟩
end
end E94H
set_option Elab.async false
set_option linter.all false
set_option maxRecDepth 100000
set_option maxHeartbeats 2000000
namespace E94H
open PySem PySem.Spec PyProof.Rows L2
section
variable {P : Program} {w : World} {K : PySem.W.Frag} {mg : Str → Option Value} {base : Heap}
/-! ### refusal_within -/
structure RwEnv (K : PySem.W.Frag) (mg : Str → Option Value) : Prop where
  refw : Has K mg "refusal_within" s_refusal_within ["d", "letters", "polynomials"]
  n6 : Num mg "ABOVE_D" (-6)
theorem sc_refusal_within : FnScope ["d", "letters", "polynomials", "refusal"] ["d", "letters", "polynomials"] (defScope s_refusal_within) := ⟨rfl, rfl, rfl, by decide +kernel, rfl, by decide +kernel, by decide +kernel⟩
/-- the refusal that is told, or 0 -/
def RefW (d : Nat) (l : List Nat) (ts : List (List Nat)) (z : Int) : Prop := (refM 1 d l (ts.map E94.readPolyM) < 0 ∧ z = refM 1 d l (ts.map E94.readPolyM)) ∨
  (refM 1 d l (ts.map E94.readPolyM) = 0 ∧ ∃ qs, ts.map E94.readPolyM = qs.map some ∧ Told l d qs ∧ z = if d < E94.degM (qs.headD []) then -6 else 0)
def sp_refusal_within (K : PySem.W.Frag) : Sp := fun vs H Q _ => ∃ (v : V) (a : Addr) (d : Nat) (l : List Nat) (ts : List (List Nat)), vs = [.int (d : Int), .ref a, v] ∧ SqL K H a ((ofN l).map V.int) ∧ Dp K H v (dOpts (ts.map E94.readPolyM)) ∧
  ∀ H' z, Same H H' → RefW d l ts z → Q (.int z) H'
theorem ok_refusal_within {f : Addr} {fd : FuncData} {k : Nat} (F : Fun K "refusal_within" "refusal_within" s_refusal_within f fd) (T : EnvR K mg) (W : RwEnv K mg) : FnOk P w K mg base CX0 (k + 4) f fd ["d", "letters", "polynomials"] (sp_refusal_within K) := by
  obtain ⟨fF, fdF, ⟨FF, _⟩, bF, gF, GF⟩ := T.okRef (P := P) (w := w) (base := base) (k := k)
  obtain ⟨fD, fdD, FD, bD, gD⟩ := T.degr
  obtain ⟨_, g6⟩ := W.n6
  have GD : FnOk P w K mg base CX0 (k + 1) fD fdD ["polynomial"] (sp_degree_of K) := ok_degree_of FD
  refine F.ok sc_refusal_within (fun vs H Q E h => ?_) (fun cdv A outer s H vs Q E hr h => ?_)
  · obtain ⟨v, a, d, l, ts, rfl, _⟩ := h
    rfl
  · obtain ⟨v, aL, d, l, ts, rfl, hA, hW, q⟩ := h
    have hr1 : Room (k + 1) _ := hr.mono (by omega)
    refine ⟨_, pss_cons (ps_set (i := 3) sc_refusal_within.nd rfl (.inl rfl) (pe_call GF hr (by rfl) gF FF.kp bF .nil pass0 (pa_cons (pv 0) (pa_cons (pv 1) (pa_cons pe_int (pa_cons (pv 2) pa_nil))))))
      (pss_cons (ps_if (PW.pt (pw_and (pt_cmpR op_eq (pv 3) pe_int (nomark _)) (pw_and1 (pt_cmpR op_gt (pe_call GD hr1 (by rfl) gD FD.kp bD .nil pass0 (pa_cons (pe_ix ix_list (pv 2) pe_int (fun _ _ => rfl)) pa_nil)) (pv 0) (nomark _))))) (pss_one (ps_ret (pe_glob (v := .int (-6)) (by rfl) g6 ⟨_, rfl⟩))) pss_nil)
      (pss_one (ps_ret (pv 3)))), ?_⟩
    have h26 : ∀ q, some q ∈ ts.map E94.readPolyM → ∀ t ∈ q, t.1.length = 26 := fun q0 hq t ht => by
      obtain ⟨tx0, _, e⟩ := List.mem_map.mp hq
      exact (E94.readPolyM_iff.mp e).1.good.len t ht
    refine ⟨_, rfl, _, rfl, _, rfl, v, aL, 1, d, l, ts.map E94.readPolyM, rfl, Nat.le_refl _, hA, hW, h26, fun H1 s1 => ?_⟩
    refine ⟨_, rfl, rfl, _, rfl, ?_⟩
    rcases guard_cases d l ts (fun _ => []) with ⟨neg, _⟩ | ⟨zero, qs, eqs, TD, _⟩
    · have ne : ¬ (V.int (refM 1 d l (ts.map E94.readPolyM)) = V.int 0) := fun z => by
        have := V.int.inj z
        omega
      rw [decide_eq_false ne]
      refine iteF (iteF ⟨_, rfl, q _ _ s1 (.inl ⟨neg, rfl⟩)⟩)
    · rw [zero]
      refine iteT ?_
      rw [eqs] at hW
      match hqs : qs, TD with
      | [], TD => exact absurd TD.one (by decide)
      | p :: es, TD =>
      cases hW with
      | @lst aP us _ hPs hPAll =>
      rw [opts_polys] at hPAll
      obtain ⟨v0, hv0, dv0⟩ := dpAll_at (i := 0) (x := p) hPAll rfl
      refine ⟨_, rfl, aP, us, 0, v0, rfl, rfl, s1.seq hPs, atI_nat (j := 0) hv0, v0, p, rfl, same_dp s1 _ _ dv0, fun H2 s2 => ?_⟩
      refine ⟨_, rfl, _, _, rfl, rfl, _, rfl, ite2 (fun e => ?_) (fun e => ?_)⟩
      · have e' : (d : Int) < (E94.degM p : Nat) := of_decide_eq_true e
        exact q _ _ (s1.trans s2) (.inr ⟨zero, p :: es, eqs, TD, (if_pos (by show d < E94.degM p; omega)).symm⟩)
      · have e' : ¬ d < E94.degM p := fun z => e (decide_eq_true (by show (d : Int) < _; omega))
        exact ⟨_, rfl, q _ _ (s1.trans s2) (.inr ⟨zero, p :: es, eqs, TD, (if_neg e').symm⟩)⟩
end
end E94H
set_option Elab.async false
set_option linter.all false
set_option maxRecDepth 100000
set_option maxHeartbeats 2000000
namespace E94H
open PySem PySem.Spec PyProof.Rows L2
section
variable {P : Program} {w : World} {K : PySem.W.Frag} {mg : Str → Option Value} {base : Heap}
/-! ### left -/
theorem sc_left : FnScope ["d", "letters", "texts", "polynomials", "text", "refusal", "told", "polynomial", "rest"] ["d", "letters", "texts"] (defScope s_left) := ⟨rfl, rfl, rfl, by decide +kernel, rfl, by decide +kernel, by decide +kernel⟩
def sp_left (K : PySem.W.Frag) : Sp := fun vs H Q _ => ∃ (v : V) (a : Addr) (d : Nat) (l : List Nat) (ts : List (List Nat)), vs = [.int (d : Int), .ref a, v] ∧ SqL K H a ((ofN l).map V.int) ∧ Dp K H v (dWords ts) ∧ (∀ t ∈ ts, t.length ≤ 400) ∧ ts.length ≤ 100 ∧
  ∀ H' r, Same H H' → H' r = some (.lst ((E94.leftAns d l ts).map V.int)) → Q (.ref r) H'
theorem ok_left {f : Addr} {fd : FuncData} {k : Nat} (hk : 32 ≤ k) (hS : base.NoSeer) (hD : base.NoDigits) (hT : P.given.tree = none) (F : Fun K "left" "left" s_left f fd) (T : EnvF K mg) (W : RwEnv K mg) (C : CsEnv K mg) (B : LbEnv K mg) (HL : Has K mg "what_is_left" s_what_is_left ["d", "letter_count", "p", "equations"]) : FnOk P w K mg base CX0 (k + 8) f fd ["d", "letters", "texts"] (sp_left K) := by
  obtain ⟨fR, fdR, ⟨FR, _⟩, bR, gR, GR⟩ := T.okRead (P := P) (w := w) (base := base) (k := k)
  obtain ⟨fA, fdA, ⟨FA, _⟩, bA, gA, GA⟩ := T.okAns (P := P) (w := w) (base := base) (k := k) hD
  obtain ⟨fF, fdF, FF, bF, gF⟩ := W.refw
  obtain ⟨fI, fdI, FI, bI, gI⟩ := T.inle
  obtain ⟨fH, fdH, FH, bH, gH⟩ := HL
  have GF : FnOk P w K mg base CX0 (k + 4) fF fdF ["d", "letters", "polynomials"] (sp_refusal_within K) := ok_refusal_within FF T.toEnvR W
  have GI : FnOk P w K mg base CX0 (k + 1) fI fdI ["polynomial", "letters"] (sp_in_letters K) := ok_in_letters FI T.mtup
  have GH : FnOk P w K mg base CX0 (k + 7) fH fdH ["d", "letter_count", "p", "equations"] (sp_what_is_left K) := ok_what_is_left hk hS hT FH C B
  refine F.ok sc_left (fun vs H Q E h => ?_) (fun cdv A outer s H vs Q E hr h => ?_)
  · obtain ⟨v, a, d, l, ts, rfl, _⟩ := h
    rfl
  · obtain ⟨v, aL, d, l, ts, rfl, hA, hW, h400, t100, q⟩ := h
    have hr1 : Room (k + 1) _ := hr.mono (by omega)
    have hr4 : Room (k + 4) _ := hr.mono (by omega)
    have hr5 : Room (k + 5) _ := hr.mono (by omega)
    have hr6 : Room (k + 6) _ := hr.mono (by omega)
    refine ⟨_, pss_cons (ps_setLc (i := 3) (own := [("text", 4)]) (g := gName 4) (tt := tYes) (by rfl) sc_left.nd rfl rfl (sw_true rfl rfl rfl (by decide +kernel)) (pi_list (pv 2)) (blkOk_by (own := [("text", 4)]) (N := ["d", "letters", "texts", "polynomials", "text", "refusal", "told", "polynomial", "rest"]) (sc := defScope s_left) (by decide +kernel)) (fun _ _ _ _ _ => pg_name (i := 4) sc_left.nd rfl (.inl rfl)) (fun _ _ _ _ _ => pts_nil) (fun _ _ _ _ _ => pe_call GR hr6 (by rfl) gR FR.kp bR .nil pass0 (pa_cons (pv 4) pa_nil)))
      (pss_cons (ps_set (i := 5) sc_left.nd rfl (.inl rfl) (pe_call GF hr4 (by rfl) gF FF.kp bF .nil pass0 (pa_cons (pv 0) (pa_cons (pv 1) (pa_cons (pv 3) pa_nil)))))
      (pss_cons (ps_if (pt_cmpR op_lt (pv 5) pe_int (nomark _)) (pss_one (ps_ret (pe_lst (pa_cons (pv 5) pa_nil)))) pss_nil)
      (pss_cons (ps_setLc (i := 6) (own := [("polynomial", 7)]) (g := gName 7) (tt := tYes) (by rfl) sc_left.nd rfl rfl (sw_true rfl rfl rfl (by decide +kernel)) (pi_list (pv 3)) (blkOk_by (own := [("polynomial", 7)]) (N := ["d", "letters", "texts", "polynomials", "text", "refusal", "told", "polynomial", "rest"]) (sc := defScope s_left) (by decide +kernel)) (fun _ _ _ _ _ => pg_name (i := 7) sc_left.nd rfl (.inl rfl)) (fun _ _ _ _ _ => pts_nil) (fun _ _ _ _ _ => pe_call GI hr1 (by rfl) gI FI.kp bI .nil pass0 (pa_cons (pv 7) (pa_cons (pv 1) pa_nil))))
      (pss_cons (ps_set (i := 8) sc_left.nd rfl (.inl rfl) (pe_call GH hr (by rfl) gH FH.kp bH .nil pass0 (pa_cons (pv 0) (pa_cons (pe_callB call_len_seq (by rfl) T.mlen PySem.boot_len (pa_cons (pv 1) pa_nil)) (pa_cons (pe_ix ix_list (pv 6) pe_int (fun _ _ => rfl)) (pa_cons (pe_slice sl_list (pv 6) (po_some pe_int) po_none) pa_nil))))))
      (pss_one (ps_ret (pe_call GA hr5 (by rfl) gA FA.kp bA .nil pass0 (pa_cons pe_int (pa_cons (pe_lst (pa_cons (pv 8) pa_nil)) (pa_cons (pv 1) pa_nil)))))))))), ?_⟩
    cases hW with
    | @lst aT xs _ hTs hTAll =>
    have lx : xs.length = ts.length := by rw [dpAll_len hTAll, List.length_map]
    refine ⟨_, rfl, aT, rfl, ⟨_, hTs⟩, fun D hDn => lc_list (K := K) (a := aT) (xs := xs) (fun i H2 => Same H H2 ∧ ∃ us, H2 D = some (.lst us) ∧ OTr K H2 D us ((ts.map E94.readPolyM).take i)) ⟨same_upd hDn, [], upd_same, trivial⟩ (fun i H2 _ h => h.1.seq hTs) ?_ ?_⟩
    · rintro i x H2 hx ⟨sm, us, hd, hO⟩
      obtain ⟨t, ht, hdp⟩ := dpAll_get hTAll hx
      obtain ⟨at_, rfl, hSt⟩ := dp_row (same_dp sm _ _ hdp)
      have hrt : (ts.map E94.readPolyM)[i]? = some (E94.readPolyM t) := by rw [List.getElem?_map, ht]; rfl
      refine ⟨rfl, ?_⟩
      refine ⟨_, rfl, at_, t, rfl, hSt, by have := h400 t (List.mem_of_getElem? ht); omega, fun H3 v3 s3 hpo => ?_⟩
      have hd3 := s3 _ _ hd
      refine ⟨_, hd3, ?_, fun b0 o0 e0 => ?_, us ++ [v3], upd_same, ?_⟩
      · rw [hO.len, List.length_take, List.length_map]
        exact Nat.lt_of_le_of_lt (show _ ≤ 100 by omega) (by decide)
      · rw [upd_ne (ne_of_none e0 hDn)]
        exact s3 _ _ (sm _ _ e0)
      · rw [take_more hrt]
        refine (OTr.mono s3 hO).upd hd3 |>.snoc (OAt.upd ?_ hd3)
        cases hro : E94.readPolyM t with
        | none => rw [hro] at hpo; exact hpo
        | some q0 =>
          rw [hro] at hpo
          obtain ⟨pp, vs, e, n, h1, h2⟩ := hpo
          exact ⟨pp, vs, e, (fun z => by rw [z, hd] at n; cases n), h1, h2⟩
    · rintro H2 ⟨s2, us, hd2, hO2⟩
      rw [lx, List.take_of_length_le (by rw [List.length_map]; exact Nat.le_refl _)] at hO2
      refine ⟨_, rfl, _, rfl, _, rfl, .ref D, aL, d, l, ts, rfl, s2.seq hA, .lst (SqL.of hd2) hO2.dp, fun H3 z s3 hRW => ?_⟩
      have s03 := s2.trans s3
      have gc := guard_cases d l ts fun qs => if d < E94.degM (qs.headD []) then [-6] else 1 :: [E94.leftM d l.length (E94.pickM l (qs.headD [])) (qs.tail.map (E94.pickM l))].flatMap fun p => E94.shownM (E94.textL l p)
      have fin : ∀ (H' : Hp) (r : Addr) (xs : List Int), E94.leftAns d l ts = xs → Same H H' → H' r = some (.lst (xs.map V.int)) → Q (.ref r) H' := fun H' r xs e sm h => q H' r sm (by rw [e]; exact h)
      unfold E94.leftAns at fin
      refine ⟨_, rfl, _, _, rfl, rfl, _, rfl, ?_⟩
      rcases hRW with ⟨neg, rfl⟩ | ⟨zero, qs, eqs, TD, hz⟩
      · rcases gc with ⟨_, gv⟩ | ⟨zero, _⟩
        · rw [decide_eq_true neg]
          refine iteT ⟨_, rfl, by show 1 ≤ sizeLine; decide, fun r nr => ?_⟩
          exact fin _ r _ gv (s03.trans (same_upd nr)) upd_same
        · omega
      · rcases gc with ⟨neg, _⟩ | ⟨_, qs2, eqs2, _, gv⟩
        · omega
        have e2 : qs2 = qs := by
          rw [eqs] at eqs2
          exact (List.map_inj_right (fun a b e => Option.some.inj e) |>.mp eqs2).symm
        subst e2
        match hqs : qs2, TD with
        | [], TD => exact absurd TD.one (by decide)
        | p :: es, TD =>
        have hz : z = if d < E94.degM p then -6 else 0 := hz
        by_cases e' : d < E94.degM p
        · rw [if_pos e'] at hz
          subst hz
          refine iteT ⟨_, rfl, by show 1 ≤ sizeLine; decide, fun r nr => ?_⟩
          exact fin _ r [-6] (Eq.trans gv (if_pos e')) (s03.trans (same_upd nr)) upd_same
        · rw [if_neg e'] at hz
          subst hz
          refine iteF ?_
          rw [eqs] at hO2
          have hO3 := hO2.mono s3
          have hd3 := s3 _ _ hd2
          have hAll3 : DpAll K H3 us ((p :: es).map dPoly) := by rw [← opts_polys]; exact hO3.dp
          have lu : us.length = (p :: es).length := by rw [dpAll_len hAll3, List.length_map]
          have pm : p ∈ p :: es := List.mem_cons_self ..
          have hA3 := s03.seq hA
          have four := TD.four
          refine ⟨_, rfl, D, rfl, ⟨_, SqL.of hd3⟩, fun D2 hD2 => lc_list (K := K) (a := D) (xs := us) (fun i H5 => Same H3 H5 ∧ ∃ ws, H5 D2 = some (.lst ws) ∧ OTr K H5 D2 ws ((((p :: es).map (E94.pickM l)).map some).take i)) ⟨same_upd hD2, [], upd_same, trivial⟩ (fun i H5 _ h => SqL.of (h.1 _ _ hd3)) ?_ ?_⟩
          · rintro i x H5 hx ⟨s5, ws, h5, hW5⟩
            obtain ⟨q0, hq0, hdp⟩ := dpAll_get hAll3 hx
            have qm : q0 ∈ p :: es := List.mem_of_getElem? hq0
            have hf := fits_of (TD.fits q0 qm)
            have hsum := pick_sum TD.lets (TD.good q0 qm) (TD.mine q0 qm)
            have hrt : (((p :: es).map (E94.pickM l)).map some)[i]? = some (some (E94.pickM l q0)) := by rw [List.getElem?_map, List.getElem?_map, hq0]; rfl
            refine ⟨rfl, ?_⟩
            refine ⟨_, rfl, _, rfl, x, aL, q0, l, rfl, same_dp s5 _ _ hdp, s5.seq hA3, TD.lets.three, TD.lets.one, TD.lets.hi, fun t ht => ⟨(TD.good q0 qm).good.len t ht, hsum t ht⟩, hf.2.1, fun H6 r6 ts6 s6 n6 h6 hT6 => ?_⟩
            have h56 := s6 _ _ h5
            refine ⟨_, h56, ?_, fun b0 o0 e0 => ?_, ws ++ [.ref r6], upd_same, ?_⟩
            · rw [hW5.len, List.length_take, List.length_map, List.length_map]
              exact Nat.lt_of_le_of_lt (show _ ≤ 4 by omega) (by decide)
            · rw [upd_ne (ne_of_none e0 hD2)]
              exact s6 _ _ (s5 _ _ e0)
            · rw [take_more hrt]
              exact (OTr.mono s6 hW5).upd h56 |>.snoc (OAt.upd ⟨r6, ts6, rfl, (fun z => by rw [z, h5] at n6; cases n6), h6, hT6⟩ h56)
          · rintro H5 ⟨s5, ws, h5, hW5⟩
            rw [lu, List.take_of_length_le (by rw [List.length_map, List.length_map]; exact Nat.le_refl _)] at hW5
            have hAll5 : DpAll K H5 ws (((p :: es).map (E94.pickM l)).map dPoly) := by rw [← opts_polys]; exact hW5.dp
            have s05 := s03.trans s5
            have hA5 := s05.seq hA
            have lenL : ((ofN l).map V.int).length = l.length := by rw [List.length_map, ofN_len]
            have LK := TD.lok e'
            cases hAll5 with
            | @cons v1 vr _ _ dv1 dvr =>
            refine ⟨_, rfl, _, rfl, aL, _, rfl, .inl hA5, ?_⟩
            rw [lenL]
            refine ⟨_, rfl, D2, _, 0, v1, rfl, rfl, SqL.of h5, atI_nat (j := 0) rfl, _, rfl, 1, rfl, D2, _, rfl, SqL.of h5, fun c nc => ?_⟩
            rw [cut1]
            have sc := same_upd (o := .lst ((v1 :: vr).drop 1)) nc
            refine ⟨v1, .ref c, l, d, E94.pickM l p, es.map (E94.pickM l), rfl, same_dp sc _ _ dv1, .lst (SqL.of upd_same) (same_dpAll sc _ _ dvr), LK, fun H6 r6 ts6 s6 n6 h6 hT6 => ?_⟩
            have s06 : Same H H6 := s05.trans (sc.trans s6)
            refine ⟨_, rfl, by show 1 ≤ sizeLine; decide, fun g ng => ?_⟩
            have sg := same_upd (o := .lst [V.ref r6]) ng
            have hlt := left_lt LK
            have h168 : ∀ p0 ∈ [E94.leftM d l.length (E94.pickM l p) (es.map (E94.pickM l))], p0.length ≤ 168 ∧ ∀ t ∈ p0, LT l t := fun p0 hp0 => by
              rw [List.mem_singleton.mp hp0]
              exact ⟨by omega, hlt.2⟩
            refine ⟨_, rfl, 1, .ref g, aL, [E94.leftM d l.length (E94.pickM l p) (es.map (E94.pickM l))], l, rfl, .lst (SqL.of upd_same) (.cons (.lst (SqL.of (sg _ _ h6)) (same_dpAll sg _ _ hT6)) .nil), (s06.trans sg).seq hA, ⟨TD.lets.three, TD.lets.hi⟩, h168, ?_, fun H7 r s7 h7 => ?_⟩
            · have := ans_len (z := 1) (l := l) (hs := [E94.leftM d l.length (E94.pickM l p) (es.map (E94.pickM l))]) ⟨TD.lets.three, TD.lets.hi⟩ h168 1 (Nat.le_refl 1)
              rw [List.take_of_length_le (by simp)] at this
              omega
            · exact fin _ r (ansL 1 l [E94.leftM d l.length (E94.pickM l p) (es.map (E94.pickM l))]) (Eq.trans gv (if_neg e')) ((s06.trans sg).trans s7) h7
end
end E94H
set_option Elab.async false
set_option linter.all false
set_option maxRecDepth 100000
set_option maxHeartbeats 2000000
namespace E94H
open PySem PySem.Spec PyProof.Rows L2
open PySem.W (Codec)
theorem wish_fn (K : PySem.W.Frag) (H : Hp) (xs : List V) (d : Int) (ls : List Int) (ts : List (List Int)) (d0 : 0 ≤ d) (l0 : ∀ n ∈ ls, 0 ≤ n) (t0 : ∀ t ∈ ts, t.length ≤ 400 ∧ ∀ n ∈ t, 0 ≤ n) (tl : ts.length ≤ 6)
    (hx : DwAll K H xs [.int d, .list (ls.map .int), .list (ts.map fun t => .list (t.map .int))]) : sp_left K xs H (fun v H' => Dw K H' v (.list ((PyAl04.left d ls ts).map .int))) fun _ _ _ => False := by
  cases hx with
  | cons h1 h =>
    cases h with
    | cons h2 h =>
      cases h with
      | cons h3 h =>
        cases h
        cases h1
        obtain ⟨a, rfl, ha⟩ := dw_row h2
        cases h3 with
        | @lst b us _ hs hall =>
          have ed : d = ((d.toNat : Nat) : Int) := by omega
          refine ⟨.ref b, a, d.toNat, ls.map Int.toNat, ts.map fun t => t.map Int.toNat, by rw [← ed], ?_, .lst hs (dw_words (fun t ht => (t0 t ht).2) hall), fun t ht => ?_, by rw [List.length_map]; omega, fun H' r _ hr => ?_⟩
          · rw [ofN_toNat l0]; exact ha
          · obtain ⟨u, hu, rfl⟩ := List.mem_map.mp ht
            rw [List.length_map]
            exact (t0 u hu).1
          · rw [← E94.py_left] at hr
            exact .lst (SqL.of hr) (dw_ints _)
theorem arg_fn (K : PySem.W.Frag) (H : Hp) (xs : List V) (d : Int) (ls : List Int) (ts : List (List Int)) (q : (Codec.inInt 0 4294967295 d && ((Codec.inLen 0 8 ls && ls.all (Codec.inInt 0 4294967295)) && ((Codec.inLen 0 6 ts && ts.all fun t => Codec.inLen 0 400 t && t.all (Codec.inInt 0 255)) && true))) = true)
    (hx : DwAll K H xs [.int d, .list (ls.map .int), .list (ts.map fun t => .list (t.map .int))]) : sp_left K xs H (fun v H' => Dw K H' v (.list ((PyAl04.left d ls ts).map .int))) fun _ _ _ => False := by
  rw [Bool.and_eq_true, Bool.and_eq_true, Bool.and_eq_true, Bool.and_eq_true, Bool.and_eq_true] at q
  refine wish_fn K H xs d ls ts (Codec.inInt_iff.mp q.1).1 (fun n hn => (Codec.inInt_iff.mp (List.all_eq_true.mp q.2.1.2 n hn)).1) (fun t ht => ?_) (Codec.inNat_iff.mp q.2.2.1.1).2 hx
  have z := List.all_eq_true.mp q.2.2.1.2 t ht
  rw [Bool.and_eq_true] at z
  exact ⟨(Codec.inNat_iff.mp z.1).2, fun n hn => (Codec.inInt_iff.mp (List.all_eq_true.mp z.2 n hn)).1⟩
theorem fin_mk {P : Program} {w : World} {K : PySem.W.Frag} {h : Heap} {mg : Str → Option Value} {fa : Addr} (KX : K.In h) (G : h.Ns mainGlobals mg) (hmg : mg "left" = some (.ref fa)) (tBsEnv : BsEnv K mg) (tEnvR : BsEnv K mg → EnvR K mg) (tEnvF : EnvR K mg → EnvF K mg) (tRwEnv : RwEnv K mg) (tCsEnv : BsEnv K mg → CsEnv K mg) (tLbEnv : LbEnv K mg) (t_what_is_left : Has K mg "what_is_left" s_what_is_left ["d", "letter_count", "p", "equations"])
    (tp : ∃ f fd, Fun K "left" "left" s_left f fd ∧ (∀ (s : Shared) (us : List Value), us.length = (["d", "letters", "texts"] : List Str).length → BindsTo s fd ⟨us, []⟩ ((["d", "letters", "texts"] : List Str).zip us)) ∧ mg "left" = some (.ref f)) (tree : P.given.tree = none) :
    ∃ fd : FuncData, (∀ (s : Shared) (us : List Value), us.length = (["d", "letters", "texts"] : List Str).length → BindsTo s fd ⟨us, []⟩ ((["d", "letters", "texts"] : List Str).zip us)) ∧ ∀ base : Heap, base.NoSeer → base.NoDigits → FnOk P w K mg base CX0 40 fa fd ["d", "letters", "texts"] (sp_left K) := by
  obtain ⟨f, fd, F, b, g⟩ := tp
  have e := hmg.symm.trans g
  cases e
  exact ⟨fd, b, fun base hS hD => ok_left (k := 32) (by decide) hS hD tree F (tEnvF (tEnvR tBsEnv)) tRwEnv (tCsEnv tBsEnv) tLbEnv t_what_is_left⟩
end E94H
open PySem PySem.W PyProof.Rows
set_option maxRecDepth 100000 in
set_option maxHeartbeats 0 in
theorem PySem.Challenge.cw_equationfollow_s03_left_holds : PySem.Challenge.rw_equationfollow_s03_left.Holds := by
  w_on; k_headS; (case hw => exact ⟨[.int 0, .list [], .list []], by decide +kernel, by decide +kernel⟩)
  k_fillS
  refine E94H.walk_rest (r := PySem.Challenge.rw_equationfollow_s03_left) (k := 40) (ps := ["d", "letters", "texts"]) (sp := E94H.sp_left) (by decide +kernel) (by decide +kernel) rfl rfl ⟨rfl, by decide, by decide⟩ (fun w h Y => PySem.W.kIn_of Y) ?F ?S
  case F =>
    intro w mg fa h Y KX G hmg
    refine E94H.fin_mk KX G hmg ?eBsEnv ?eEnvR ?eEnvF ?eRwEnv ?eCsEnv ?eLbEnv ?h_what_is_left ?tp rfl
    case eBsEnv =>
      refine @E94H.BsEnv.mk _ mg ?mult ?redu ?scal ?lowe ?smul ?prow ?tims ?cmul ?cdiv ?prof ?degr ?with0 ?firs ?clea ?mabs ?mzip ?mtup ?msum ?mrange ?msorted ?mrev ?menum ?mlen
      (case mult => (refine' E94H.has_mk (by assumption) (by assumption) ?a ?l ?c ?k (fun _ _ _ _ _ _ us hl => match us, hl with | [_, _, _], _ => rfl); (case a => k_is); (case l => k_is); (case c => k_is); (case k => k_is)))
      (case redu => (refine' E94H.has_mk (by assumption) (by assumption) ?a ?l ?c ?k (fun _ _ _ _ _ _ us hl => match us, hl with | [_], _ => rfl); (case a => k_is); (case l => k_is); (case c => k_is); (case k => k_is)))
      (case scal => (refine' E94H.has_mk (by assumption) (by assumption) ?a ?l ?c ?k (fun _ _ _ _ _ _ us hl => match us, hl with | [_], _ => rfl); (case a => k_is); (case l => k_is); (case c => k_is); (case k => k_is)))
      (case lowe => (refine' E94H.has_mk (by assumption) (by assumption) ?a ?l ?c ?k (fun _ _ _ _ _ _ us hl => match us, hl with | [_, _], _ => rfl); (case a => k_is); (case l => k_is); (case c => k_is); (case k => k_is)))
      (case smul => (refine' E94H.has_mk (by assumption) (by assumption) ?a ?l ?c ?k (fun _ _ _ _ _ _ us hl => match us, hl with | [_, _], _ => rfl); (case a => k_is); (case l => k_is); (case c => k_is); (case k => k_is)))
      (case prow => (refine' E94H.has_mk (by assumption) (by assumption) ?a ?l ?c ?k (fun _ _ _ _ _ _ us hl => match us, hl with | [_, _], _ => rfl); (case a => k_is); (case l => k_is); (case c => k_is); (case k => k_is)))
      (case tims => (refine' E94H.has_mk (by assumption) (by assumption) ?a ?l ?c ?k (fun _ _ _ _ _ _ us hl => match us, hl with | [_, _], _ => rfl); (case a => k_is); (case l => k_is); (case c => k_is); (case k => k_is)))
      (case cmul => (refine' E94H.has_mk (by assumption) (by assumption) ?a ?l ?c ?k (fun _ _ _ _ _ _ us hl => match us, hl with | [_, _], _ => rfl); (case a => k_is); (case l => k_is); (case c => k_is); (case k => k_is)))
      (case cdiv => (refine' E94H.has_mk (by assumption) (by assumption) ?a ?l ?c ?k (fun _ _ _ _ _ _ us hl => match us, hl with | [_, _], _ => rfl); (case a => k_is); (case l => k_is); (case c => k_is); (case k => k_is)))
      (case prof => (refine' E94H.has_mk (by assumption) (by assumption) ?a ?l ?c ?k (fun _ _ _ _ _ _ us hl => match us, hl with | [_], _ => rfl); (case a => k_is); (case l => k_is); (case c => k_is); (case k => k_is)))
      (case degr => (refine' E94H.has_mk (by assumption) (by assumption) ?a ?l ?c ?k (fun _ _ _ _ _ _ us hl => match us, hl with | [_], _ => rfl); (case a => k_is); (case l => k_is); (case c => k_is); (case k => k_is)))
      (case with0 => (refine' E94H.has_mk (by assumption) (by assumption) ?a ?l ?c ?k (fun _ _ _ _ _ _ us hl => match us, hl with | [_, _, _], _ => rfl); (case a => k_is); (case l => k_is); (case c => k_is); (case k => k_is)))
      (case firs => (refine' E94H.has_mk (by assumption) (by assumption) ?a ?l ?c ?k (fun _ _ _ _ _ _ us hl => match us, hl with | [_], _ => rfl); (case a => k_is); (case l => k_is); (case c => k_is); (case k => k_is)))
      (case clea => (refine' E94H.has_mk (by assumption) (by assumption) ?a ?l ?c ?k (fun _ _ _ _ _ _ us hl => match us, hl with | [_], _ => rfl); (case a => k_is); (case l => k_is); (case c => k_is); (case k => k_is)))
      (case mabs => (refine' E94H.none_mk (by assumption) (by assumption) ?a; (case a => k_is)))
      (case mzip => (refine' E94H.none_mk (by assumption) (by assumption) ?a; (case a => k_is)))
      (case mtup => (refine' E94H.none_mk (by assumption) (by assumption) ?a; (case a => k_is)))
      (case msum => (refine' E94H.none_mk (by assumption) (by assumption) ?a; (case a => k_is)))
      (case mrange => (refine' E94H.none_mk (by assumption) (by assumption) ?a; (case a => k_is)))
      (case msorted => (refine' E94H.none_mk (by assumption) (by assumption) ?a; (case a => k_is)))
      (case mrev => (refine' E94H.none_mk (by assumption) (by assumption) ?a; (case a => k_is)))
      (case menum => (refine' E94H.none_mk (by assumption) (by assumption) ?a; (case a => k_is)))
      (case mlen => (refine' E94H.none_mk (by assumption) (by assumption) ?a; (case a => k_is)))
    case eEnvR =>
      intro T0
      refine @E94H.EnvR.mk _ mg T0 ?piec ?rwho ?digi ?rnum ?rpow ?rpro ?rter ?sign ?rpol ?arel ?haso ?istl ?firr ?inle ?cZ ?cN ?cS ?cC ?cA ?cL ?cK ?cT ?cB ?cM ?cP ?n3 ?n25 ?n5 ?n12 ?n9 ?nb ?nm ?nt ?ne ?many
      (case piec => (refine' E94H.has_mk (by assumption) (by assumption) ?a ?l ?c ?k (fun _ _ _ _ _ _ us hl => match us, hl with | [_, _], _ => rfl); (case a => k_is); (case l => k_is); (case c => k_is); (case k => k_is)))
      (case rwho => (refine' E94H.has_mk (by assumption) (by assumption) ?a ?l ?c ?k (fun _ _ _ _ _ _ us hl => match us, hl with | [_], _ => rfl); (case a => k_is); (case l => k_is); (case c => k_is); (case k => k_is)))
      (case digi => (refine' E94H.has_mk (by assumption) (by assumption) ?a ?l ?c ?k (fun _ _ _ _ _ _ us hl => match us, hl with | [_], _ => rfl); (case a => k_is); (case l => k_is); (case c => k_is); (case k => k_is)))
      (case rnum => (refine' E94H.has_mk (by assumption) (by assumption) ?a ?l ?c ?k (fun _ _ _ _ _ _ us hl => match us, hl with | [_], _ => rfl); (case a => k_is); (case l => k_is); (case c => k_is); (case k => k_is)))
      (case rpow => (refine' E94H.has_mk (by assumption) (by assumption) ?a ?l ?c ?k (fun _ _ _ _ _ _ us hl => match us, hl with | [_], _ => rfl); (case a => k_is); (case l => k_is); (case c => k_is); (case k => k_is)))
      (case rpro => (refine' E94H.has_mk (by assumption) (by assumption) ?a ?l ?c ?k (fun _ _ _ _ _ _ us hl => match us, hl with | [_], _ => rfl); (case a => k_is); (case l => k_is); (case c => k_is); (case k => k_is)))
      (case rter => (refine' E94H.has_mk (by assumption) (by assumption) ?a ?l ?c ?k (fun _ _ _ _ _ _ us hl => match us, hl with | [_], _ => rfl); (case a => k_is); (case l => k_is); (case c => k_is); (case k => k_is)))
      (case sign => (refine' E94H.has_mk (by assumption) (by assumption) ?a ?l ?c ?k (fun _ _ _ _ _ _ us hl => match us, hl with | [_], _ => rfl); (case a => k_is); (case l => k_is); (case c => k_is); (case k => k_is)))
      (case rpol => (refine' E94H.has_mk (by assumption) (by assumption) ?a ?l ?c ?k (fun _ _ _ _ _ _ us hl => match us, hl with | [_], _ => rfl); (case a => k_is); (case l => k_is); (case c => k_is); (case k => k_is)))
      (case arel => (refine' E94H.has_mk (by assumption) (by assumption) ?a ?l ?c ?k (fun _ _ _ _ _ _ us hl => match us, hl with | [_], _ => rfl); (case a => k_is); (case l => k_is); (case c => k_is); (case k => k_is)))
      (case haso => (refine' E94H.has_mk (by assumption) (by assumption) ?a ?l ?c ?k (fun _ _ _ _ _ _ us hl => match us, hl with | [_, _], _ => rfl); (case a => k_is); (case l => k_is); (case c => k_is); (case k => k_is)))
      (case istl => (refine' E94H.has_mk (by assumption) (by assumption) ?a ?l ?c ?k (fun _ _ _ _ _ _ us hl => match us, hl with | [_], _ => rfl); (case a => k_is); (case l => k_is); (case c => k_is); (case k => k_is)))
      (case firr => (refine' E94H.has_mk (by assumption) (by assumption) ?a ?l ?c ?k (fun _ _ _ _ _ _ us hl => match us, hl with | [_, _, _, _], _ => rfl); (case a => k_is); (case l => k_is); (case c => k_is); (case k => k_is)))
      (case inle => (refine' E94H.has_mk (by assumption) (by assumption) ?a ?l ?c ?k (fun _ _ _ _ _ _ us hl => match us, hl with | [_, _], _ => rfl); (case a => k_is); (case l => k_is); (case c => k_is); (case k => k_is)))
      (case cZ => (refine' E94H.num_mk (by assumption) (by assumption) ?a; (case a => k_is)))
      (case cN => (refine' E94H.num_mk (by assumption) (by assumption) ?a; (case a => k_is)))
      (case cS => (refine' E94H.num_mk (by assumption) (by assumption) ?a; (case a => k_is)))
      (case cC => (refine' E94H.num_mk (by assumption) (by assumption) ?a; (case a => k_is)))
      (case cA => (refine' E94H.num_mk (by assumption) (by assumption) ?a; (case a => k_is)))
      (case cL => (refine' E94H.num_mk (by assumption) (by assumption) ?a; (case a => k_is)))
      (case cK => (refine' E94H.num_mk (by assumption) (by assumption) ?a; (case a => k_is)))
      (case cT => (refine' E94H.num_mk (by assumption) (by assumption) ?a; (case a => k_is)))
      (case cB => (refine' E94H.num_mk (by assumption) (by assumption) ?a; (case a => k_is)))
      (case cM => (refine' E94H.num_mk (by assumption) (by assumption) ?a; (case a => k_is)))
      (case cP => (refine' E94H.num_mk (by assumption) (by assumption) ?a; (case a => k_is)))
      (case n3 => (refine' E94H.num_mk (by assumption) (by assumption) ?a; (case a => k_is)))
      (case n25 => (refine' E94H.num_mk (by assumption) (by assumption) ?a; (case a => k_is)))
      (case n5 => (refine' E94H.num_mk (by assumption) (by assumption) ?a; (case a => k_is)))
      (case n12 => (refine' E94H.num_mk (by assumption) (by assumption) ?a; (case a => k_is)))
      (case n9 => (refine' E94H.num_mk (by assumption) (by assumption) ?a; (case a => k_is)))
      (case nb => (refine' E94H.num_mk (by assumption) (by assumption) ?a; (case a => k_is)))
      (case nm => (refine' E94H.num_mk (by assumption) (by assumption) ?a; (case a => k_is)))
      (case nt => (refine' E94H.num_mk (by assumption) (by assumption) ?a; (case a => k_is)))
      (case ne => (refine' E94H.num_mk (by assumption) (by assumption) ?a; (case a => k_is)))
      (case many => (refine' E94H.none_mk (by assumption) (by assumption) ?a; (case a => k_is)))
    case eEnvF =>
      intro T0
      refine @E94H.EnvF.mk _ mg T0 ?term ?numb ?prod ?poly ?writ ?answ ?gA ?mstr ?mord
      (case term => (refine' E94H.has_mk (by assumption) (by assumption) ?a ?l ?c ?k (fun _ _ _ _ _ _ us hl => match us, hl with | [_, _], _ => rfl); (case a => k_is); (case l => k_is); (case c => k_is); (case k => k_is)))
      (case numb => (refine' E94H.has_mk (by assumption) (by assumption) ?a ?l ?c ?k (fun _ _ _ _ _ _ us hl => match us, hl with | [_, _], _ => rfl); (case a => k_is); (case l => k_is); (case c => k_is); (case k => k_is)))
      (case prod => (refine' E94H.has_mk (by assumption) (by assumption) ?a ?l ?c ?k (fun _ _ _ _ _ _ us hl => match us, hl with | [_, _], _ => rfl); (case a => k_is); (case l => k_is); (case c => k_is); (case k => k_is)))
      (case poly => (refine' E94H.has_mk (by assumption) (by assumption) ?a ?l ?c ?k (fun _ _ _ _ _ _ us hl => match us, hl with | [_, _], _ => rfl); (case a => k_is); (case l => k_is); (case c => k_is); (case k => k_is)))
      (case writ => (refine' E94H.has_mk (by assumption) (by assumption) ?a ?l ?c ?k (fun _ _ _ _ _ _ us hl => match us, hl with | [_, _], _ => rfl); (case a => k_is); (case l => k_is); (case c => k_is); (case k => k_is)))
      (case answ => (refine' E94H.has_mk (by assumption) (by assumption) ?a ?l ?c ?k (fun _ _ _ _ _ _ us hl => match us, hl with | [_, _, _], _ => rfl); (case a => k_is); (case l => k_is); (case c => k_is); (case k => k_is)))
      (case gA => (refine' E94H.txt_mk KX G ?a; (case a => k_is)))
      (case mstr => (refine' E94H.none_mk (by assumption) (by assumption) ?a; (case a => k_is)))
      (case mord => (refine' E94H.none_mk (by assumption) (by assumption) ?a; (case a => k_is)))
    case eRwEnv =>
      refine @E94H.RwEnv.mk _ mg ?refw ?n6
      (case refw => (refine' E94H.has_mk (by assumption) (by assumption) ?a ?l ?c ?k (fun _ _ _ _ _ _ us hl => match us, hl with | [_, _, _], _ => rfl); (case a => k_is); (case l => k_is); (case c => k_is); (case k => k_is)))
      (case n6 => (refine' E94H.num_mk (by assumption) (by assumption) ?a; (case a => k_is)))
    case eCsEnv =>
      intro T0
      refine @E94H.CsEnv.mk _ mg T0 ?cols ?rowo ?rwit ?divi ?mlist
      (case cols => (refine' E94H.has_mk (by assumption) (by assumption) ?a ?l ?c ?k (fun _ _ _ _ _ _ us hl => match us, hl with | [_, _], _ => rfl); (case a => k_is); (case l => k_is); (case c => k_is); (case k => k_is)))
      (case rowo => (refine' E94H.has_mk (by assumption) (by assumption) ?a ?l ?c ?k (fun _ _ _ _ _ _ us hl => match us, hl with | [_, _, _], _ => rfl); (case a => k_is); (case l => k_is); (case c => k_is); (case k => k_is)))
      (case rwit => (refine' E94H.has_mk (by assumption) (by assumption) ?a ?l ?c ?k (fun _ _ _ _ _ _ us hl => match us, hl with | [_, _, _, _], _ => rfl); (case a => k_is); (case l => k_is); (case c => k_is); (case k => k_is)))
      (case divi => (refine' E94H.has_mk (by assumption) (by assumption) ?a ?l ?c ?k (fun _ _ _ _ _ _ us hl => match us, hl with | [_, _, _], _ => rfl); (case a => k_is); (case l => k_is); (case c => k_is); (case k => k_is)))
      (case mlist => (refine' E94H.none_mk (by assumption) (by assumption) ?a; (case a => k_is)))
    case eLbEnv =>
      refine @E94H.LbEnv.mk _ mg ?lefb
      (case lefb => (refine' E94H.has_mk (by assumption) (by assumption) ?a ?l ?c ?k (fun _ _ _ _ _ _ us hl => match us, hl with | [_, _, _], _ => rfl); (case a => k_is); (case l => k_is); (case c => k_is); (case k => k_is)))
    case h_what_is_left => (refine' E94H.has_mk (by assumption) (by assumption) ?a ?l ?c ?k (fun _ _ _ _ _ _ us hl => match us, hl with | [_, _, _, _], _ => rfl); (case a => k_is); (case l => k_is); (case c => k_is); (case k => k_is))
    case tp => (refine' E94H.top_mk (by assumption) (by assumption) ?a ?l ?c ?k (fun _ _ _ _ _ _ us hl => match us, hl with | [_, _, _], _ => rfl); (case a => k_is); (case l => k_is); (case c => k_is); (case k => k_is))
  case S =>
    intro K H xs a hO hwi hask hx
    exact E94H.arg_fn K H xs a.1 a.2.1 a.2.2.1 hwi hx
