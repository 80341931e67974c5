import PyProof.Rows.All
import Wide.All
import OpenK.AllK
import Wide.FinOn
import PyProof.EqAt
import PyProof.EqKinds
import PyProof.TupleCall
import Open.SpecLaws
import KE.OsGo
import HandS.ForMost
import HandS.ForSpec
import HandS.Walk
import HandS.More
import HandS.CallLocal
import HandS.DictTup
import HandS.TupLen
import HandS.TupAny
import PySem.Challenge.RW_keymaps_s01_answers
import HandS.SortKw
import HandS.SortInts
import KE.KMinKey
import PyProof.DictMoreH
set_option Elab.async false
set_option linter.all false
set_option maxRecDepth 100000
set_option maxHeartbeats 4000000
/-! The specification's own functions, said otherwise: what is bound, by the maps that count; no table. -/
namespace Km
open Ue09

/-- the table, from a table -/
def tabFrom (m : Maps) (t : List (Nat × Binding)) (ns : List Nat) : List (Nat × Binding) :=
  ns.foldl (fun t n => t ++ ((mapAt m n).bindings.filter fun b => !(t.any fun x => x.2.seq == b.seq)).map fun b => (n, b)) t
theorem table_eq (m : Maps) : table m = tabFrom m [] (counted m m.use) := rfl
theorem tabFrom_cons (m : Maps) (t : List (Nat × Binding)) (n : Nat) (ns : List Nat) :
    tabFrom m t (n :: ns) = tabFrom m (t ++ ((mapAt m n).bindings.filter fun b => !(t.any fun x => x.2.seq == b.seq)).map fun b => (n, b)) ns := rfl

theorem any_filter_new (P : Keys → Bool) (t : List (Nat × Binding)) (n : Nat) : ∀ l : List Binding,
    (t.any (fun x => P x.2.seq) || ((l.filter fun b => !(t.any fun x => x.2.seq == b.seq)).map fun b => (n, b)).any (fun x => P x.2.seq))
      = (t.any (fun x => P x.2.seq) || l.any (fun b => P b.seq))
  | [] => rfl
  | b :: l => by
    have ih := any_filter_new P t n l
    by_cases h : (t.any fun x => x.2.seq == b.seq) = true
    · rw [List.filter_cons_of_neg (by simp [h]), ih, List.any_cons]
      by_cases hp : P b.seq = true
      · have : (t.any fun x => P x.2.seq) = true := by
          obtain ⟨x, hx, e⟩ := List.any_eq_true.mp h
          exact List.any_eq_true.mpr ⟨x, hx, by rw [eq_of_beq e]; exact hp⟩
        simp [this]
      · simp [hp]
    · rw [List.filter_cons_of_pos (by simp [h]), List.map_cons, List.any_cons, List.any_cons]
      generalize (t.any fun x => P x.2.seq) = a at *
      generalize P b.seq = c at *
      cases a <;> cases c <;> simp_all

theorem tabFrom_any (m : Maps) (P : Keys → Bool) : ∀ (ns : List Nat) (t : List (Nat × Binding)),
    (tabFrom m t ns).any (fun x => P x.2.seq) = (t.any (fun x => P x.2.seq) || ns.any fun n => (mapAt m n).bindings.any fun b => P b.seq)
  | [], t => by simp [tabFrom]
  | n :: ns, t => by
    rw [tabFrom_cons, tabFrom_any m P ns, List.any_append, any_filter_new, List.any_cons, Bool.or_assoc]
theorem table_any (m : Maps) (P : Keys → Bool) : (table m).any (fun x => P x.2.seq) = (counted m m.use).any fun n => (mapAt m n).bindings.any fun b => P b.seq := by
  rw [table_eq, tabFrom_any]; rfl

theorem find_filter_new (t : List (Nat × Binding)) (n : Nat) (s : Keys) (hn : (t.find? fun x => x.2.seq == s) = none) : ∀ l : List Binding,
    ((l.filter fun b => !(t.any fun x => x.2.seq == b.seq)).map fun b => (n, b)).find? (fun x => x.2.seq == s)
      = (l.find? fun b => b.seq == s).map fun b => (n, b)
  | [] => rfl
  | b :: l => by
    have ih := find_filter_new t n s hn l
    by_cases hb : (b.seq == s) = true
    · have h : (t.any fun x => x.2.seq == b.seq) = false := by
        rw [Bool.eq_false_iff]
        intro h
        obtain ⟨x, hx, e⟩ := List.any_eq_true.mp h
        have := List.find?_eq_none.mp hn x hx
        rw [eq_of_beq e] at this
        exact this hb
      rw [List.filter_cons_of_pos (by simp [h]), List.map_cons, List.find?_cons_of_pos (by exact hb), List.find?_cons_of_pos (by exact hb)]
      rfl
    · rw [List.find?_cons_of_neg (by exact hb), ← ih]
      by_cases h : (t.any fun x => x.2.seq == b.seq) = true
      · rw [List.filter_cons_of_neg (by simp [h])]
      · rw [List.filter_cons_of_pos (by simp [h]), List.map_cons, List.find?_cons_of_neg (by exact hb)]

/-- what a map has for a sequence -/
def has (m : Maps) (n : Nat) (s : Keys) : Option Binding := (mapAt m n).bindings.find? fun b => b.seq == s
theorem tabFrom_find (m : Maps) (s : Keys) : ∀ (ns : List Nat) (t : List (Nat × Binding)),
    (tabFrom m t ns).find? (fun x => x.2.seq == s) = (t.find? fun x => x.2.seq == s).or (ns.findSome? fun n => (has m n s).map fun b => (n, b))
  | [], t => by simp [tabFrom]
  | n :: ns, t => by
    rw [tabFrom_cons, tabFrom_find m s ns, List.find?_append]
    cases ht : (t.find? fun x => x.2.seq == s) with
    | some x => simp
    | none =>
      rw [find_filter_new t n s ht]
      show ((none : Option (Nat × Binding)).or ((has m n s).map fun b => (n, b))).or _ = (none : Option (Nat × Binding)).or _
      rw [List.findSome?_cons]
      cases h : (has m n s) <;> simp
theorem bound_eq (m : Maps) (s : Keys) : bound m s = (counted m m.use).findSome? fun n => (has m n s).map fun b => (n, b) := by
  rw [bound, table_eq, tabFrom_find]; rfl
theorem goesOn_eq (m : Maps) (p : Keys) : goesOn m p = (counted m m.use).any fun n => (mapAt m n).bindings.any fun b => isHead p b.seq := by
  rw [goesOn, table_any m (isHead p)]

/-! ### what the maps may hold -/
structure OkB (b : Binding) : Prop where
  seq : seqOk b.seq = true
  tgt : targetOk b.target = true
structure OkM (m : Maps) : Prop where
  len : m.all.length = 8
  all : ∀ n b, b ∈ (mapAt m n).bindings → OkB b
  nd : ∀ n, ((mapAt m n).bindings.map (·.seq)).Nodup
  many : ∀ n, (mapAt m n).bindings.length ≤ 20
  use : ∀ n ∈ m.use, n < 8
  use1 : 1 ≤ m.use.length
  use6 : m.use.length ≤ 6

theorem seqOk_len {s : Keys} (h : seqOk s = true) : 1 ≤ s.length ∧ s.length ≤ 4 := by
  simp [seqOk] at h; omega
theorem seqOk_keys {s : Keys} (h : seqOk s = true) : ∀ k ∈ s, k ≤ 255 := by
  simp [seqOk, isKeys] at h
  exact h.2.2
theorem isHead_iff {p s : Keys} : isHead p s = true ↔ p.length < s.length ∧ s.take p.length = p := by
  simp [isHead]
theorem mem_counted (m : Maps) : ∀ (l : List Nat) (n : Nat), n ∈ counted m l → n ∈ l
  | [], n, h => by simp [counted] at h
  | a :: l, n, h => by
    simp only [counted] at h
    split at h
    · simp at h; simp [h]
    · rcases List.mem_cons.mp h with e | h
      · simp [e]
      · exact List.mem_cons_of_mem _ (mem_counted m l n h)
theorem bound_mem {m : Maps} {s : Keys} {n : Nat} {b : Binding} (h : bound m s = some (n, b)) : n ∈ counted m m.use ∧ b ∈ (mapAt m n).bindings ∧ b.seq = s ∧ has m n s = some b := by
  rw [bound_eq] at h
  obtain ⟨k, hk, e⟩ := List.exists_of_findSome?_eq_some h
  cases e2 : has m k s with
  | none => rw [e2] at e; cases e
  | some c =>
    rw [e2] at e
    cases e
    have := List.mem_of_find?_eq_some e2
    have h3 := List.find?_some e2
    exact ⟨hk, this, eq_of_beq h3, e2⟩
theorem goesOn_short {m : Maps} (ok : OkM m) {p : Keys} (h : goesOn m p = true) : p.length ≤ 3 := by
  rw [goesOn_eq] at h
  obtain ⟨n, _, h⟩ := List.any_eq_true.mp h
  obtain ⟨b, hb, h⟩ := List.any_eq_true.mp h
  have := seqOk_len (ok.all n b hb).seq
  have := (isHead_iff.mp h).1
  omega
theorem longest_mem {m : Maps} {p : Keys} {b : Binding} (h : longest m p = some b) : ∃ i, i < p.length ∧ b.seq = p.take (i + 1) ∧ ∃ n, bound m (p.take (i + 1)) = some (n, b) := by
  unfold longest at h
  cases e : ((List.range p.length).reverse.findSome? fun i => bound m (p.take (i + 1))) with
  | none => rw [e] at h; cases h
  | some x =>
    rw [e] at h
    cases h
    obtain ⟨i, hi, e2⟩ := List.exists_of_findSome?_eq_some e
    simp at hi
    obtain ⟨n, b⟩ := x
    exact ⟨i, hi, (bound_mem e2).2.2.1, n, e2⟩

/-! ### the steps come to an end: the specification's numbers are enough -/
/-- a state of the stream between two keys -/
structure Ok (r : Run) : Prop where
  maps : OkM r.maps
  short : r.open_.length ≤ 3
/-- what falls -/
def mu (r : Run) : Nat := 4 * (r.queue.length + r.open_.length + 6 * r.left) - r.open_.length

def oneKey (r : Run) (k : Nat) (q : Keys) : Run := { r with queue := q, open_ := r.open_ ++ [k] }

/-- only the maps in use change, the rest of the maps stays -/
theorem used_all (m : Maps) (t : Target) : (used m t).all = m.all := by
  unfold used
  split
  · split <;> rfl
  · split <;> rfl
  · rfl
  · rfl
theorem mapAt_congr {m m' : Maps} (h : m'.all = m.all) (n : Nat) : mapAt m' n = mapAt m n := by
  unfold mapAt; rw [h]
theorem used_ok {m : Maps} (ok : OkM m) {t : Target} (ht : targetOk t = true) : OkM (used m t) := by
  have e := used_all m t
  refine ⟨by rw [e]; exact ok.len, fun n b => by rw [mapAt_congr e]; exact ok.all n b, fun n => by rw [mapAt_congr e]; exact ok.nd n, fun n => by rw [mapAt_congr e]; exact ok.many n, ?_, ?_, ?_⟩
  all_goals unfold used
  all_goals have h1 := ok.use
  all_goals have h2 := ok.use1
  all_goals have h3 := ok.use6
  · split
    · split
      · exact h1
      · intro n hn
        rcases List.mem_cons.mp hn with e | hn
        · subst e; simpa [targetOk] using ht
        · exact h1 n hn
    · split
      · rename_i e; intro n hn; exact h1 n (by rw [e]; exact List.mem_cons_of_mem _ hn)
      · exact h1
    · intro n hn
      rcases List.mem_cons.mp hn with e | hn
      · subst e; simpa [targetOk] using ht
      · exact h1 n (List.mem_of_mem_drop hn)
    · exact h1
  · split
    · split
      · exact h2
      · simp
    · split <;> simp_all
    · simp
    · exact h2
  · split
    · split
      · exact h3
      · simp [MAPS] at *; omega
    · split
      · rename_i e; rw [e] at h3; simp at h3 ⊢; omega
      · exact h3
    · simp; omega
    · exact h3

theorem emit_fields (r : Run) (a b c : Nat) : (emit r a b c).maps = r.maps ∧ (emit r a b c).queue = r.queue ∧ (emit r a b c).open_ = r.open_ ∧ (emit r a b c).left = r.left := ⟨rfl, rfl, rfl, rfl⟩
theorem emits_fields : ∀ (l : Keys) (r : Run), (l.foldl (fun s j => emit s 0 j 0) r).maps = r.maps ∧ (l.foldl (fun s j => emit s 0 j 0) r).queue = r.queue ∧ (l.foldl (fun s j => emit s 0 j 0) r).open_ = r.open_ ∧ (l.foldl (fun s j => emit s 0 j 0) r).left = r.left
  | [], r => ⟨rfl, rfl, rfl, rfl⟩
  | k :: l, r => by
    obtain ⟨a, b, c, d⟩ := emits_fields l (emit r 0 k 0)
    exact ⟨a, b, c, d⟩

/-- a binding done: what becomes of the counts -/
theorem doing_fields {r : Run} {b : Binding} (ok : OkM r.maps) (hb : OkB b) : OkM (doing r b).maps ∧ (doing r b).maps.all = r.maps.all ∧ (doing r b).open_ = r.open_ ∧ (doing r b).left ≤ r.left ∧
    (doing r b).queue.length + 6 * (doing r b).left ≤ r.queue.length + 6 * r.left := by
  unfold doing
  split
  · exact ⟨ok, rfl, rfl, Nat.le_refl _, Nat.le_refl _⟩
  · rename_i l hl
    split
    · rename_i e
      refine ⟨ok, rfl, rfl, Nat.le_refl _, ?_⟩
      show 0 + 6 * r.left ≤ _
      omega
    · have h := hb.tgt
      rw [hl] at h
      simp [targetOk] at h
      refine ⟨ok, rfl, rfl, Nat.sub_le _ _, ?_⟩
      show (l ++ r.queue).length + 6 * (r.left - 1) ≤ _
      rw [List.length_append]
      omega
  · rename_i l _
    split
    · exact ⟨ok, rfl, rfl, Nat.le_refl _, Nat.le_refl _⟩
    · rename_i k m _
      obtain ⟨a, b2, c, d⟩ := emits_fields m (emit r 0 k b.seq.length)
      rw [a, b2, c, d]
      exact ⟨ok, rfl, rfl, Nat.le_refl _, Nat.le_refl _⟩
  · exact ⟨ok, rfl, rfl, Nat.le_refl _, Nat.le_refl _⟩
  · refine ⟨used_ok ok hb.tgt, used_all _ _, rfl, Nat.le_refl _, Nat.le_refl _⟩

theorem settle_fields {r : Run} (ok : OkM r.maps) (h : r.open_ ≠ []) : OkM (settle r).maps ∧ (settle r).maps.all = r.maps.all ∧ (settle r).open_ = [] ∧ (settle r).left ≤ r.left ∧
    (settle r).queue.length + 6 * (settle r).left + 1 ≤ r.queue.length + r.open_.length + 6 * r.left := by
  have hp : 0 < r.open_.length := List.length_pos_iff.mpr h
  unfold settle
  split
  · rename_i b hb
    obtain ⟨i, hi, e, n, hbd⟩ := longest_mem hb
    have hmem := bound_mem hbd
    have okb := ok.all n b hmem.2.1
    have hl := seqOk_len okb.seq
    obtain ⟨h1, h2, h3, h4, h5⟩ := doing_fields (r := { r with open_ := [], queue := r.open_.drop b.seq.length ++ r.queue }) (b := b) ok okb
    refine ⟨h1, h2, h3, h4, ?_⟩
    have h6 : (r.open_.drop b.seq.length ++ r.queue).length = r.open_.length - b.seq.length + r.queue.length := by simp
    have h7 : ({ r with open_ := [], queue := r.open_.drop b.seq.length ++ r.queue } : Run).queue.length = r.open_.length - b.seq.length + r.queue.length := h6
    have h8 : ({ r with open_ := [], queue := r.open_.drop b.seq.length ++ r.queue } : Run).left = r.left := rfl
    rw [h7, h8] at h5
    omega
  · split
    · rename_i e; exact absurd e h
    · rename_i k l e
      unfold asIs
      split
      · refine ⟨ok, rfl, rfl, Nat.le_refl _, ?_⟩
        show (l ++ r.queue).length + 6 * r.left + 1 ≤ _
        rw [e, List.length_append, List.length_cons]; omega
      · refine ⟨ok, rfl, rfl, Nat.le_refl _, ?_⟩
        show (l ++ r.queue).length + 6 * r.left + 1 ≤ _
        rw [e, List.length_append, List.length_cons]; omega

theorem waits_short {m : Maps} (ok : OkM m) {p : Keys} (h : waits m p = true) : p.length ≤ 3 := by
  simp [waits] at h
  exact goesOn_short ok h.1

/-- one key more, waited -/
theorem wait_ok {r : Run} (ok : Ok r) {k : Nat} {q : Keys} (e : r.queue = k :: q) (h : waits r.maps (r.open_ ++ [k]) = true) : Ok (oneKey r k q) ∧ mu (oneKey r k q) < mu r := by
  have hs := waits_short ok.maps h
  refine ⟨⟨ok.maps, hs⟩, ?_⟩
  have := ok.short
  simp [mu, oneKey, e] at *
  omega
/-- one key more, settled -/
theorem settle_ok {r : Run} (ok : Ok r) {k : Nat} {q : Keys} (e : r.queue = k :: q) : Ok (settle (oneKey r k q)) ∧ mu (settle (oneKey r k q)) < mu r := by
  have hne : (oneKey r k q).open_ ≠ [] := by simp [oneKey]
  obtain ⟨h1, _, h3, h4, h5⟩ := settle_fields (r := oneKey r k q) ok.maps hne
  refine ⟨⟨h1, by rw [h3]; simp⟩, ?_⟩
  have := ok.short
  have h6 : (oneKey r k q).queue.length = q.length := rfl
  have h7 : (oneKey r k q).open_.length = r.open_.length + 1 := by simp [oneKey]
  have h8 : (oneKey r k q).left = r.left := rfl
  rw [h6, h7, h8] at h5
  simp only [mu, h3, e, List.length_cons, List.length_nil]
  omega

theorem go_nil (f : Nat) {r : Run} (e : r.queue = []) : go f r = r := by
  cases f with
  | zero => rfl
  | succ f => simp only [go, e]
theorem go_cons (f : Nat) {r : Run} {k : Nat} {q : Keys} (e : r.queue = k :: q) : go (f + 1) r = if waits r.maps (r.open_ ++ [k]) = true then go f (oneKey r k q) else go f (settle (oneKey r k q)) := by
  simp only [go, e]; rfl
/-- more steps than there can be: it does not matter how many -/
theorem go_enough : ∀ (f g : Nat) {r : Run}, Ok r → mu r ≤ f → mu r ≤ g → go f r = go g r
  | f, g, r, ok, hf, hg => by
    cases e : r.queue with
    | nil => rw [go_nil f e, go_nil g e]
    | cons k q =>
      have hpos : 0 < mu r := by
        by_cases h : waits r.maps (r.open_ ++ [k]) = true
        · have := (wait_ok ok e h).2; omega
        · have := (settle_ok ok e).2; omega
      obtain ⟨f, rfl⟩ : ∃ a, f = a + 1 := ⟨f - 1, by omega⟩
      obtain ⟨g, rfl⟩ : ∃ a, g = a + 1 := ⟨g - 1, by omega⟩
      rw [go_cons f e, go_cons g e]
      by_cases h : waits r.maps (r.open_ ++ [k]) = true
      · have hw := wait_ok ok e h
        rw [if_pos h, if_pos h]
        exact go_enough f g hw.1 (by omega) (by omega)
      · have hw := settle_ok ok e
        rw [if_neg h, if_neg h]
        exact go_enough f g hw.1 (by omega) (by omega)
/-- keys gone through, to the end -/
def goA (r : Run) : Run := go (mu r) r
theorem go_goA {f : Nat} {r : Run} (ok : Ok r) (h : mu r ≤ f) : go f r = goA r := go_enough f (mu r) ok h (Nat.le_refl _)
theorem goA_nil {r : Run} (e : r.queue = []) : goA r = r := go_nil _ e
theorem goA_wait {r : Run} (ok : Ok r) {k : Nat} {q : Keys} (e : r.queue = k :: q) (h : waits r.maps (r.open_ ++ [k]) = true) : goA r = goA (oneKey r k q) := by
  have hw := wait_ok ok e h
  obtain ⟨f, hf⟩ : ∃ a, mu r = a + 1 := ⟨mu r - 1, by omega⟩
  rw [goA, hf, go_cons f e, if_pos h, go_goA hw.1 (by omega)]
theorem goA_settle {r : Run} (ok : Ok r) {k : Nat} {q : Keys} (e : r.queue = k :: q) (h : ¬ waits r.maps (r.open_ ++ [k]) = true) : goA r = goA (settle (oneKey r k q)) := by
  have hw := settle_ok ok e
  obtain ⟨f, hf⟩ : ∃ a, mu r = a + 1 := ⟨mu r - 1, by omega⟩
  rw [goA, hf, go_cons f e, if_neg h, go_goA hw.1 (by omega)]
/-- what holds of every step holds at the end -/
theorem goA_ind {P : Run → Prop} (hw : ∀ r k q, Ok r → P r → r.queue = k :: q → P (oneKey r k q)) (hs : ∀ r, OkM r.maps → r.open_ ≠ [] → P r → P (settle r)) :
    ∀ (n : Nat) (r : Run), mu r ≤ n → Ok r → P r → P (goA r) ∧ Ok (goA r) ∧ (goA r).queue = []
  | n, r, hn, ok, hp => by
    cases e : r.queue with
    | nil => rw [goA_nil e]; exact ⟨hp, ok, e⟩
    | cons k q =>
      have h1 := hw r k q ok hp e
      by_cases h : waits r.maps (r.open_ ++ [k]) = true
      · have hh := wait_ok ok e h
        rw [goA_wait ok e h]
        cases n with
        | zero => omega
        | succ n => exact goA_ind hw hs n _ (by omega) hh.1 h1
      · have hh := settle_ok ok e
        rw [goA_settle ok e h]
        cases n with
        | zero => omega
        | succ n => exact goA_ind hw hs n _ (by omega) hh.1 (hs _ ok.maps (by simp [oneKey]) h1)
/-- all that is left to come, and what may still be put, never grows -/
def load (r : Run) : Nat := r.queue.length + r.open_.length + 6 * r.left
theorem goA_facts {r : Run} (ok : Ok r) : Ok (goA r) ∧ (goA r).queue = [] ∧ load (goA r) ≤ load r ∧ (goA r).maps.all = r.maps.all ∧ (goA r).left ≤ r.left := by
  have h := goA_ind (P := fun s => load s ≤ load r ∧ s.maps.all = r.maps.all ∧ s.left ≤ r.left) (fun s k q _ hp e => ?_) (fun s okm hne hp => ?_) (mu r) r (Nat.le_refl _) ok ⟨Nat.le_refl _, rfl, Nat.le_refl _⟩
  · exact ⟨h.2.1, h.2.2, h.1⟩
  · refine ⟨?_, hp.2⟩
    have := hp.1
    simp [load, oneKey, e] at *
    omega
  · obtain ⟨_, h2, h3, h4, h5⟩ := settle_fields okm hne
    refine ⟨?_, h2.trans hp.2.1, by have := hp.2.2; omega⟩
    have := hp.1
    simp only [load, h3, List.length_nil] at *
    omega
theorem mu_load {r : Run} (_ok : Ok r) : mu r ≤ 4 * load r := by
  simp only [mu, load]; omega

/-! waited long enough -/
theorem flush_enough : ∀ (f g : Nat) {r : Run}, Ok r → load r ≤ 900 → load r ≤ f → load r ≤ g → flush f r = flush g r
  | f, g, r, ok, h9, hf, hg => by
    by_cases e : r.open_.isEmpty = true
    · cases f <;> cases g <;> simp [flush, e]
    · have hne : r.open_ ≠ [] := by simpa using e
      have hp : 0 < r.open_.length := List.length_pos_iff.mpr hne
      obtain ⟨f, rfl⟩ : ∃ a, f = a + 1 := ⟨f - 1, by have : load r ≤ f := hf; simp only [load] at this; omega⟩
      obtain ⟨g, rfl⟩ : ∃ a, g = a + 1 := ⟨g - 1, by have : load r ≤ g := hg; simp only [load] at this; omega⟩
      obtain ⟨h1, h2, h3, h4, h5⟩ := settle_fields ok.maps hne
      have ok2 : Ok (settle r) := ⟨h1, by rw [h3]; simp⟩
      have hl : load (settle r) < load r := by simp only [load, h3, List.length_nil]; omega
      have e2 : go STEPS (settle r) = goA (settle r) := go_goA ok2 (by have := mu_load ok2; simp only [STEPS]; omega)
      obtain ⟨g1, g2, g3, g4, _⟩ := goA_facts ok2
      simp only [flush, e, e2]
      exact flush_enough f g g1 (by omega) (by omega) (by omega)
def flushA (r : Run) : Run := flush (load r) r
theorem flushA_nil {r : Run} (e : r.open_ = []) : flushA r = r := by
  unfold flushA
  cases load r with
  | zero => rfl
  | succ n => simp [flush, e]
theorem flush_flushA {f : Nat} {r : Run} (ok : Ok r) (h9 : load r ≤ 900) (h : load r ≤ f) : flush f r = flushA r := flush_enough f (load r) ok h9 h (Nat.le_refl _)
theorem settle_load {r : Run} (ok : Ok r) (e : r.open_ ≠ []) : Ok (settle r) ∧ load (settle r) < load r ∧ (settle r).maps.all = r.maps.all := by
  obtain ⟨h1, h2, h3, h4, h5⟩ := settle_fields ok.maps e
  exact ⟨⟨h1, by rw [h3]; simp⟩, by simp only [load, h3, List.length_nil]; omega, h2⟩
theorem flushA_cons {r : Run} (ok : Ok r) (h9 : load r ≤ 900) (e : r.open_ ≠ []) : flushA r = flushA (goA (settle r)) := by
  have hp : 0 < r.open_.length := List.length_pos_iff.mpr e
  obtain ⟨f, hf⟩ : ∃ a, load r = a + 1 := ⟨load r - 1, by simp only [load]; omega⟩
  have e' : r.open_.isEmpty = false := by simpa using e
  obtain ⟨ok2, hl, _⟩ := settle_load ok e
  have e2 : go STEPS (settle r) = goA (settle r) := go_goA ok2 (by have := mu_load ok2; simp only [STEPS]; omega)
  obtain ⟨g1, g2, g3, g4, _⟩ := goA_facts ok2
  conv => lhs; unfold flushA; rw [hf]
  simp only [flush, e', e2]
  exact flush_flushA g1 (by omega) (by omega)
theorem flushA_facts : ∀ (n : Nat) {r : Run}, load r ≤ n → Ok r → load r ≤ 900 → r.queue = [] → Ok (flushA r) ∧ (flushA r).queue = [] ∧ (flushA r).open_ = [] ∧ load (flushA r) ≤ load r ∧ (flushA r).maps.all = r.maps.all
  | n, r, hn, ok, h9, hq => by
    by_cases e : r.open_ = []
    · rw [flushA_nil e]; exact ⟨ok, hq, e, Nat.le_refl _, rfl⟩
    · obtain ⟨ok2, hl, ha⟩ := settle_load ok e
      obtain ⟨g1, g2, g3, g4, _⟩ := goA_facts ok2
      rw [flushA_cons ok h9 e]
      cases n with
      | zero => omega
      | succ n =>
        obtain ⟨a, b, c, d, x⟩ := flushA_facts n (r := goA (settle r)) (by omega) g1 (by omega) g2
        exact ⟨a, b, c, by omega, x.trans (g4.trans ha)⟩

end Km

namespace Km
open Ue09 (Maps Map_ Binding mapAt emit asIs doing settle countOf isDigit)
/-! ### digits and events along the way -/
structure Dig (d : List Nat) : Prop where
  len : d.length ≤ 4
  all : ∀ k ∈ d, 48 ≤ k ∧ k ≤ 57
def many : Nat := 4000000
theorem used_len1 {m : Maps} {t : Ue09.Target} (h : 1 ≤ m.use.length) : 1 ≤ (Ue09.used m t).use.length := by
  unfold Ue09.used
  split
  · split
    · exact h
    · simp
  · split <;> simp_all
  · simp
  · exact h
theorem dig_nil : Dig [] := ⟨Nat.zero_le _, fun _ h => by cases h⟩
theorem asIs_dig {r : Ue09.Run} {k : Nat} (h : Dig r.digits) : Dig (asIs r k).digits := by
  unfold asIs
  split
  · rename_i e
    simp only [isDigit, Bool.and_eq_true, decide_eq_true_eq, Bool.or_eq_true, beq_iff_eq] at e
    refine ⟨by show (r.digits ++ [k]).length ≤ 4; rw [List.length_append, List.length_singleton]; omega, fun j hj => ?_⟩
    rcases List.mem_append.mp hj with hj | hj
    · exact h.all j hj
    · have : j = k := by simpa using hj
      subst this
      rcases e.2 with e2 | e2 <;> omega
  · exact dig_nil
theorem emits_dig : ∀ (l : List Nat) {r : Ue09.Run}, Dig r.digits → Dig (l.foldl (fun s j => emit s 0 j 0) r).digits
  | [], _, h => h
  | k :: l, r, _ => emits_dig l (r := emit r 0 k 0) dig_nil
theorem doing_dig {r : Ue09.Run} {b : Binding} (h : Dig r.digits) : Dig (doing r b).digits := by
  unfold doing
  split
  · exact dig_nil
  · split
    · exact dig_nil
    · exact h
  · split
    · exact dig_nil
    · exact emits_dig _ dig_nil
  · exact dig_nil
  · exact dig_nil
theorem settle_dig {r : Ue09.Run} (h : Dig r.digits) : Dig (settle r).digits := by
  unfold settle
  split
  · exact doing_dig h
  · split
    · exact h
    · exact asIs_dig h
theorem asIs_ev {r : Ue09.Run} {k : Nat} : (asIs r k).events.length ≤ r.events.length + 1 := by
  unfold asIs
  split
  · exact Nat.le_succ _
  · show (r.events ++ [_]).length ≤ _
    rw [List.length_append]; simp
theorem emits_ev : ∀ (l : List Nat) (r : Ue09.Run), (l.foldl (fun s j => emit s 0 j 0) r).events.length = r.events.length + l.length
  | [], r => rfl
  | k :: l, r => by
    rw [List.foldl_cons, emits_ev l]
    show (r.events ++ [_]).length + _ = _
    rw [List.length_append, List.length_cons, List.length_cons, List.length_nil]; omega
theorem emit_ev (r : Ue09.Run) (a b c : Nat) : (emit r a b c).events.length = r.events.length + 1 := by
  show (r.events ++ [_]).length = _
  rw [List.length_append]; rfl
theorem doing_ev {r : Ue09.Run} {b : Binding} (hb : OkB b) : (doing r b).events.length ≤ r.events.length + 6 := by
  unfold doing
  split
  · rw [emit_ev]; omega
  · split
    · show (emit r 2 0 b.seq.length).events.length ≤ _
      rw [emit_ev]; omega
    · show r.events.length ≤ _; omega
  · rename_i l e
    have h := hb.tgt
    rw [e] at h
    simp [Ue09.targetOk] at h
    split
    · rw [emit_ev]; omega
    · rw [emits_ev, emit_ev]
      rename_i k m _
      have := h.1
      simp at this
      omega
  · rw [emit_ev]; omega
  · show (r.events ++ [_]).length ≤ _
    rw [List.length_append, List.length_singleton]; omega
theorem settle_ev {r : Ue09.Run} (ok : OkM r.maps) : (settle r).events.length ≤ r.events.length + 6 := by
  unfold settle
  split
  · rename_i b hb
    obtain ⟨i, hi, e, n, hbd⟩ := longest_mem hb
    exact Nat.le_trans (doing_ev (ok.all n b (bound_mem hbd).2.1)) (Nat.le_refl _)
  · split
    · omega
    · exact Nat.le_trans asIs_ev (by show r.events.length + 1 ≤ _; omega)
/-- events so far, and those that may still come -/
def wt (r : Ue09.Run) : Nat := r.events.length + 6 * load r
theorem settle_wt {r : Ue09.Run} (ok : Ok r) (h : r.open_ ≠ []) : wt (settle r) ≤ wt r := by
  have h1 := settle_ev ok.maps
  have h2 := (settle_load ok h).2.1
  simp only [wt]; omega
theorem oneKey_load {r : Ue09.Run} {k : Nat} {q : Ue09.Keys} (e : r.queue = k :: q) : load (oneKey r k q) = load r := by
  simp only [load, oneKey, e, List.length_append, List.length_cons, List.length_nil]; omega
theorem oneKey_wt {r : Ue09.Run} {k : Nat} {q : Ue09.Keys} (e : r.queue = k :: q) : wt (oneKey r k q) = wt r := by
  simp only [wt, oneKey_load e]; rfl
theorem settle_wt4 {r : Ue09.Run} (ok : OkM r.maps) (h : r.open_ ≠ []) : wt (settle r) ≤ wt r := by
  have h1 := settle_ev ok
  obtain ⟨_, _, h3, h4, h5⟩ := settle_fields ok h
  simp only [wt, load, h3, List.length_nil]
  omega
theorem goA_more {r : Ue09.Run} (ok : Ok r) (hd : Dig r.digits) : Dig (goA r).digits ∧ wt (goA r) ≤ wt r := by
  have h := goA_ind (P := fun s => Dig s.digits ∧ wt s ≤ wt r) (fun s k q _ hp e => ⟨hp.1, by rw [oneKey_wt e]; exact hp.2⟩) (fun s okm hne hp => ⟨settle_dig hp.1, Nat.le_trans (settle_wt4 okm hne) hp.2⟩) (mu r) r (Nat.le_refl _) ok ⟨hd, Nat.le_refl _⟩
  exact h.1
theorem flushA_more : ∀ (n : Nat) {r : Ue09.Run}, load r ≤ n → Ok r → load r ≤ 900 → Dig r.digits → Dig (flushA r).digits ∧ wt (flushA r) ≤ wt r
  | n, r, hn, ok, h9, hd => by
    by_cases e : r.open_ = []
    · rw [flushA_nil e]; exact ⟨hd, Nat.le_refl _⟩
    · obtain ⟨ok2, hl, ha⟩ := settle_load ok e
      obtain ⟨g1, g2, g3, g4, _⟩ := goA_facts ok2
      obtain ⟨d1, w1⟩ := goA_more ok2 (settle_dig hd)
      rw [flushA_cons ok h9 e]
      cases n with
      | zero => omega
      | succ n =>
        obtain ⟨d2, w2⟩ := flushA_more n (r := goA (settle r)) (by omega) g1 (by omega) d1
        exact ⟨d2, Nat.le_trans w2 (Nat.le_trans w1 (settle_wt ok e))⟩
end Km

namespace Km
open Ue09 (House runOf after pressed flushed)
/-! ### a keyboard between two calls; keys pressed -/
structure OkG (g : House) : Prop where
  ok : OkM g.maps
  short : g.open_.length ≤ 3
  dig : Dig g.digits
/-- a state between two calls on the stream -/
structure Rdy (r : Ue09.Run) : Prop where
  ok : Ok r
  dig : Dig r.digits
  wt : wt r + 100 < many
def pressA (r : Ue09.Run) (k : Nat) : Ue09.Run := goA { r with queue := r.queue ++ [k], left := 50 }
/-- between two keys: nothing to come, not too many events -/
structure Btw (r : Ue09.Run) (n : Nat) : Prop where
  ok : Ok r
  dig : Dig r.digits
  q : r.queue = []
  ev : r.events.length ≤ 2000 * n
theorem Btw.rdy {r : Ue09.Run} {n : Nat} (h : Btw r n) (hn : n ≤ 100) (k : Nat) : Rdy { r with queue := r.queue ++ [k], left := 50 } := by
  refine ⟨⟨h.ok.maps, h.ok.short⟩, h.dig, ?_⟩
  have h1 := h.ev
  have h2 := h.ok.short
  simp only [wt, load, h.q, List.nil_append, List.length_singleton, many]
  omega
theorem Btw.rdy0 {r : Ue09.Run} {n : Nat} (h : Btw r n) (hn : n ≤ 100) : Rdy { r with left := 50 } := by
  refine ⟨⟨h.ok.maps, h.ok.short⟩, h.dig, ?_⟩
  have h1 := h.ev
  have h2 := h.ok.short
  simp only [wt, load, h.q, List.length_nil, many]
  omega
theorem Btw.left {r : Ue09.Run} {n : Nat} (h : Btw r n) (k : Nat) : Btw { r with left := k } n := ⟨⟨h.ok.maps, h.ok.short⟩, h.dig, h.q, h.ev⟩
theorem Btw.press {r : Ue09.Run} {n : Nat} (h : Btw r n) (hn : n ≤ 100) (k : Nat) : Btw (pressA r k) (n + 1) ∧ (pressA r k).maps.all = r.maps.all := by
  have rd := h.rdy hn k
  obtain ⟨g1, g2, g3, g4, _⟩ := goA_facts rd.ok
  obtain ⟨d1, w1⟩ := goA_more rd.ok rd.dig
  refine ⟨⟨g1, d1, g2, ?_⟩, g4⟩
  have h1 := h.ev
  have h2 := h.ok.short
  have w2 : (pressA r k).events.length ≤ wt (pressA r k) := Nat.le_add_right _ _
  have w3 : wt (pressA r k) ≤ wt { r with queue := r.queue ++ [k], left := 50 } := w1
  have w4 : wt { r with queue := r.queue ++ [k], left := 50 } ≤ r.events.length + 6 * 304 := by
    simp only [wt, load, h.q, List.nil_append, List.length_singleton]; omega
  omega
theorem Btw.flush {r : Ue09.Run} {n : Nat} (h : Btw r n) (hn : n ≤ 100) : Btw (flushA { r with left := 50 }) (n + 1) ∧ (flushA { r with left := 50 }).maps.all = r.maps.all ∧ (flushA { r with left := 50 }).open_ = [] := by
  have rd := h.rdy0 hn
  have h2 := h.ok.short
  have hl : load { r with left := 50 } ≤ 303 := by simp only [load, h.q, List.length_nil]; omega
  obtain ⟨f1, f2, f3, f4, f5⟩ := flushA_facts _ (Nat.le_refl _) rd.ok (by omega) (show ({ r with left := 50 } : Ue09.Run).queue = [] from h.q)
  obtain ⟨d1, w1⟩ := flushA_more _ (Nat.le_refl _) rd.ok (by omega) rd.dig
  refine ⟨⟨f1, d1, f2, ?_⟩, f5, f3⟩
  have h1 := h.ev
  have w2 : (flushA { r with left := 50 }).events.length ≤ wt (flushA { r with left := 50 }) := Nat.le_add_right _ _
  have w4 : wt { r with left := 50 } ≤ r.events.length + 6 * 303 := by simp only [wt]; omega
  omega
theorem press_eq {r : Ue09.Run} {n : Nat} (h : Btw r n) (hn : n ≤ 100) (k : Nat) : Ue09.go Ue09.STEPS { r with queue := r.queue ++ [k], left := Ue09.LEFT } = pressA r k := by
  have rd := h.rdy hn k
  show Ue09.go Ue09.STEPS { r with queue := r.queue ++ [k], left := 50 } = pressA r k
  refine go_goA rd.ok ?_
  have := mu_load rd.ok
  have h2 := h.ok.short
  have : load { r with queue := r.queue ++ [k], left := 50 } ≤ 304 := by simp only [load, h.q, List.nil_append, List.length_singleton]; omega
  simp only [Ue09.STEPS]; omega
theorem pressed_eq : ∀ (l : List Nat) {r : Ue09.Run} {n : Nat}, Btw r n → n + l.length ≤ 100 → pressed r l = l.foldl pressA r
  | [], _, _, _, _ => rfl
  | k :: l, r, n, h, hn => by
    have hn' : n ≤ 100 := by omega
    show pressed (Ue09.go Ue09.STEPS { r with queue := r.queue ++ [k], left := Ue09.LEFT }) l = _
    rw [press_eq h hn', List.foldl_cons]
    exact pressed_eq l (h.press hn' k).1 (by simp at hn; omega)
theorem presses : ∀ (l : List Nat) {r : Ue09.Run} {n : Nat}, Btw r n → n + l.length ≤ 100 → Btw (l.foldl pressA r) (n + l.length) ∧ (l.foldl pressA r).maps.all = r.maps.all
  | [], _, _, h, _ => ⟨h, rfl⟩
  | k :: l, r, n, h, hn => by
    have hn' : n ≤ 100 := by omega
    obtain ⟨h1, h2⟩ := h.press hn' k
    obtain ⟨h3, h4⟩ := presses l h1 (by simp at hn; omega)
    refine ⟨?_, h4.trans h2⟩
    have e : n + (k :: l).length = n + 1 + l.length := by simp; omega
    rw [e]; exact h3
theorem flushed_eq {r : Ue09.Run} {n : Nat} (h : Btw r n) (hn : n ≤ 100) : flushed r = flushA { r with left := 50 } := by
  have rd := h.rdy0 hn
  have h2 := h.ok.short
  have hl : load { r with left := 50 } ≤ 303 := by simp only [load, h.q, List.length_nil]; omega
  show Ue09.flush 1000 { r with left := 50 } = _
  exact flush_flushA rd.ok (by omega) (by omega)
theorem OkG.btw {g : House} (h : OkG g) : Btw (runOf g) 0 := ⟨⟨h.ok, h.short⟩, h.dig, rfl, Nat.le_refl _⟩
theorem Btw.okG {g : House} {r : Ue09.Run} {n : Nat} (h : Btw r n) : OkG (after g r) := ⟨h.ok.maps, h.ok.short, h.dig⟩
end Km

namespace Km
open Ue09 (Maps Map_ Binding mapAt counted distinct table isHead goesOn waits longest Keys)
/-! ### each map once -/
def addN (m : List Nat) (n : Nat) : List Nat := if m.contains n = true then m else m ++ [n]
theorem distinct_eq (l : List Nat) : distinct l = l.foldl addN [] := rfl
theorem addN_in {m : List Nat} {n : Nat} (h : n ∈ m) : addN m n = m := if_pos (by simpa using h)
theorem addN_out {m : List Nat} {n : Nat} (h : n ∉ m) : addN m n = m ++ [n] := if_neg (by simpa using h)
theorem fold_pre : ∀ (l acc : List Nat), ∃ r, l.foldl addN acc = acc ++ r
  | [], acc => ⟨[], by simp⟩
  | n :: l, acc => by
    obtain ⟨r, e⟩ := fold_pre l (addN acc n)
    rw [List.foldl_cons, e]
    by_cases h : n ∈ acc
    · exact ⟨r, by rw [addN_in h]⟩
    · exact ⟨n :: r, by rw [addN_out h, List.append_assoc]; rfl⟩
theorem fold_nodup : ∀ (l acc : List Nat), acc.Nodup → (l.foldl addN acc).Nodup
  | [], _, h => h
  | n :: l, acc, h => by
    rw [List.foldl_cons]
    refine fold_nodup l _ ?_
    by_cases c : n ∈ acc
    · rw [addN_in c]; exact h
    · rw [addN_out c, List.nodup_append]
      refine ⟨h, by simp, fun x hx y hy => ?_⟩
      have : y = n := by simpa using hy
      subst this
      intro e
      exact c (e ▸ hx)
theorem fold_mem : ∀ (l acc : List Nat) (n : Nat), n ∈ l.foldl addN acc ↔ n ∈ acc ∨ n ∈ l
  | [], acc, n => by simp
  | k :: l, acc, n => by
    rw [List.foldl_cons, fold_mem l]
    by_cases c : k ∈ acc
    · rw [addN_in c, List.mem_cons]
      constructor
      · rintro (h | h)
        · exact .inl h
        · exact .inr (.inr h)
      · rintro (h | h | h)
        · exact .inl h
        · exact .inl (h ▸ c)
        · exact .inr h
    · rw [addN_out c, List.mem_append, List.mem_singleton, List.mem_cons, or_assoc]
theorem fold_len : ∀ (l acc : List Nat), (l.foldl addN acc).length ≤ acc.length + l.length
  | [], _ => Nat.le_refl _
  | n :: l, acc => by
    rw [List.foldl_cons, List.length_cons]
    have h := fold_len l (addN acc n)
    by_cases c : n ∈ acc
    · rw [addN_in c] at h ⊢; omega
    · rw [addN_out c] at h ⊢; rw [List.length_append, List.length_singleton] at h; omega
theorem fold_findSome {β : Type} (f : Nat → Option β) : ∀ (l acc : List Nat), (l.foldl addN acc).findSome? f = (acc ++ l).findSome? f
  | [], acc => by simp
  | n :: l, acc => by
    rw [List.foldl_cons, fold_findSome f l]
    by_cases c : n ∈ acc
    · rw [addN_in c, List.findSome?_append, List.findSome?_append, List.findSome?_cons]
      cases e : acc.findSome? f with
      | some x => rfl
      | none =>
        have := List.findSome?_eq_none_iff.mp e n c
        rw [this]
    · rw [addN_out c, List.append_assoc]; rfl
theorem fold_any (f : Nat → Bool) : ∀ (l acc : List Nat), (l.foldl addN acc).any f = (acc.any f || l.any f)
  | [], acc => by simp
  | n :: l, acc => by
    rw [List.foldl_cons, fold_any f l, List.any_cons]
    by_cases c : n ∈ acc
    · rw [addN_in c]
      cases e : f n with
      | false => simp
      | true =>
        have : acc.any f = true := List.any_eq_true.mpr ⟨n, c, e⟩
        rw [this]; simp
    · rw [addN_out c, List.any_append]; simp [Bool.or_assoc]
theorem counted_pre {m : Maps} {n : Nat} (hn : (mapAt m n).shut = true) (r : List Nat) : ∀ acc : List Nat, (∀ k ∈ acc, ¬ (mapAt m k).shut = true) → counted m (acc ++ n :: r) = acc ++ [n]
  | [], _ => by
    show (if (mapAt m n).shut = true then [n] else _) = _
    rw [if_pos hn]; rfl
  | k :: acc, h => by
    show (if (mapAt m k).shut = true then [k] else k :: counted m (acc ++ n :: r)) = _
    rw [if_neg (h k (List.mem_cons_self ..)), counted_pre hn r acc fun j hj => h j (List.mem_cons_of_mem _ hj)]; rfl
theorem counted_open {m : Maps} : ∀ acc : List Nat, (∀ k ∈ acc, ¬ (mapAt m k).shut = true) → counted m acc = acc
  | [], _ => rfl
  | k :: acc, h => by
    show (if (mapAt m k).shut = true then [k] else k :: counted m acc) = _
    rw [if_neg (h k (List.mem_cons_self ..)), counted_open acc fun j hj => h j (List.mem_cons_of_mem _ hj)]
theorem counted_fold (m : Maps) : ∀ (l acc : List Nat), (∀ n ∈ acc, ¬ (mapAt m n).shut = true) → counted m (l.foldl addN acc) = (counted m l).foldl addN acc
  | [], acc, h => counted_open acc h
  | n :: l, acc, h => by
    have e : counted m (n :: l) = if (mapAt m n).shut = true then [n] else n :: counted m l := rfl
    rw [List.foldl_cons, e]
    by_cases c : n ∈ acc
    · rw [if_neg (h n c), List.foldl_cons, addN_in c]
      exact counted_fold m l acc h
    · by_cases s : (mapAt m n).shut = true
      · rw [if_pos s, addN_out c]
        obtain ⟨r, er⟩ := fold_pre l (acc ++ [n])
        rw [er, List.append_assoc]
        show counted m (acc ++ n :: r) = addN acc n
        rw [counted_pre s r acc h, addN_out c]
      · rw [if_neg s, List.foldl_cons, addN_out c]
        refine counted_fold m l _ fun k hk => ?_
        rcases List.mem_append.mp hk with hk | hk
        · exact h k hk
        · have : k = n := by simpa using hk
          rw [this]; exact s
/-- the maps that count, each once -/
def cn (m : Maps) : List Nat := counted m (distinct m.use)
theorem cn_eq (m : Maps) : cn m = distinct (counted m m.use) := counted_fold m m.use [] (fun _ h => nomatch h)
theorem cn_nodup (m : Maps) : (cn m).Nodup := by rw [cn_eq]; exact fold_nodup _ _ List.nodup_nil
theorem cn_use {m : Maps} {n : Nat} (h : n ∈ cn m) : n ∈ m.use := by
  have := mem_counted m _ n h
  rw [distinct_eq, fold_mem] at this
  rcases this with z | z
  · cases z
  · exact z
theorem counted_len (m : Maps) : ∀ l : List Nat, (counted m l).length ≤ l.length
  | [] => Nat.le_refl _
  | n :: l => by
    show (if (mapAt m n).shut = true then [n] else n :: counted m l).length ≤ _
    split
    · simp
    · exact Nat.succ_le_succ (counted_len m l)
theorem distinct_len (l : List Nat) : (distinct l).length ≤ l.length := by
  have := fold_len l []
  simpa [distinct_eq] using this
theorem cn_len {m : Maps} (h : m.use.length ≤ 6) : (cn m).length ≤ 6 := Nat.le_trans (counted_len m _) (Nat.le_trans (distinct_len _) h)
/-! ### what a sequence is bound to by these maps -/
def bnd (m : Maps) (ns : List Nat) (s : Keys) : Option (Nat × Binding) := ns.findSome? fun n => (has m n s).map fun b => (n, b)
def goe (m : Maps) (ns : List Nat) (s : Keys) : Bool := ns.any fun n => (mapAt m n).bindings.any fun b => isHead s b.seq
def lng (m : Maps) (ns : List Nat) (p : Keys) : Nat → Option Binding
  | 0 => none
  | k + 1 => ((bnd m ns (p.take (k + 1))).map (·.2)).or (lng m ns p k)
theorem bound_cn (m : Maps) (s : Keys) : Ue09.bound m s = bnd m (cn m) s := by
  rw [bound_eq, bnd, cn_eq, distinct_eq, fold_findSome]; rfl
theorem goes_cn (m : Maps) (s : Keys) : goesOn m s = goe m (cn m) s := by
  rw [goesOn_eq, goe, cn_eq, distinct_eq, fold_any]; rfl
theorem long_cn (m : Maps) (p : Keys) : longest m p = lng m (cn m) p p.length := by
  unfold longest
  generalize p.length = n
  induction n with
  | zero => rfl
  | succ n ih =>
    rw [List.range_succ, List.reverse_append, List.reverse_singleton, List.singleton_append, List.findSome?_cons, lng, ← ih, ← bound_cn]
    cases Ue09.bound m (p.take (n + 1)) <;> rfl
theorem waits_cn (m : Maps) (p : Keys) : waits m p = (goe m (cn m) p && !((bnd m (cn m) p).any fun x => x.2.now)) := by
  unfold waits
  rw [goes_cn, bound_cn]
theorem bnd_cons (m : Maps) (n : Nat) (ns : List Nat) (s : Keys) : bnd m (n :: ns) s = ((has m n s).map fun b => (n, b)).or (bnd m ns s) := by
  unfold bnd
  rw [List.findSome?_cons]
  cases has m n s <;> rfl
theorem bnd_app (m : Maps) (as : List Nat) (n : Nat) (s : Keys) : bnd m (as ++ [n]) s = (bnd m as s).or ((has m n s).map fun b => (n, b)) := by
  unfold bnd
  rw [List.findSome?_append, List.findSome?_cons]
  cases has m n s <;> rfl
theorem bnd_mem {m : Maps} {ns : List Nat} {s : Keys} {n : Nat} {b : Binding} (h : bnd m ns s = some (n, b)) : n ∈ ns ∧ b ∈ (mapAt m n).bindings ∧ b.seq = s ∧ has m n s = some b := by
  obtain ⟨k, hk, e⟩ := List.exists_of_findSome?_eq_some h
  cases e2 : has m k s with
  | none => rw [e2] at e; cases e
  | some c =>
    rw [e2] at e
    cases e
    exact ⟨hk, List.mem_of_find?_eq_some e2, eq_of_beq (List.find?_some (p := fun (b : Binding) => b.seq == s) e2), e2⟩
theorem has_some {m : Maps} {n : Nat} {b : Binding} (h : b ∈ (mapAt m n).bindings) : ∃ c, has m n b.seq = some c := by
  cases e : has m n b.seq with
  | some c => exact ⟨c, rfl⟩
  | none => exact absurd (List.find?_eq_none.mp e b h) (by simp)
/-- within one map no sequence twice -/
theorem has_self {m : Maps} (ok : OkM m) {n : Nat} {b : Binding} (h : b ∈ (mapAt m n).bindings) : has m n b.seq = some b := by
  obtain ⟨c, e⟩ := has_some h
  have hc := List.mem_of_find?_eq_some e
  have es : c.seq = b.seq := eq_of_beq (List.find?_some (p := fun (x : Binding) => x.seq == b.seq) e)
  have nd := ok.nd n
  have : ∀ {l : List Binding}, (l.map (·.seq)).Nodup → c ∈ l → b ∈ l → c = b := by
    intro l
    induction l with
    | nil => intro _ h _; cases h
    | cons x l ih =>
      intro nd hc hb
      rw [List.map_cons, List.nodup_cons] at nd
      rcases List.mem_cons.mp hc with e1 | hc2
      · rcases List.mem_cons.mp hb with e2 | hb2
        · rw [e1, e2]
        · exact absurd (List.mem_map.mpr ⟨b, hb2, by rw [← e1]; exact es.symm⟩) nd.1
      · rcases List.mem_cons.mp hb with e2 | hb2
        · exact absurd (List.mem_map.mpr ⟨c, hc2, by rw [← e2]; exact es⟩) nd.1
        · exact ih nd.2 hc2 hb2
  rw [e, this nd hc h]
/-- the map that it is bound by -/
def bby (m : Maps) (ns : List Nat) (n : Nat) (s : Keys) : Bool := (bnd m ns s).any fun x => x.1 == n
/-- all that is bound, in order -/
def tbl (m : Maps) (ns as : List Nat) : List (Nat × Binding) := as.flatMap fun n => ((mapAt m n).bindings.filter fun b => bby m ns n b.seq).map fun b => (n, b)
theorem tbl_any {m : Maps} {as : List Nat} (s : Keys) : ((tbl m as as).any fun x => x.2.seq == s) = (bnd m as s).isSome := by
  cases e : bnd m as s with
  | none =>
    rw [Option.isSome_none, Bool.eq_false_iff]
    intro h
    obtain ⟨x, hx, hs⟩ := List.any_eq_true.mp h
    obtain ⟨n, hn, hx⟩ := List.mem_flatMap.mp hx
    obtain ⟨b, hb, rfl⟩ := List.mem_map.mp hx
    have hb := (List.mem_filter.mp hb).2
    have es : b.seq = s := eq_of_beq hs
    rw [es, bby, e] at hb
    cases hb
  | some x =>
    obtain ⟨n, b⟩ := x
    obtain ⟨h1, h2, h3, h4⟩ := bnd_mem e
    refine List.any_eq_true.mpr ⟨(n, b), List.mem_flatMap.mpr ⟨n, h1, List.mem_map.mpr ⟨b, List.mem_filter.mpr ⟨h2, ?_⟩, rfl⟩⟩, by simp [h3]⟩
    rw [h3, bby, e]; simp
theorem tbl_more {m : Maps} {as : List Nat} {n : Nat} (hn : n ∉ as) : tbl m (as ++ [n]) (as ++ [n]) = tbl m as as ++ ((mapAt m n).bindings.filter fun b => !((tbl m as as).any fun x => x.2.seq == b.seq)).map fun b => (n, b) := by
  have e1 : tbl m (as ++ [n]) (as ++ [n]) = tbl m (as ++ [n]) as ++ ((mapAt m n).bindings.filter fun b => bby m (as ++ [n]) n b.seq).map fun b => (n, b) := by
    unfold tbl
    rw [List.flatMap_append]; simp
  have e2 : tbl m (as ++ [n]) as = tbl m as as := by
    unfold tbl
    rw [List.flatMap_def, List.flatMap_def]
    congr 1
    refine List.map_congr_left fun k hk => ?_
    congr 1
    refine List.filter_congr fun b hb => ?_
    unfold bby
    rw [bnd_app]
    obtain ⟨c, ec⟩ := has_some hb
    cases e : bnd m as b.seq with
    | some x => rfl
    | none =>
      have := List.findSome?_eq_none_iff.mp e k hk
      rw [ec] at this; cases this
  rw [e1, e2]
  congr 2
  refine List.filter_congr fun b hb => ?_
  rw [tbl_any]
  unfold bby
  rw [bnd_app]
  obtain ⟨c, ec⟩ := has_some hb
  rw [ec]
  cases e : bnd m as b.seq with
  | none => simp
  | some x =>
    obtain ⟨k, d⟩ := x
    have hk := (bnd_mem e).1
    have : k ≠ n := fun z => hn (z ▸ hk)
    simp [this]
theorem tbl_same {m : Maps} {as : List Nat} {n : Nat} (hn : n ∈ as) : ((mapAt m n).bindings.filter fun b => !((tbl m as as).any fun x => x.2.seq == b.seq)) = [] := by
  rw [List.filter_eq_nil_iff]
  intro b hb
  rw [tbl_any]
  obtain ⟨c, ec⟩ := has_some hb
  cases e : bnd m as b.seq with
  | some x => simp
  | none =>
    have := List.findSome?_eq_none_iff.mp e n hn
    rw [ec] at this; cases this
theorem tab_tbl (m : Maps) : ∀ (l as : List Nat), tabFrom m (tbl m as as) l = tbl m (l.foldl addN as) (l.foldl addN as)
  | [], as => rfl
  | n :: l, as => by
    rw [tabFrom_cons, List.foldl_cons]
    by_cases c : n ∈ as
    · rw [tbl_same c, List.map_nil, List.append_nil, addN_in c]
      exact tab_tbl m l as
    · rw [← tbl_more c, addN_out c]
      exact tab_tbl m l _
theorem table_cn (m : Maps) : table m = tbl m (cn m) (cn m) := by
  rw [table_eq, cn_eq, distinct_eq, ← tab_tbl m (counted m m.use) []]; rfl
theorem table_has {m : Maps} (ok : OkM m) {n : Nat} {b : Binding} (hb : b ∈ (mapAt m n).bindings) : (table m).contains (n, b) = bby m (cn m) n b.seq := by
  rw [table_cn]
  cases e : bby m (cn m) n b.seq with
  | true =>
    unfold bby at e
    cases e2 : bnd m (cn m) b.seq with
    | none => rw [e2] at e; cases e
    | some x =>
      obtain ⟨k, c⟩ := x
      rw [e2] at e
      have ek : k = n := by simpa using e
      subst ek
      have h1 := (bnd_mem e2).1
      have : (k, b) ∈ tbl m (cn m) (cn m) := List.mem_flatMap.mpr ⟨k, h1, List.mem_map.mpr ⟨b, List.mem_filter.mpr ⟨hb, by rw [bby, e2]; simp⟩, rfl⟩⟩
      simpa using this
  | false =>
    rw [Bool.eq_false_iff]
    intro h
    have h : (n, b) ∈ tbl m (cn m) (cn m) := by simpa using h
    obtain ⟨k, _, hx⟩ := List.mem_flatMap.mp h
    obtain ⟨c, hc, ec⟩ := List.mem_map.mp hx
    cases ec
    have := (List.mem_filter.mp hc).2
    rw [e] at this; cases this
/-- a shorter beginning that is done at once -/
def cut (m : Maps) (ns : List Nat) (s : Keys) : Bool := (List.range (s.length - 1)).any fun i => (bnd m ns (s.take (i + 1))).any fun x => x.2.now
def hid (m : Maps) (ns : List Nat) (n : Nat) (s : Keys) : Bool := !(bby m ns n s) || cut m ns s
theorem hidden_cn {m : Maps} (ok : OkM m) : Ue09.hiddenOf m = (distinct m.use).flatMap fun n => ((mapAt m n).bindings.filter fun b => hid m (cn m) n b.seq).map fun b => (n, b.seq) := by
  unfold Ue09.hiddenOf
  rw [List.flatMap_def, List.flatMap_def]
  congr 1
  refine List.map_congr_left fun n _ => ?_
  congr 1
  refine List.filter_congr fun b hb => ?_
  unfold Ue09.isHidden hid cut
  rw [table_has ok hb]
  simp only [bound_cn]
theorem code_cn (m : Maps) (s : Keys) : Ue09.codeOf m s = (if (bnd m (cn m) s).isSome = true then 1 else 0) + if goe m (cn m) s = true then 2 else 0 := by
  unfold Ue09.codeOf
  rw [bound_cn, goes_cn]
/-- the sequences that are bound, in order -/
def seqs (m : Maps) (ns : List Nat) : List Keys := ns.flatMap fun n => ((mapAt m n).bindings.filter fun b => bby m ns n b.seq).map fun b => b.seq
theorem table_seqs (m : Maps) : (table m).map (fun x => x.2.seq) = seqs m (cn m) := by
  rw [table_cn, tbl, seqs, List.map_flatMap]
  congr 1
  funext n
  rw [List.map_map]; rfl
theorem rings_row (m : Maps) : (((table m).filter fun x => Ue09.hasRing m x.2.seq).flatMap fun x => x.2.seq.length :: x.2.seq) = ((seqs m (cn m)).filter fun s => Ue09.hasRing m s).flatMap fun s => s.length :: s := by
  rw [← table_seqs, List.filter_map, List.flatMap_map]; rfl
theorem rings_len (m : Maps) : ((table m).filter fun x => Ue09.hasRing m x.2.seq).length = ((seqs m (cn m)).filter fun s => Ue09.hasRing m s).length := by
  rw [← table_seqs, List.filter_map, List.length_map]; rfl
/-! ### the keys that may follow -/
def nxt (m : Maps) (ns : List Nat) (p : Keys) (k : Nat) : Bool := ns.any fun n => (mapAt m n).bindings.any fun b => b.seq.take (p.length + 1) == p ++ [k]
theorem next_cn (m : Maps) (p : Keys) : Ue09.nextKeys m p = (List.range 256).filter fun k => nxt m (cn m) p k := by
  unfold Ue09.nextKeys
  refine List.filter_congr fun k _ => ?_
  rw [table_any m (fun s => s.take (p.length + 1) == p ++ [k]), nxt, cn_eq, distinct_eq, fold_any]; rfl
/-- rising, each once, the same members: the same list -/
theorem rising_eq {l r : List Nat} (hl : l.Pairwise (· ≤ ·)) (nl : l.Nodup) (hr : r.Pairwise (· < ·)) (h : ∀ k, k ∈ l ↔ k ∈ r) : l = r := by
  have nr : r.Nodup := hr.imp (fun {a b} z => by omega)
  refine List.Perm.eq_of_pairwise (le := fun (a b : Nat) => a ≤ b) (fun a b _ _ h1 h2 => by omega) hl (hr.imp (fun {a b} z => by omega)) ?_
  exact (List.perm_ext_iff_of_nodup nl nr).mpr h
theorem next_rising (m : Maps) (p : Keys) : (Ue09.nextKeys m p).Pairwise (· < ·) := by
  rw [next_cn]; exact List.Pairwise.filter _ List.pairwise_lt_range
theorem next_mem {m : Maps} (ok : OkM m) {p : Keys} {k : Nat} : k ∈ Ue09.nextKeys m p ↔ nxt m (cn m) p k = true := by
  rw [next_cn, List.mem_filter, List.mem_range]
  refine ⟨fun h => h.2, fun h => ⟨?_, h⟩⟩
  obtain ⟨n, _, h⟩ := List.any_eq_true.mp h
  obtain ⟨b, hb, h⟩ := List.any_eq_true.mp h
  have e : b.seq.take (p.length + 1) = p ++ [k] := eq_of_beq h
  have hk : k ∈ b.seq := List.mem_of_mem_take (by rw [e]; simp)
  have := seqOk_keys (ok.all n b hb).seq k hk
  omega
end Km

namespace Km
open Ue09 (House Call)
open Ue09Neutral (bit targetIn callIn callOf)
/-! ### the list of calls, read one call after another -/
/-- behind the call's number: the call, and what is left -/
def Rd (c0 : Nat) (s : List Nat) (c : Call) (t : List Nat) : Prop := match c0 with
  | 0 => ∃ n v b, s = n :: v :: t ∧ bit v = some b ∧ c = .map_ n b
  | 1 => ∃ n v b row tg sq, s = n :: v :: row.length :: (row ++ t) ∧ bit v = some b ∧ targetIn row = some (tg, sq) ∧ c = .bind n b tg sq
  | 2 => ∃ n row, s = n :: row.length :: (row ++ t) ∧ c = .unbind n row
  | 3 => ∃ row, s = row.length :: (row ++ t) ∧ c = .use row
  | 4 => ∃ n, s = n :: t ∧ c = .wait n
  | 5 => ∃ n row, s = n :: row.length :: (row ++ t) ∧ c = .press n row
  | 6 => s = t ∧ c = .flush
  | 7 => s = t ∧ c = .open_
  | 8 => ∃ row, s = row.length :: (row ++ t) ∧ c = .lookup row
  | 9 => ∃ row, s = row.length :: (row ++ t) ∧ c = .hints row
  | 10 => s = t ∧ c = .hidden
  | 11 => ∃ row, s = row.length :: (row ++ t) ∧ c = .would row
  | 12 => s = t ∧ c = .rings
  | _ => False
inductive Todo : List Nat → House → List Int → Prop
  | done (g : House) : Todo [] g []
  | next {c0 : Nat} {s t : List Nat} {c : Call} {g : House} {A : List Int} : Rd c0 s c t → Todo t (Ue09.step g c).1 A → Todo (c0 :: s) g (((Ue09.step g c).2.length : Int) :: ((Ue09.step g c).2 ++ A))
def InR (s : List Int) : Prop := ∀ x ∈ s, 0 ≤ x ∧ x ≤ 4294967295
theorem nat_all {s : List Int} (h : InR s) : s.all Ue09Neutral.nat = true := by
  rw [List.all_eq_true]
  intro x hx
  have := h x hx
  simp only [Ue09Neutral.nat, Bool.and_eq_true, decide_eq_true_eq]
  omega
theorem callOf_eq {s : List Int} (h : InR s) : callOf s = callIn (s.map Int.toNat) := by
  unfold callOf
  rw [nat_all h]; rfl
theorem row_some {s x t : List Int} (h : PyFlat.row s = some (x, t)) : ∃ n : Nat, s = (n : Int) :: (x ++ t) ∧ x.length = n := by
  cases s with
  | nil => cases h
  | cons m r =>
    simp only [PyFlat.row] at h
    split at h
    · rename_i c
      cases h
      refine ⟨m.toNat, ?_, by rw [List.length_take]; omega⟩
      rw [List.take_append_drop]
      congr 1
      omega
    · cases h
theorem rows0 {s : List Int} {xs : List (List Int)} {t : List Int} (h : PyFlat.rows 0 s = some (xs, t)) : xs = [] ∧ t = s := by
  cases h; exact ⟨rfl, rfl⟩
theorem rows1 {s : List Int} {xs : List (List Int)} {t : List Int} (h : PyFlat.rows 1 s = some (xs, t)) : ∃ (x : List Int) (n : Nat), xs = [x] ∧ s = (n : Int) :: (x ++ t) ∧ x.length = n := by
  simp only [PyFlat.rows] at h
  split at h
  · cases h
  · rename_i x s' e
    cases h
    obtain ⟨n, e1, e2⟩ := row_some e
    exact ⟨x, n, rfl, e1, e2⟩
theorem toNat_nat (n : Nat) : ((n : Int)).toNat = n := Int.toNat_natCast n
theorem inr_tail {x : Int} {s : List Int} (h : InR (x :: s)) : InR s := fun y hy => h y (List.mem_cons_of_mem _ hy)
theorem inr_app1 {x s : List Int} (h : InR (x ++ s)) : InR x := fun y hy => h y (List.mem_append_left _ hy)
theorem inr_app2 {x s : List Int} (h : InR (x ++ s)) : InR s := fun y hy => h y (List.mem_append_right _ hy)
theorem inr_cons {x : Int} {s : List Int} (h : 0 ≤ x ∧ x ≤ 4294967295) (hs : InR s) : InR (x :: s) := fun y hy => by
  rcases List.mem_cons.mp hy with e | e
  · rw [e]; exact h
  · exact hs y e
theorem call_split {p : Int} {r : List Int} {c : List (List Int)} {t : List Int} {n k : Nat} (hs : PyUe09.shape p = some (n, k)) (h : PyFlat.call PyUe09.shape (p :: r) = some (c, t)) :
    n ≤ r.length ∧ ∃ xs, PyFlat.rows k (r.drop n) = some (xs, t) ∧ c = (p :: r.take n) :: xs := by
  simp only [PyFlat.call, hs] at h
  split at h
  · cases h
  · rename_i hl
    split at h
    · cases h
    · rename_i xs t' e
      cases h
      exact ⟨by omega, xs, e, rfl⟩
/-- what is to be shown of one call -/
def OneOk (c0 : Nat) (r : List Int) (c : List (List Int)) (t : List Int) : Prop :=
  ∃ x : Call, callOf ((PyUe09.whole c).headD []) = some x ∧ Rd c0 (r.map Int.toNat) x (t.map Int.toNat) ∧ InR t ∧ t.length ≤ r.length
section
variable {r t : List Int} {c : List (List Int)}
theorem one_plain {p : Int} {c0 : Nat} {x : Call} (hr : InR r) (hs : PyUe09.shape p = some (0, 0)) (h : PyFlat.call PyUe09.shape (p :: r) = some (c, t)) (hc : callOf ((PyUe09.whole [[p]]).headD []) = some x) (hR : ∀ s, Rd c0 s x s) : OneOk c0 r c t := by
  obtain ⟨_, xs, e, rfl⟩ := call_split hs h
  obtain ⟨rfl, rfl⟩ := rows0 e
  exact ⟨x, hc, hR _, hr, Nat.le_refl _⟩
theorem one_row {p : Int} {c0 : Nat} {x : List Nat → Call} (hr : InR r) (hs : PyUe09.shape p = some (0, 1)) (h : PyFlat.call PyUe09.shape (p :: r) = some (c, t)) (hc : ∀ row, InR row → callOf ((PyUe09.whole [[p], row]).headD []) = some (x (row.map Int.toNat)))
    (hR : ∀ row s, Rd c0 (row.length :: (row ++ s)) (x row) s) : OneOk c0 r c t := by
  obtain ⟨_, xs, e, rfl⟩ := call_split hs h
  obtain ⟨row, n, rfl, e1, e2⟩ := rows1 e
  have e1 : r = (n : Int) :: (row ++ t) := e1
  subst e1
  have hx : InR row := inr_app1 (inr_tail hr)
  refine ⟨_, hc row hx, ?_, inr_app2 (inr_tail hr), by simp; omega⟩
  rw [List.map_cons, toNat_nat, List.map_append, ← e2]
  have := hR (row.map Int.toNat) (t.map Int.toNat)
  rw [List.length_map] at this
  exact this
theorem one_num_row {p : Int} {c0 : Nat} {x : Nat → List Nat → Call} (hr : InR r) (hs : PyUe09.shape p = some (1, 1)) (h : PyFlat.call PyUe09.shape (p :: r) = some (c, t)) (hc : ∀ m row, InR (m :: row) → callOf ((PyUe09.whole [[p, m], row]).headD []) = some (x m.toNat (row.map Int.toNat)))
    (hR : ∀ m row s, Rd c0 (m :: row.length :: (row ++ s)) (x m row) s) : OneOk c0 r c t := by
  obtain ⟨hl, xs, e, rfl⟩ := call_split hs h
  cases r with
  | nil => simp at hl
  | cons m r =>
    obtain ⟨row, n, rfl, e1, e2⟩ := rows1 e
    have e1 : r = (n : Int) :: (row ++ t) := e1
    subst e1
    have hx : InR row := inr_app1 (inr_tail (inr_tail hr))
    refine ⟨_, hc m row (inr_cons (hr m (List.mem_cons_self ..)) hx), ?_, inr_app2 (inr_tail (inr_tail hr)), by simp; omega⟩
    rw [List.map_cons, List.map_cons, toNat_nat, List.map_append, ← e2]
    have := hR m.toNat (row.map Int.toNat) (t.map Int.toNat)
    rw [List.length_map] at this
    exact this
theorem cOf {s : List Int} {x : Option Call} (h : InR s) (e : callIn (s.map Int.toNat) = x) : callOf s = x := (callOf_eq h).trans e
theorem inr_num {n : Nat} {s : List Int} (hn : n < 13) (h : InR s) : InR ((n : Int) :: s) := inr_cons ⟨by omega, by omega⟩ h
/-- one call -/
theorem one_call {s : List Int} (hr : InR s) (h : PyFlat.call PyUe09.shape s = some (c, t)) (ha : (callOf ((PyUe09.whole c).headD [])).isSome = true) : ∃ (c0 : Nat) (r : List Int), s = (c0 : Int) :: r ∧ OneOk c0 r c t := by
  cases s with
  | nil => cases h
  | cons p r =>
    have hp := hr p (List.mem_cons_self ..)
    have hr' := inr_tail hr
    obtain ⟨c0, rfl⟩ : ∃ c0 : Nat, p = (c0 : Int) := ⟨p.toNat, by omega⟩
    refine ⟨c0, r, rfl, ?_⟩
    by_cases h13 : c0 < 13
    · match c0, h13, h with
      | 0, _, h =>
        obtain ⟨hl, xs, e, rfl⟩ := call_split (p := 0) (n := 2) (k := 0) rfl h
        obtain ⟨rfl, rfl⟩ := rows0 e
        match r, hl with
        | m :: v :: r, _ =>
          have hmv : InR [(0 : Int), m, v] := inr_num (n := 0) (by decide) (inr_cons (hr' m (by simp)) (inr_cons (hr' v (by simp)) (fun _ h => nomatch h)))
          have ha : (callOf [0, m, v]).isSome = true := ha
          rw [callOf_eq hmv] at ha
          have ha : ((bit v.toNat).map fun s => Call.map_ m.toNat s).isSome = true := ha
          cases eb : bit v.toNat with
          | none => rw [eb] at ha; cases ha
          | some b =>
            refine ⟨.map_ m.toNat b, ?_, ⟨m.toNat, v.toNat, b, rfl, eb, rfl⟩, inr_tail (inr_tail hr'), by simp; omega⟩
            show callOf [0, m, v] = _
            rw [callOf_eq hmv]
            show ((bit v.toNat).map fun s => Call.map_ m.toNat s) = _
            rw [eb]; rfl
      | 1, _, h =>
        obtain ⟨hl, xs, e, rfl⟩ := call_split (p := 1) (n := 2) (k := 1) rfl h
        match r, hl with
        | m :: v :: r, _ =>
          obtain ⟨row, n, rfl, e1, e2⟩ := rows1 e
          have e1 : r = (n : Int) :: (row ++ t) := e1
          subst e1
          have hx : InR row := inr_app1 (inr_tail (inr_tail (inr_tail hr')))
          have hall : InR ((1 : Int) :: m :: v :: row) := inr_num (n := 1) (by decide) (inr_cons (hr' m (by simp)) (inr_cons (hr' v (by simp)) hx))
          have ha : (callOf (1 :: m :: v :: row)).isSome = true := ha
          have ec : callOf (1 :: m :: v :: row) = (bit v.toNat).bind fun w => (targetIn (row.map Int.toNat)).map fun x => Call.bind m.toNat w x.1 x.2 := cOf hall rfl
          rw [ec] at ha
          cases eb : bit v.toNat with
          | none => rw [eb] at ha; cases ha
          | some b =>
            rw [eb] at ha ec
            cases et : targetIn (row.map Int.toNat) with
            | none => rw [et] at ha; cases ha
            | some x =>
              rw [et] at ec
              refine ⟨.bind m.toNat b x.1 x.2, ec, ⟨m.toNat, v.toNat, b, row.map Int.toNat, x.1, x.2, ?_, eb, et, rfl⟩, inr_app2 (inr_tail (inr_tail (inr_tail hr'))), by simp; omega⟩
              rw [List.map_cons, List.map_cons, List.map_cons, toNat_nat, List.map_append, ← e2, List.length_map]
      | 2, _, h => exact one_num_row (p := 2) (x := .unbind) hr' rfl h (fun m row hm => cOf (s := 2 :: m :: row) (inr_num (n := 2) (by decide) hm) rfl) (fun m row s => ⟨m, row, rfl, rfl⟩)
      | 3, _, h => exact one_row (p := 3) (x := .use) hr' rfl h (fun row hm => cOf (s := 3 :: row) (inr_num (n := 3) (by decide) hm) rfl) (fun row s => ⟨row, rfl, rfl⟩)
      | 4, _, h =>
        obtain ⟨hl, xs, e, rfl⟩ := call_split (p := 4) (n := 1) (k := 0) rfl h
        obtain ⟨rfl, rfl⟩ := rows0 e
        match r, hl with
        | m :: r, _ =>
          refine ⟨.wait m.toNat, cOf (s := [4, m]) (inr_num (n := 4) (by decide) (inr_cons (hr' m (by simp)) (fun _ h => nomatch h))) rfl, ⟨m.toNat, rfl, rfl⟩, inr_tail hr', by simp⟩
      | 5, _, h => exact one_num_row (p := 5) (x := .press) hr' rfl h (fun m row hm => cOf (s := 5 :: m :: row) (inr_num (n := 5) (by decide) hm) rfl) (fun m row s => ⟨m, row, rfl, rfl⟩)
      | 6, _, h => exact one_plain (p := 6) (x := .flush) hr' rfl h rfl (fun s => ⟨rfl, rfl⟩)
      | 7, _, h => exact one_plain (p := 7) (x := .open_) hr' rfl h rfl (fun s => ⟨rfl, rfl⟩)
      | 8, _, h => exact one_row (p := 8) (x := .lookup) hr' rfl h (fun row hm => cOf (s := 8 :: row) (inr_num (n := 8) (by decide) hm) rfl) (fun row s => ⟨row, rfl, rfl⟩)
      | 9, _, h => exact one_row (p := 9) (x := .hints) hr' rfl h (fun row hm => cOf (s := 9 :: row) (inr_num (n := 9) (by decide) hm) rfl) (fun row s => ⟨row, rfl, rfl⟩)
      | 10, _, h => exact one_plain (p := 10) (x := .hidden) hr' rfl h rfl (fun s => ⟨rfl, rfl⟩)
      | 11, _, h => exact one_row (p := 11) (x := .would) hr' rfl h (fun row hm => cOf (s := 11 :: row) (inr_num (n := 11) (by decide) hm) rfl) (fun row s => ⟨row, rfl, rfl⟩)
      | 12, _, h => exact one_plain (p := 12) (x := .rings) hr' rfl h rfl (fun s => ⟨rfl, rfl⟩)
    · exfalso
      have e : PyUe09.shape (c0 : Int) = none := by
        unfold PyUe09.shape
        repeat rw [if_neg (by omega)]
      simp only [PyFlat.call, e] at h
      cases h
end
/-- the calls to come, from the list -/
theorem todo_of : ∀ (f : Nat) (s : List Int) (raw : List (List (List Int))) (g : House), PyFlat.calls PyUe09.shape f s = some raw → InR s → (∀ c ∈ raw, (callOf ((PyUe09.whole c).headD [])).isSome = true) →
    Todo (s.map Int.toNat) g (PyFlat.told (PyFlat.played (fun s c => Ue09Neutral.step s (c.headD [])) g (raw.map PyUe09.whole)))
  | _, [], raw, g, h, _, _ => by
    have e : raw = [] := by cases ‹Nat› <;> (simp only [PyFlat.calls] at h; cases h; rfl)
    subst e
    exact .done g
  | 0, _ :: _, _, _, h, _, _ => by cases h
  | f + 1, p :: r, raw, g, h, hr, ha => by
    simp only [PyFlat.calls] at h
    split at h
    · cases h
    · rename_i c t e
      split at h
      · cases h
      · rename_i cs e2
        cases h
        obtain ⟨c0, r', es, x, ex, hR, ht, hl⟩ := one_call hr e (ha c (List.mem_cons_self ..))
        cases es
        have ih := todo_of f t cs (Ue09.step g x).1 e2 ht fun d hd => ha d (List.mem_cons_of_mem _ hd)
        have est : Ue09Neutral.step g ((PyUe09.whole c).headD []) = Ue09.step g x := by
          unfold Ue09Neutral.step
          rw [ex]
        have eA : PyFlat.told (PyFlat.played (fun s c => Ue09Neutral.step s (c.headD [])) g ((c :: cs).map PyUe09.whole)) =
            ((Ue09.step g x).2.length : Int) :: ((Ue09.step g x).2 ++ PyFlat.told (PyFlat.played (fun s c => Ue09Neutral.step s (c.headD [])) (Ue09.step g x).1 (cs.map PyUe09.whole))) := by
          rw [List.map_cons, PyFlat.played, PyFlat.told, List.flatMap_cons, est]
          rfl
        rw [eA, List.map_cons, toNat_nat]
        exact .next hR ih
/-- what is asked, said of the list -/
theorem asked_todo {ns : List Int} (hr : InR ns) (h : PyUe09.answers_asked ns = true) : Todo (ns.map Int.toNat) Ue09.init (PyUe09.answers ns) ∧ (PyUe09.answers ns).length ≤ 10000000 := by
  unfold PyUe09.answers_asked at h
  split at h
  · cases h
  · rename_i raw e
    simp only [Bool.and_eq_true] at h
    obtain ⟨⟨⟨_, _⟩, h4⟩, h5⟩ := h
    have h5 : (PyUe09.answers ns).length ≤ 10000000 := of_decide_eq_true h5
    refine ⟨?_, h5⟩
    have ea : PyUe09.answers ns = PyFlat.told (PyFlat.played (fun s c => Ue09Neutral.step s (c.headD [])) Ue09.init (raw.map PyUe09.whole)) := by
      unfold PyUe09.answers PyUe09.calls
      rw [e]; rfl
    rw [ea]
    refine todo_of _ _ raw _ e hr fun c hc => ?_
    have h6 : (((raw.map PyUe09.whole).map fun c => c.headD []).all Ue09Neutral.asked1) = true := (Bool.and_eq_true_iff.mp h4).1
    exact List.all_eq_true.mp h6 _ (List.mem_map.mpr ⟨_, List.mem_map.mpr ⟨c, hc, rfl⟩, rfl⟩)
end Km

namespace Km
open Ue09 (House Call Maps Map_ mapAt setMap runOf after pressed flushed)
/-! ### a keyboard stays as it may be -/
theorem mapAt_set {m : Maps} {n : Nat} {x : Map_} (hn : n < m.all.length) (k : Nat) : mapAt (setMap m n x) k = if k = n then x else mapAt m k := by
  unfold mapAt setMap
  by_cases h : k = n
  · subst h; rw [if_pos rfl, List.getElem?_set_self hn]; rfl
  · rw [if_neg h, List.getElem?_set_ne (Ne.symm h)]
theorem okM_set {m : Maps} (ok : OkM m) {n : Nat} {x : Map_} (hn : n < 8) (h1 : ∀ b ∈ x.bindings, OkB b) (h2 : (x.bindings.map (·.seq)).Nodup) (h3 : x.bindings.length ≤ 20) : OkM (setMap m n x) := by
  have hn' : n < m.all.length := by rw [ok.len]; exact hn
  refine ⟨?_, fun k b hb => ?_, fun k => ?_, fun k => ?_, ok.use, ok.use1, ok.use6⟩
  · show (m.all.set n x).length = 8
    rw [List.length_set]; exact ok.len
  · rw [mapAt_set hn'] at hb
    split at hb
    · exact h1 b hb
    · exact ok.all k b hb
  · rw [mapAt_set hn']
    split
    · exact h2
    · exact ok.nd k
  · rw [mapAt_set hn']
    split
    · exact h3
    · exact ok.many k
theorem filter_nd {s : Ue09.Keys} {l : List Ue09.Binding} (h : (l.map (·.seq)).Nodup) : ((l.filter fun b => b.seq != s).map (·.seq)).Nodup := (List.Sublist.map _ List.filter_sublist).nodup h
theorem press_okG {g : House} (h : OkG g) {gap : Nat} {l : List Nat} (hl : l.length ≤ 20) : OkG (after g (pressed (if g.wait ≤ gap then flushed (runOf g) else runOf g) l)) := by
  have bt := h.btw
  by_cases c : g.wait ≤ gap
  · rw [if_pos c, flushed_eq bt (by decide)]
    obtain ⟨b1, _, _⟩ := bt.flush (by decide)
    rw [pressed_eq l b1 (by omega)]
    exact (presses l b1 (by omega)).1.okG
  · rw [if_neg c, pressed_eq l bt (by omega)]
    exact (presses l bt (by omega)).1.okG
theorem step_okG {g : House} (h : OkG g) (c : Call) : OkG (Ue09.step g c).1 := by
  cases c with
  | map_ n s =>
    simp only [Ue09.step]
    split
    · exact h
    · rename_i hn
      exact ⟨okM_set h.ok (by omega) (fun _ hb => nomatch hb) (by simp) (by simp), h.short, h.dig⟩
  | bind n w t s =>
    simp only [Ue09.step]
    split
    · exact h
    · rename_i hn
      split
      · exact h
      · rename_i ho
        split
        · exact h
        · rename_i hl
          have ho : (Ue09.seqOk s && Ue09.targetOk t) = true := by simpa using ho
          rw [Bool.and_eq_true] at ho
          refine ⟨okM_set h.ok (by omega) (fun b hb => ?_) ?_ ?_, h.short, h.dig⟩
          · rcases List.mem_append.mp hb with hb | hb
            · exact h.ok.all n b (List.mem_filter.mp hb).1
            · have : b = ⟨s, w, t⟩ := by simpa using hb
              subst this
              exact ⟨ho.1, ho.2⟩
          · show ((((mapAt g.maps n).bindings.filter fun (b : Ue09.Binding) => b.seq != s) ++ [(⟨s, w, t⟩ : Ue09.Binding)]).map fun (b : Ue09.Binding) => b.seq).Nodup
            rw [List.map_append, List.nodup_append]
            refine ⟨filter_nd (h.ok.nd n), by simp, fun x hx y hy => ?_⟩
            obtain ⟨b, hb, rfl⟩ := List.mem_map.mp hx
            have hy : y = s := by simpa using hy
            subst hy
            have := (List.mem_filter.mp hb).2
            simpa using this
          · show (((mapAt g.maps n).bindings.filter fun (b : Ue09.Binding) => b.seq != s) ++ [(⟨s, w, t⟩ : Ue09.Binding)]).length ≤ 20
            rw [List.length_append, List.length_singleton]
            omega
  | unbind n s =>
    simp only [Ue09.step]
    split
    · exact h
    · rename_i hn
      split
      · exact h
      · refine ⟨okM_set h.ok (by omega) (fun b hb => h.ok.all n b (List.mem_filter.mp hb).1) (filter_nd (h.ok.nd n)) ?_, h.short, h.dig⟩
        exact Nat.le_trans (List.length_filter_le ..) (h.ok.many n)
  | use l =>
    simp only [Ue09.step]
    split
    · exact h
    · rename_i hc
      simp only [not_or] at hc
      obtain ⟨c1, c2, c3⟩ := hc
      refine ⟨⟨h.ok.len, h.ok.all, h.ok.nd, h.ok.many, fun n hn => ?_, ?_, ?_⟩, h.short, h.dig⟩
      · have c3 : (l.any fun n => decide (8 ≤ n)) = false := by simpa using c3
        have := List.any_eq_false.mp c3 n hn
        simp at this
        omega
      · exact List.length_pos_iff.mpr c1
      · have : Ue09.MAPS = 6 := rfl
        show l.length ≤ 6
        omega
  | wait t =>
    simp only [Ue09.step]
    split
    · exact h
    · exact ⟨h.ok, h.short, h.dig⟩
  | press gap l =>
    simp only [Ue09.step]
    split
    · exact h
    · rename_i hc
      simp only [not_or] at hc
      exact press_okG h (by omega)
  | flush =>
    simp only [Ue09.step]
    have bt := h.btw
    rw [flushed_eq bt (by decide)]
    exact (bt.flush (by decide)).1.okG
  | open_ => exact h
  | lookup s => exact h
  | hints p => exact h
  | hidden => exact h
  | would l => exact h
  | rings => exact h
theorem init_okG : OkG Ue09.init := by
  have e : ∀ n, mapAt Ue09.init.maps n = ⟨false, []⟩ := fun n => by
    unfold mapAt
    show ((List.replicate 8 (⟨false, []⟩ : Map_))[n]?).getD ⟨false, []⟩ = _
    rw [List.getElem?_replicate]
    split <;> rfl
  refine ⟨⟨rfl, fun n b hb => ?_, fun n => ?_, fun n => ?_, fun n hn => ?_, by decide, by decide⟩, by decide, dig_nil⟩
  · rw [e] at hb; cases hb
  · rw [e]; exact List.nodup_nil
  · rw [e]; exact Nat.zero_le _
  · have : n = 0 := by simpa [Ue09.init] using hn
    omega
end Km

namespace Km
open PySem PySem.Spec PyProof.Rows L2
def top (i : Nat) : Stmt := PySem.Challenge.pw_keymaps_s01_answers.main.body.getD i (.Pass ⟨0, 0, 0, 0⟩)
abbrev s_Binding_init : Stmt := inClass (top 13) 0
abbrev s_read_binding : Stmt := top 14
abbrev s_keys_fit : Stmt := top 15
abbrev s_sequence_fits : Stmt := top 16
abbrev s_details_fit : Stmt := top 17
abbrev s_binding_fits : Stmt := top 18
abbrev s_KeyMap_init : Stmt := inClass (top 20) 0
abbrev s_KeyMap_add_binding : Stmt := inClass (top 20) 1
abbrev s_maps_in_use : Stmt := top 21
abbrev s_counting_maps : Stmt := top 22
abbrev s_binding_map : Stmt := top 23
abbrev s_bound : Stmt := top 24
abbrev s_bound_at_once : Stmt := top 25
abbrev s_goes_on : Stmt := top 26
abbrev s_longest_bound : Stmt := top 27
abbrev s_KeyStream_init : Stmt := inClass (top 39) 0
abbrev s_KeyStream_put_in_use : Stmt := inClass (top 39) 1
abbrev s_KeyStream_take_events : Stmt := inClass (top 39) 2
abbrev s_KeyStream_press_key : Stmt := inClass (top 39) 3
abbrev s_KeyStream_wait_long_enough : Stmt := inClass (top 39) 4
abbrev s_KeyStream_go_through : Stmt := inClass (top 39) 5
abbrev s_KeyStream_counting : Stmt := inClass (top 39) 6
abbrev s_KeyStream_more_may_come : Stmt := inClass (top 39) 7
abbrev s_KeyStream_settle : Stmt := inClass (top 39) 8
abbrev s_KeyStream_take_as_it_is : Stmt := inClass (top 39) 9
abbrev s_KeyStream_is_count_digit : Stmt := inClass (top 39) 10
abbrev s_KeyStream_carry_out : Stmt := inClass (top 39) 11
abbrev s_KeyStream_put_keys : Stmt := inClass (top 39) 12
abbrev s_KeyStream_tell_keys : Stmt := inClass (top 39) 13
abbrev s_KeyStream_change_maps : Stmt := inClass (top 39) 14
abbrev s_KeyStream_tell : Stmt := inClass (top 39) 15
abbrev s_try_out : Stmt := top 40
abbrev s_makes_ring : Stmt := top 41
abbrev s_sequence_state : Stmt := top 45
abbrev s_next_keys : Stmt := top 46
abbrev s_cut_short : Stmt := top 47
abbrev s_bound_by : Stmt := top 48
abbrev s_hidden_sequences : Stmt := top 49
abbrev s_bound_sequences : Stmt := top 50
abbrev s_Board_init : Stmt := inClass (top 60) 0
abbrev s_Board_renew_map : Stmt := inClass (top 60) 1
abbrev s_Board_bind : Stmt := inClass (top 60) 2
abbrev s_Board_unbind : Stmt := inClass (top 60) 3
abbrev s_Board_use : Stmt := inClass (top 60) 4
abbrev s_Board_wait : Stmt := inClass (top 60) 5
abbrev s_Board_press : Stmt := inClass (top 60) 6
abbrev s_Board_flush : Stmt := inClass (top 60) 7
abbrev s_Board_tell_open : Stmt := inClass (top 60) 8
abbrev s_Board_lookup : Stmt := inClass (top 60) 9
abbrev s_Board_hints : Stmt := inClass (top 60) 10
abbrev s_Board_hidden : Stmt := inClass (top 60) 11
abbrev s_Board_would : Stmt := inClass (top 60) 12
abbrev s_Board_rings : Stmt := inClass (top 60) 13
abbrev s_counted : Stmt := top 61
abbrev s_event_answer : Stmt := top 62
abbrev s_Reader_init : Stmt := inClass (top 64) 0
abbrev s_Reader_has_more : Stmt := inClass (top 64) 1
abbrev s_Reader_take_number : Stmt := inClass (top 64) 2
abbrev s_Reader_take_row : Stmt := inClass (top 64) 3
abbrev s_call_map : Stmt := top 65
abbrev s_call_bind : Stmt := top 66
abbrev s_call_unbind : Stmt := top 67
abbrev s_call_use : Stmt := top 68
abbrev s_call_wait : Stmt := top 69
abbrev s_call_press : Stmt := top 70
abbrev s_call_flush : Stmt := top 71
abbrev s_call_open : Stmt := top 72
abbrev s_call_lookup : Stmt := top 73
abbrev s_call_hints : Stmt := top 74
abbrev s_call_hidden : Stmt := top 75
abbrev s_call_would : Stmt := top 76
abbrev s_call_rings : Stmt := top 77
abbrev s_answers : Stmt := top 79
theorem sc_Binding_init : FnScope ["self", "at_once", "purpose", "details", "sequence"] ["self", "at_once", "purpose", "details", "sequence"] (defScope s_Binding_init) := ⟨rfl, rfl, rfl, by decide +kernel, rfl, by decide +kernel, by decide +kernel⟩
theorem sc_read_binding : FnScope ["at_once", "row", "purpose", "start", "how_many", "end"] ["at_once", "row"] (defScope s_read_binding) := ⟨rfl, rfl, rfl, by decide +kernel, rfl, by decide +kernel, by decide +kernel⟩
theorem sc_keys_fit : FnScope ["keys", "fewest", "most"] ["keys", "fewest", "most"] (defScope s_keys_fit) := ⟨rfl, rfl, rfl, by decide +kernel, rfl, by decide +kernel, by decide +kernel⟩
theorem sc_sequence_fits : FnScope ["sequence"] ["sequence"] (defScope s_sequence_fits) := ⟨rfl, rfl, rfl, by decide +kernel, rfl, by decide +kernel, by decide +kernel⟩
theorem sc_details_fit : FnScope ["purpose", "details"] ["purpose", "details"] (defScope s_details_fit) := ⟨rfl, rfl, rfl, by decide +kernel, rfl, by decide +kernel, by decide +kernel⟩
theorem sc_binding_fits : FnScope ["binding"] ["binding"] (defScope s_binding_fits) := ⟨rfl, rfl, rfl, by decide +kernel, rfl, by decide +kernel, by decide +kernel⟩
theorem sc_KeyMap_init : FnScope ["self", "number", "shut"] ["self", "number", "shut"] (defScope s_KeyMap_init) := ⟨rfl, rfl, rfl, by decide +kernel, rfl, by decide +kernel, by decide +kernel⟩
theorem sc_KeyMap_add_binding : FnScope ["self", "binding"] ["self", "binding"] (defScope s_KeyMap_add_binding) := ⟨rfl, rfl, rfl, by decide +kernel, rfl, by decide +kernel, by decide +kernel⟩
theorem sc_maps_in_use : FnScope ["maps", "in_use", "numbers", "number"] ["maps", "in_use"] (defScope s_maps_in_use) := ⟨rfl, rfl, rfl, by decide +kernel, rfl, by decide +kernel, by decide +kernel⟩
theorem sc_counting_maps : FnScope ["maps", "in_use", "counting", "key_map"] ["maps", "in_use"] (defScope s_counting_maps) := ⟨rfl, rfl, rfl, by decide +kernel, rfl, by decide +kernel, by decide +kernel⟩
theorem sc_binding_map : FnScope ["counting", "sequence", "key_map"] ["counting", "sequence"] (defScope s_binding_map) := ⟨rfl, rfl, rfl, by decide +kernel, rfl, by decide +kernel, by decide +kernel⟩
theorem sc_bound : FnScope ["counting", "sequence", "key_map"] ["counting", "sequence"] (defScope s_bound) := ⟨rfl, rfl, rfl, by decide +kernel, rfl, by decide +kernel, by decide +kernel⟩
theorem sc_bound_at_once : FnScope ["counting", "sequence", "binding"] ["counting", "sequence"] (defScope s_bound_at_once) := ⟨rfl, rfl, rfl, by decide +kernel, rfl, by decide +kernel, by decide +kernel⟩
theorem sc_goes_on : FnScope ["counting", "sequence", "length", "key_map", "longer"] ["counting", "sequence"] (defScope s_goes_on) := ⟨rfl, rfl, rfl, by decide +kernel, rfl, by decide +kernel, by decide +kernel⟩
theorem sc_longest_bound : FnScope ["counting", "keys", "length", "binding"] ["counting", "keys"] (defScope s_longest_bound) := ⟨rfl, rfl, rfl, by decide +kernel, rfl, by decide +kernel, by decide +kernel⟩
theorem sc_KeyStream_init : FnScope ["self", "maps", "in_use", "open_keys", "digits"] ["self", "maps", "in_use", "open_keys", "digits"] (defScope s_KeyStream_init) := ⟨rfl, rfl, rfl, by decide +kernel, rfl, by decide +kernel, by decide +kernel⟩
theorem sc_KeyStream_put_in_use : FnScope ["self", "numbers"] ["self", "numbers"] (defScope s_KeyStream_put_in_use) := ⟨rfl, rfl, rfl, by decide +kernel, rfl, by decide +kernel, by decide +kernel⟩
theorem sc_KeyStream_take_events : FnScope ["self", "events"] ["self"] (defScope s_KeyStream_take_events) := ⟨rfl, rfl, rfl, by decide +kernel, rfl, by decide +kernel, by decide +kernel⟩
theorem sc_KeyStream_press_key : FnScope ["self", "key"] ["self", "key"] (defScope s_KeyStream_press_key) := ⟨rfl, rfl, rfl, by decide +kernel, rfl, by decide +kernel, by decide +kernel⟩
theorem sc_KeyStream_wait_long_enough : FnScope ["self"] ["self"] (defScope s_KeyStream_wait_long_enough) := ⟨rfl, rfl, rfl, by decide +kernel, rfl, by decide +kernel, by decide +kernel⟩
theorem sc_KeyStream_go_through : FnScope ["self"] ["self"] (defScope s_KeyStream_go_through) := ⟨rfl, rfl, rfl, by decide +kernel, rfl, by decide +kernel, by decide +kernel⟩
theorem sc_KeyStream_counting : FnScope ["self"] ["self"] (defScope s_KeyStream_counting) := ⟨rfl, rfl, rfl, by decide +kernel, rfl, by decide +kernel, by decide +kernel⟩
theorem sc_KeyStream_more_may_come : FnScope ["self", "counting", "sequence"] ["self"] (defScope s_KeyStream_more_may_come) := ⟨rfl, rfl, rfl, by decide +kernel, rfl, by decide +kernel, by decide +kernel⟩
theorem sc_KeyStream_settle : FnScope ["self", "keys", "binding", "used"] ["self"] (defScope s_KeyStream_settle) := ⟨rfl, rfl, rfl, by decide +kernel, rfl, by decide +kernel, by decide +kernel⟩
theorem sc_KeyStream_take_as_it_is : FnScope ["self", "key"] ["self", "key"] (defScope s_KeyStream_take_as_it_is) := ⟨rfl, rfl, rfl, by decide +kernel, rfl, by decide +kernel, by decide +kernel⟩
theorem sc_KeyStream_is_count_digit : FnScope ["self", "key"] ["self", "key"] (defScope s_KeyStream_is_count_digit) := ⟨rfl, rfl, rfl, by decide +kernel, rfl, by decide +kernel, by decide +kernel⟩
theorem sc_KeyStream_carry_out : FnScope ["self", "binding", "used", "purpose"] ["self", "binding", "used"] (defScope s_KeyStream_carry_out) := ⟨rfl, rfl, rfl, by decide +kernel, rfl, by decide +kernel, by decide +kernel⟩
theorem sc_KeyStream_put_keys : FnScope ["self", "keys", "used"] ["self", "keys", "used"] (defScope s_KeyStream_put_keys) := ⟨rfl, rfl, rfl, by decide +kernel, rfl, by decide +kernel, by decide +kernel⟩
theorem sc_KeyStream_tell_keys : FnScope ["self", "keys", "used", "place", "key"] ["self", "keys", "used"] (defScope s_KeyStream_tell_keys) := ⟨rfl, rfl, rfl, by decide +kernel, rfl, by decide +kernel, by decide +kernel⟩
theorem sc_KeyStream_change_maps : FnScope ["self", "binding", "purpose"] ["self", "binding"] (defScope s_KeyStream_change_maps) := ⟨rfl, rfl, rfl, by decide +kernel, rfl, by decide +kernel, by decide +kernel⟩
theorem sc_KeyStream_tell : FnScope ["self", "kind", "number", "used", "count", "digit"] ["self", "kind", "number", "used"] (defScope s_KeyStream_tell) := ⟨rfl, rfl, rfl, by decide +kernel, rfl, by decide +kernel, by decide +kernel⟩
theorem sc_try_out : FnScope ["stream", "keys", "key"] ["stream", "keys"] (defScope s_try_out) := ⟨rfl, rfl, rfl, by decide +kernel, rfl, by decide +kernel, by decide +kernel⟩
theorem sc_makes_ring : FnScope ["events", "event"] ["events"] (defScope s_makes_ring) := ⟨rfl, rfl, rfl, by decide +kernel, rfl, by decide +kernel, by decide +kernel⟩
theorem sc_sequence_state : FnScope ["counting", "sequence", "state"] ["counting", "sequence"] (defScope s_sequence_state) := ⟨rfl, rfl, rfl, by decide +kernel, rfl, by decide +kernel, by decide +kernel⟩
theorem sc_next_keys : FnScope ["counting", "beginning", "length", "found", "key_map", "sequence"] ["counting", "beginning"] (defScope s_next_keys) := ⟨rfl, rfl, rfl, by decide +kernel, rfl, by decide +kernel, by decide +kernel⟩
theorem sc_cut_short : FnScope ["counting", "sequence", "length"] ["counting", "sequence"] (defScope s_cut_short) := ⟨rfl, rfl, rfl, by decide +kernel, rfl, by decide +kernel, by decide +kernel⟩
theorem sc_bound_by : FnScope ["counting", "key_map", "sequence", "binder"] ["counting", "key_map", "sequence"] (defScope s_bound_by) := ⟨rfl, rfl, rfl, by decide +kernel, rfl, by decide +kernel, by decide +kernel⟩
theorem sc_hidden_sequences : FnScope ["maps", "in_use", "counting", "found", "key_map", "sequence"] ["maps", "in_use"] (defScope s_hidden_sequences) := ⟨rfl, rfl, rfl, by decide +kernel, rfl, by decide +kernel, by decide +kernel⟩
theorem sc_bound_sequences : FnScope ["counting", "sequences", "key_map", "sequence"] ["counting"] (defScope s_bound_sequences) := ⟨rfl, rfl, rfl, by decide +kernel, rfl, by decide +kernel, by decide +kernel⟩
theorem sc_Board_init : FnScope ["self", "number"] ["self"] (defScope s_Board_init) := ⟨rfl, rfl, rfl, by decide +kernel, rfl, by decide +kernel, by decide +kernel⟩
theorem sc_Board_renew_map : FnScope ["self", "number", "shut"] ["self", "number", "shut"] (defScope s_Board_renew_map) := ⟨rfl, rfl, rfl, by decide +kernel, rfl, by decide +kernel, by decide +kernel⟩
theorem sc_Board_bind : FnScope ["self", "number", "binding", "key_map"] ["self", "number", "binding"] (defScope s_Board_bind) := ⟨rfl, rfl, rfl, by decide +kernel, rfl, by decide +kernel, by decide +kernel⟩
theorem sc_Board_unbind : FnScope ["self", "number", "sequence", "bindings"] ["self", "number", "sequence"] (defScope s_Board_unbind) := ⟨rfl, rfl, rfl, by decide +kernel, rfl, by decide +kernel, by decide +kernel⟩
theorem sc_Board_use : FnScope ["self", "numbers"] ["self", "numbers"] (defScope s_Board_use) := ⟨rfl, rfl, rfl, by decide +kernel, rfl, by decide +kernel, by decide +kernel⟩
theorem sc_Board_wait : FnScope ["self", "ticks"] ["self", "ticks"] (defScope s_Board_wait) := ⟨rfl, rfl, rfl, by decide +kernel, rfl, by decide +kernel, by decide +kernel⟩
theorem sc_Board_press : FnScope ["self", "ticks", "keys", "key"] ["self", "ticks", "keys"] (defScope s_Board_press) := ⟨rfl, rfl, rfl, by decide +kernel, rfl, by decide +kernel, by decide +kernel⟩
theorem sc_Board_flush : FnScope ["self"] ["self"] (defScope s_Board_flush) := ⟨rfl, rfl, rfl, by decide +kernel, rfl, by decide +kernel, by decide +kernel⟩
theorem sc_Board_tell_open : FnScope ["self", "stream"] ["self"] (defScope s_Board_tell_open) := ⟨rfl, rfl, rfl, by decide +kernel, rfl, by decide +kernel, by decide +kernel⟩
theorem sc_Board_lookup : FnScope ["self", "sequence", "counting", "key_map"] ["self", "sequence"] (defScope s_Board_lookup) := ⟨rfl, rfl, rfl, by decide +kernel, rfl, by decide +kernel, by decide +kernel⟩
theorem sc_Board_hints : FnScope ["self", "keys", "counting", "found", "answer", "key"] ["self", "keys"] (defScope s_Board_hints) := ⟨rfl, rfl, rfl, by decide +kernel, rfl, by decide +kernel, by decide +kernel⟩
theorem sc_Board_hidden : FnScope ["self", "found", "answer", "number", "sequence"] ["self"] (defScope s_Board_hidden) := ⟨rfl, rfl, rfl, by decide +kernel, rfl, by decide +kernel, by decide +kernel⟩
theorem sc_Board_would : FnScope ["self", "keys", "stream"] ["self", "keys"] (defScope s_Board_would) := ⟨rfl, rfl, rfl, by decide +kernel, rfl, by decide +kernel, by decide +kernel⟩
theorem sc_Board_rings : FnScope ["self", "found", "sequence", "answer"] ["self"] (defScope s_Board_rings) := ⟨rfl, rfl, rfl, by decide +kernel, rfl, by decide +kernel, by decide +kernel⟩
theorem sc_counted : FnScope ["numbers"] ["numbers"] (defScope s_counted) := ⟨rfl, rfl, rfl, by decide +kernel, rfl, by decide +kernel, by decide +kernel⟩
theorem sc_event_answer : FnScope ["events", "answer", "event"] ["events"] (defScope s_event_answer) := ⟨rfl, rfl, rfl, by decide +kernel, rfl, by decide +kernel, by decide +kernel⟩
theorem sc_Reader_init : FnScope ["self", "numbers"] ["self", "numbers"] (defScope s_Reader_init) := ⟨rfl, rfl, rfl, by decide +kernel, rfl, by decide +kernel, by decide +kernel⟩
theorem sc_Reader_has_more : FnScope ["self"] ["self"] (defScope s_Reader_has_more) := ⟨rfl, rfl, rfl, by decide +kernel, rfl, by decide +kernel, by decide +kernel⟩
theorem sc_Reader_take_number : FnScope ["self", "number"] ["self"] (defScope s_Reader_take_number) := ⟨rfl, rfl, rfl, by decide +kernel, rfl, by decide +kernel, by decide +kernel⟩
theorem sc_Reader_take_row : FnScope ["self", "start"] ["self"] (defScope s_Reader_take_row) := ⟨rfl, rfl, rfl, by decide +kernel, rfl, by decide +kernel, by decide +kernel⟩
theorem sc_call_map : FnScope ["board", "reader", "number", "shut"] ["board", "reader"] (defScope s_call_map) := ⟨rfl, rfl, rfl, by decide +kernel, rfl, by decide +kernel, by decide +kernel⟩
theorem sc_call_bind : FnScope ["board", "reader", "number", "at_once"] ["board", "reader"] (defScope s_call_bind) := ⟨rfl, rfl, rfl, by decide +kernel, rfl, by decide +kernel, by decide +kernel⟩
theorem sc_call_unbind : FnScope ["board", "reader", "number"] ["board", "reader"] (defScope s_call_unbind) := ⟨rfl, rfl, rfl, by decide +kernel, rfl, by decide +kernel, by decide +kernel⟩
theorem sc_call_use : FnScope ["board", "reader"] ["board", "reader"] (defScope s_call_use) := ⟨rfl, rfl, rfl, by decide +kernel, rfl, by decide +kernel, by decide +kernel⟩
theorem sc_call_wait : FnScope ["board", "reader"] ["board", "reader"] (defScope s_call_wait) := ⟨rfl, rfl, rfl, by decide +kernel, rfl, by decide +kernel, by decide +kernel⟩
theorem sc_call_press : FnScope ["board", "reader", "ticks"] ["board", "reader"] (defScope s_call_press) := ⟨rfl, rfl, rfl, by decide +kernel, rfl, by decide +kernel, by decide +kernel⟩
theorem sc_call_flush : FnScope ["board", "reader"] ["board", "reader"] (defScope s_call_flush) := ⟨rfl, rfl, rfl, by decide +kernel, rfl, by decide +kernel, by decide +kernel⟩
theorem sc_call_open : FnScope ["board", "reader"] ["board", "reader"] (defScope s_call_open) := ⟨rfl, rfl, rfl, by decide +kernel, rfl, by decide +kernel, by decide +kernel⟩
theorem sc_call_lookup : FnScope ["board", "reader"] ["board", "reader"] (defScope s_call_lookup) := ⟨rfl, rfl, rfl, by decide +kernel, rfl, by decide +kernel, by decide +kernel⟩
theorem sc_call_hints : FnScope ["board", "reader"] ["board", "reader"] (defScope s_call_hints) := ⟨rfl, rfl, rfl, by decide +kernel, rfl, by decide +kernel, by decide +kernel⟩
theorem sc_call_hidden : FnScope ["board", "reader"] ["board", "reader"] (defScope s_call_hidden) := ⟨rfl, rfl, rfl, by decide +kernel, rfl, by decide +kernel, by decide +kernel⟩
theorem sc_call_would : FnScope ["board", "reader"] ["board", "reader"] (defScope s_call_would) := ⟨rfl, rfl, rfl, by decide +kernel, rfl, by decide +kernel, by decide +kernel⟩
theorem sc_call_rings : FnScope ["board", "reader"] ["board", "reader"] (defScope s_call_rings) := ⟨rfl, rfl, rfl, by decide +kernel, rfl, by decide +kernel, by decide +kernel⟩
theorem sc_answers : FnScope ["calls", "reader", "board", "told", "call", "answer"] ["calls"] (defScope s_answers) := ⟨rfl, rfl, rfl, by decide +kernel, rfl, by decide +kernel, by decide +kernel⟩
/-- where the classes, defs and tables of the top stand -/
structure Ad where
  C_Binding : Addr
  C_KeyMap : Addr
  C_KeyStream : Addr
  C_Board : Addr
  C_Reader : Addr
  A_CALLS : Addr
  f_Binding_init : Addr
  fd_Binding_init : FuncData
  f_read_binding : Addr
  fd_read_binding : FuncData
  f_keys_fit : Addr
  fd_keys_fit : FuncData
  f_sequence_fits : Addr
  fd_sequence_fits : FuncData
  f_details_fit : Addr
  fd_details_fit : FuncData
  f_binding_fits : Addr
  fd_binding_fits : FuncData
  f_KeyMap_init : Addr
  fd_KeyMap_init : FuncData
  f_KeyMap_add_binding : Addr
  fd_KeyMap_add_binding : FuncData
  f_maps_in_use : Addr
  fd_maps_in_use : FuncData
  f_counting_maps : Addr
  fd_counting_maps : FuncData
  f_binding_map : Addr
  fd_binding_map : FuncData
  f_bound : Addr
  fd_bound : FuncData
  f_bound_at_once : Addr
  fd_bound_at_once : FuncData
  f_goes_on : Addr
  fd_goes_on : FuncData
  f_longest_bound : Addr
  fd_longest_bound : FuncData
  f_KeyStream_init : Addr
  fd_KeyStream_init : FuncData
  f_KeyStream_put_in_use : Addr
  fd_KeyStream_put_in_use : FuncData
  f_KeyStream_take_events : Addr
  fd_KeyStream_take_events : FuncData
  f_KeyStream_press_key : Addr
  fd_KeyStream_press_key : FuncData
  f_KeyStream_wait_long_enough : Addr
  fd_KeyStream_wait_long_enough : FuncData
  f_KeyStream_go_through : Addr
  fd_KeyStream_go_through : FuncData
  f_KeyStream_counting : Addr
  fd_KeyStream_counting : FuncData
  f_KeyStream_more_may_come : Addr
  fd_KeyStream_more_may_come : FuncData
  f_KeyStream_settle : Addr
  fd_KeyStream_settle : FuncData
  f_KeyStream_take_as_it_is : Addr
  fd_KeyStream_take_as_it_is : FuncData
  f_KeyStream_is_count_digit : Addr
  fd_KeyStream_is_count_digit : FuncData
  f_KeyStream_carry_out : Addr
  fd_KeyStream_carry_out : FuncData
  f_KeyStream_put_keys : Addr
  fd_KeyStream_put_keys : FuncData
  f_KeyStream_tell_keys : Addr
  fd_KeyStream_tell_keys : FuncData
  f_KeyStream_change_maps : Addr
  fd_KeyStream_change_maps : FuncData
  f_KeyStream_tell : Addr
  fd_KeyStream_tell : FuncData
  f_try_out : Addr
  fd_try_out : FuncData
  f_makes_ring : Addr
  fd_makes_ring : FuncData
  f_sequence_state : Addr
  fd_sequence_state : FuncData
  f_next_keys : Addr
  fd_next_keys : FuncData
  f_cut_short : Addr
  fd_cut_short : FuncData
  f_bound_by : Addr
  fd_bound_by : FuncData
  f_hidden_sequences : Addr
  fd_hidden_sequences : FuncData
  f_bound_sequences : Addr
  fd_bound_sequences : FuncData
  f_Board_init : Addr
  fd_Board_init : FuncData
  f_Board_renew_map : Addr
  fd_Board_renew_map : FuncData
  f_Board_bind : Addr
  fd_Board_bind : FuncData
  f_Board_unbind : Addr
  fd_Board_unbind : FuncData
  f_Board_use : Addr
  fd_Board_use : FuncData
  f_Board_wait : Addr
  fd_Board_wait : FuncData
  f_Board_press : Addr
  fd_Board_press : FuncData
  f_Board_flush : Addr
  fd_Board_flush : FuncData
  f_Board_tell_open : Addr
  fd_Board_tell_open : FuncData
  f_Board_lookup : Addr
  fd_Board_lookup : FuncData
  f_Board_hints : Addr
  fd_Board_hints : FuncData
  f_Board_hidden : Addr
  fd_Board_hidden : FuncData
  f_Board_would : Addr
  fd_Board_would : FuncData
  f_Board_rings : Addr
  fd_Board_rings : FuncData
  f_counted : Addr
  fd_counted : FuncData
  f_event_answer : Addr
  fd_event_answer : FuncData
  f_Reader_init : Addr
  fd_Reader_init : FuncData
  f_Reader_has_more : Addr
  fd_Reader_has_more : FuncData
  f_Reader_take_number : Addr
  fd_Reader_take_number : FuncData
  f_Reader_take_row : Addr
  fd_Reader_take_row : FuncData
  f_call_map : Addr
  fd_call_map : FuncData
  f_call_bind : Addr
  fd_call_bind : FuncData
  f_call_unbind : Addr
  fd_call_unbind : FuncData
  f_call_use : Addr
  fd_call_use : FuncData
  f_call_wait : Addr
  fd_call_wait : FuncData
  f_call_press : Addr
  fd_call_press : FuncData
  f_call_flush : Addr
  fd_call_flush : FuncData
  f_call_open : Addr
  fd_call_open : FuncData
  f_call_lookup : Addr
  fd_call_lookup : FuncData
  f_call_hints : Addr
  fd_call_hints : FuncData
  f_call_hidden : Addr
  fd_call_hidden : FuncData
  f_call_would : Addr
  fd_call_would : FuncData
  f_call_rings : Addr
  fd_call_rings : FuncData
  f_answers : Addr
  fd_answers : FuncData
/-- what the top has written -/
structure Txt (K : PySem.W.Frag) (mg : Str → Option Value) (a : Ad) : Prop where
  c_Binding : Cls K a.C_Binding
  g_Binding : mg "Binding" = some (.ref a.C_Binding)
  mk_Binding : Mk K a.C_Binding a.f_Binding_init
  no_Binding_at_once : NoAttr K a.C_Binding "at_once"
  no_Binding_purpose : NoAttr K a.C_Binding "purpose"
  no_Binding_details : NoAttr K a.C_Binding "details"
  no_Binding_sequence : NoAttr K a.C_Binding "sequence"
  c_KeyMap : Cls K a.C_KeyMap
  g_KeyMap : mg "KeyMap" = some (.ref a.C_KeyMap)
  mk_KeyMap : Mk K a.C_KeyMap a.f_KeyMap_init
  no_KeyMap_number : NoAttr K a.C_KeyMap "number"
  no_KeyMap_shut : NoAttr K a.C_KeyMap "shut"
  no_KeyMap_bindings : NoAttr K a.C_KeyMap "bindings"
  c_KeyStream : Cls K a.C_KeyStream
  g_KeyStream : mg "KeyStream" = some (.ref a.C_KeyStream)
  mk_KeyStream : Mk K a.C_KeyStream a.f_KeyStream_init
  no_KeyStream_maps : NoAttr K a.C_KeyStream "maps"
  no_KeyStream_in_use : NoAttr K a.C_KeyStream "in_use"
  no_KeyStream_open_keys : NoAttr K a.C_KeyStream "open_keys"
  no_KeyStream_digits : NoAttr K a.C_KeyStream "digits"
  no_KeyStream_to_come : NoAttr K a.C_KeyStream "to_come"
  no_KeyStream_times_put : NoAttr K a.C_KeyStream "times_put"
  no_KeyStream_events : NoAttr K a.C_KeyStream "events"
  c_Board : Cls K a.C_Board
  g_Board : mg "Board" = some (.ref a.C_Board)
  mk_Board : Mk K a.C_Board a.f_Board_init
  no_Board_maps : NoAttr K a.C_Board "maps"
  no_Board_stream : NoAttr K a.C_Board "stream"
  no_Board_ticks_to_wait : NoAttr K a.C_Board "ticks_to_wait"
  c_Reader : Cls K a.C_Reader
  g_Reader : mg "Reader" = some (.ref a.C_Reader)
  mk_Reader : Mk K a.C_Reader a.f_Reader_init
  no_Reader_numbers : NoAttr K a.C_Reader "numbers"
  no_Reader_place : NoAttr K a.C_Reader "place"
  k_COMMAND : ∃ t, mg "COMMAND" = some (.int (0) t)
  k_KEYS_INSTEAD : ∃ t, mg "KEYS_INSTEAD" = some (.int (1) t)
  k_KEYS_AS_THEY_ARE : ∃ t, mg "KEYS_AS_THEY_ARE" = some (.int (2) t)
  k_PUT_MAP : ∃ t, mg "PUT_MAP" = some (.int (3) t)
  k_TAKE_MAP : ∃ t, mg "TAKE_MAP" = some (.int (4) t)
  k_EXCHANGE_MAP : ∃ t, mg "EXCHANGE_MAP" = some (.int (5) t)
  k_NOTHING : ∃ t, mg "NOTHING" = some (.int (6) t)
  k_MAP_COUNT : ∃ t, mg "MAP_COUNT" = some (.int (8) t)
  k_HIGHEST_KEY : ∃ t, mg "HIGHEST_KEY" = some (.int (255) t)
  k_HIGHEST_COMMAND : ∃ t, mg "HIGHEST_COMMAND" = some (.int (999) t)
  k_LONGEST_SEQUENCE : ∃ t, mg "LONGEST_SEQUENCE" = some (.int (4) t)
  k_MOST_KEYS_PUT : ∃ t, mg "MOST_KEYS_PUT" = some (.int (6) t)
  k_EVENT_KEY : ∃ t, mg "EVENT_KEY" = some (.int (0) t)
  k_EVENT_COMMAND : ∃ t, mg "EVENT_COMMAND" = some (.int (1) t)
  k_EVENT_RING : ∃ t, mg "EVENT_RING" = some (.int (2) t)
  k_EVENT_MAP : ∃ t, mg "EVENT_MAP" = some (.int (3) t)
  k_EVENT_NOTHING : ∃ t, mg "EVENT_NOTHING" = some (.int (4) t)
  k_FIRST_DIGIT : ∃ t, mg "FIRST_DIGIT" = some (.int (48) t)
  k_LAST_DIGIT : ∃ t, mg "LAST_DIGIT" = some (.int (57) t)
  k_MOST_DIGITS : ∃ t, mg "MOST_DIGITS" = some (.int (4) t)
  k_MOST_IN_USE : ∃ t, mg "MOST_IN_USE" = some (.int (6) t)
  k_MOST_TIMES_PUT : ∃ t, mg "MOST_TIMES_PUT" = some (.int (50) t)
  k_IS_BOUND : ∃ t, mg "IS_BOUND" = some (.int (1) t)
  k_GOES_ON : ∃ t, mg "GOES_ON" = some (.int (2) t)
  k_NOT_AS_TOLD : ∃ t, mg "NOT_AS_TOLD" = some (.int (-1) t)
  k_NO_SUCH_MAP : ∃ t, mg "NO_SUCH_MAP" = some (.int (-2) t)
  k_MAP_IS_FULL : ∃ t, mg "MAP_IS_FULL" = some (.int (-5) t)
  k_NO_SUCH_SEQUENCE : ∃ t, mg "NO_SUCH_SEQUENCE" = some (.int (-6) t)
  k_MOST_BINDINGS : ∃ t, mg "MOST_BINDINGS" = some (.int (20) t)
  k_MOST_TICKS : ∃ t, mg "MOST_TICKS" = some (.int (1000) t)
  k_MOST_KEYS_PRESSED : ∃ t, mg "MOST_KEYS_PRESSED" = some (.int (20) t)
  k_TICKS_AT_FIRST : ∃ t, mg "TICKS_AT_FIRST" = some (.int (10) t)
  g_CALLS : mg "CALLS" = some (.ref a.A_CALLS)
  t_CALLS : ∀ H : Hp, SqT K H a.A_CALLS [.ref a.f_call_map, .ref a.f_call_bind, .ref a.f_call_unbind, .ref a.f_call_use, .ref a.f_call_wait, .ref a.f_call_press, .ref a.f_call_flush, .ref a.f_call_open, .ref a.f_call_lookup, .ref a.f_call_hints, .ref a.f_call_hidden, .ref a.f_call_would, .ref a.f_call_rings]
  n_enumerate : mg "enumerate" = none
  n_len : mg "len" = none
  n_list : mg "list" = none
  n_max : mg "max" = none
  n_range : mg "range" = none
  n_sorted : mg "sorted" = none
  n_tuple : mg "tuple" = none
  F_Binding_init : Fun K "__init__" "Binding.__init__" s_Binding_init a.f_Binding_init a.fd_Binding_init
  b_Binding_init : Binds K a.fd_Binding_init ["self", "at_once", "purpose", "details", "sequence"] []
  F_read_binding : Fun K "read_binding" "read_binding" s_read_binding a.f_read_binding a.fd_read_binding
  b_read_binding : Binds K a.fd_read_binding ["at_once", "row"] []
  g_read_binding : mg "read_binding" = some (.ref a.f_read_binding)
  F_keys_fit : Fun K "keys_fit" "keys_fit" s_keys_fit a.f_keys_fit a.fd_keys_fit
  b_keys_fit : Binds K a.fd_keys_fit ["keys", "fewest", "most"] []
  g_keys_fit : mg "keys_fit" = some (.ref a.f_keys_fit)
  F_sequence_fits : Fun K "sequence_fits" "sequence_fits" s_sequence_fits a.f_sequence_fits a.fd_sequence_fits
  b_sequence_fits : Binds K a.fd_sequence_fits ["sequence"] []
  g_sequence_fits : mg "sequence_fits" = some (.ref a.f_sequence_fits)
  F_details_fit : Fun K "details_fit" "details_fit" s_details_fit a.f_details_fit a.fd_details_fit
  b_details_fit : Binds K a.fd_details_fit ["purpose", "details"] []
  g_details_fit : mg "details_fit" = some (.ref a.f_details_fit)
  F_binding_fits : Fun K "binding_fits" "binding_fits" s_binding_fits a.f_binding_fits a.fd_binding_fits
  b_binding_fits : Binds K a.fd_binding_fits ["binding"] []
  g_binding_fits : mg "binding_fits" = some (.ref a.f_binding_fits)
  F_KeyMap_init : Fun K "__init__" "KeyMap.__init__" s_KeyMap_init a.f_KeyMap_init a.fd_KeyMap_init
  b_KeyMap_init : Binds K a.fd_KeyMap_init ["self", "number", "shut"] []
  F_KeyMap_add_binding : Fun K "add_binding" "KeyMap.add_binding" s_KeyMap_add_binding a.f_KeyMap_add_binding a.fd_KeyMap_add_binding
  b_KeyMap_add_binding : Binds K a.fd_KeyMap_add_binding ["self", "binding"] []
  m_KeyMap_add_binding : Meth K a.C_KeyMap "add_binding" a.f_KeyMap_add_binding
  F_maps_in_use : Fun K "maps_in_use" "maps_in_use" s_maps_in_use a.f_maps_in_use a.fd_maps_in_use
  b_maps_in_use : Binds K a.fd_maps_in_use ["maps", "in_use"] []
  g_maps_in_use : mg "maps_in_use" = some (.ref a.f_maps_in_use)
  F_counting_maps : Fun K "counting_maps" "counting_maps" s_counting_maps a.f_counting_maps a.fd_counting_maps
  b_counting_maps : Binds K a.fd_counting_maps ["maps", "in_use"] []
  g_counting_maps : mg "counting_maps" = some (.ref a.f_counting_maps)
  F_binding_map : Fun K "binding_map" "binding_map" s_binding_map a.f_binding_map a.fd_binding_map
  b_binding_map : Binds K a.fd_binding_map ["counting", "sequence"] []
  g_binding_map : mg "binding_map" = some (.ref a.f_binding_map)
  F_bound : Fun K "bound" "bound" s_bound a.f_bound a.fd_bound
  b_bound : Binds K a.fd_bound ["counting", "sequence"] []
  g_bound : mg "bound" = some (.ref a.f_bound)
  F_bound_at_once : Fun K "bound_at_once" "bound_at_once" s_bound_at_once a.f_bound_at_once a.fd_bound_at_once
  b_bound_at_once : Binds K a.fd_bound_at_once ["counting", "sequence"] []
  g_bound_at_once : mg "bound_at_once" = some (.ref a.f_bound_at_once)
  F_goes_on : Fun K "goes_on" "goes_on" s_goes_on a.f_goes_on a.fd_goes_on
  b_goes_on : Binds K a.fd_goes_on ["counting", "sequence"] []
  g_goes_on : mg "goes_on" = some (.ref a.f_goes_on)
  F_longest_bound : Fun K "longest_bound" "longest_bound" s_longest_bound a.f_longest_bound a.fd_longest_bound
  b_longest_bound : Binds K a.fd_longest_bound ["counting", "keys"] []
  g_longest_bound : mg "longest_bound" = some (.ref a.f_longest_bound)
  F_KeyStream_init : Fun K "__init__" "KeyStream.__init__" s_KeyStream_init a.f_KeyStream_init a.fd_KeyStream_init
  b_KeyStream_init : Binds K a.fd_KeyStream_init ["self", "maps", "in_use", "open_keys", "digits"] []
  F_KeyStream_put_in_use : Fun K "put_in_use" "KeyStream.put_in_use" s_KeyStream_put_in_use a.f_KeyStream_put_in_use a.fd_KeyStream_put_in_use
  b_KeyStream_put_in_use : Binds K a.fd_KeyStream_put_in_use ["self", "numbers"] []
  m_KeyStream_put_in_use : Meth K a.C_KeyStream "put_in_use" a.f_KeyStream_put_in_use
  F_KeyStream_take_events : Fun K "take_events" "KeyStream.take_events" s_KeyStream_take_events a.f_KeyStream_take_events a.fd_KeyStream_take_events
  b_KeyStream_take_events : Binds K a.fd_KeyStream_take_events ["self"] []
  m_KeyStream_take_events : Meth K a.C_KeyStream "take_events" a.f_KeyStream_take_events
  F_KeyStream_press_key : Fun K "press_key" "KeyStream.press_key" s_KeyStream_press_key a.f_KeyStream_press_key a.fd_KeyStream_press_key
  b_KeyStream_press_key : Binds K a.fd_KeyStream_press_key ["self", "key"] []
  m_KeyStream_press_key : Meth K a.C_KeyStream "press_key" a.f_KeyStream_press_key
  F_KeyStream_wait_long_enough : Fun K "wait_long_enough" "KeyStream.wait_long_enough" s_KeyStream_wait_long_enough a.f_KeyStream_wait_long_enough a.fd_KeyStream_wait_long_enough
  b_KeyStream_wait_long_enough : Binds K a.fd_KeyStream_wait_long_enough ["self"] []
  m_KeyStream_wait_long_enough : Meth K a.C_KeyStream "wait_long_enough" a.f_KeyStream_wait_long_enough
  F_KeyStream_go_through : Fun K "go_through" "KeyStream.go_through" s_KeyStream_go_through a.f_KeyStream_go_through a.fd_KeyStream_go_through
  b_KeyStream_go_through : Binds K a.fd_KeyStream_go_through ["self"] []
  m_KeyStream_go_through : Meth K a.C_KeyStream "go_through" a.f_KeyStream_go_through
  F_KeyStream_counting : Fun K "counting" "KeyStream.counting" s_KeyStream_counting a.f_KeyStream_counting a.fd_KeyStream_counting
  b_KeyStream_counting : Binds K a.fd_KeyStream_counting ["self"] []
  m_KeyStream_counting : Meth K a.C_KeyStream "counting" a.f_KeyStream_counting
  F_KeyStream_more_may_come : Fun K "more_may_come" "KeyStream.more_may_come" s_KeyStream_more_may_come a.f_KeyStream_more_may_come a.fd_KeyStream_more_may_come
  b_KeyStream_more_may_come : Binds K a.fd_KeyStream_more_may_come ["self"] []
  m_KeyStream_more_may_come : Meth K a.C_KeyStream "more_may_come" a.f_KeyStream_more_may_come
  F_KeyStream_settle : Fun K "settle" "KeyStream.settle" s_KeyStream_settle a.f_KeyStream_settle a.fd_KeyStream_settle
  b_KeyStream_settle : Binds K a.fd_KeyStream_settle ["self"] []
  m_KeyStream_settle : Meth K a.C_KeyStream "settle" a.f_KeyStream_settle
  F_KeyStream_take_as_it_is : Fun K "take_as_it_is" "KeyStream.take_as_it_is" s_KeyStream_take_as_it_is a.f_KeyStream_take_as_it_is a.fd_KeyStream_take_as_it_is
  b_KeyStream_take_as_it_is : Binds K a.fd_KeyStream_take_as_it_is ["self", "key"] []
  m_KeyStream_take_as_it_is : Meth K a.C_KeyStream "take_as_it_is" a.f_KeyStream_take_as_it_is
  F_KeyStream_is_count_digit : Fun K "is_count_digit" "KeyStream.is_count_digit" s_KeyStream_is_count_digit a.f_KeyStream_is_count_digit a.fd_KeyStream_is_count_digit
  b_KeyStream_is_count_digit : Binds K a.fd_KeyStream_is_count_digit ["self", "key"] []
  m_KeyStream_is_count_digit : Meth K a.C_KeyStream "is_count_digit" a.f_KeyStream_is_count_digit
  F_KeyStream_carry_out : Fun K "carry_out" "KeyStream.carry_out" s_KeyStream_carry_out a.f_KeyStream_carry_out a.fd_KeyStream_carry_out
  b_KeyStream_carry_out : Binds K a.fd_KeyStream_carry_out ["self", "binding", "used"] []
  m_KeyStream_carry_out : Meth K a.C_KeyStream "carry_out" a.f_KeyStream_carry_out
  F_KeyStream_put_keys : Fun K "put_keys" "KeyStream.put_keys" s_KeyStream_put_keys a.f_KeyStream_put_keys a.fd_KeyStream_put_keys
  b_KeyStream_put_keys : Binds K a.fd_KeyStream_put_keys ["self", "keys", "used"] []
  m_KeyStream_put_keys : Meth K a.C_KeyStream "put_keys" a.f_KeyStream_put_keys
  F_KeyStream_tell_keys : Fun K "tell_keys" "KeyStream.tell_keys" s_KeyStream_tell_keys a.f_KeyStream_tell_keys a.fd_KeyStream_tell_keys
  b_KeyStream_tell_keys : Binds K a.fd_KeyStream_tell_keys ["self", "keys", "used"] []
  m_KeyStream_tell_keys : Meth K a.C_KeyStream "tell_keys" a.f_KeyStream_tell_keys
  F_KeyStream_change_maps : Fun K "change_maps" "KeyStream.change_maps" s_KeyStream_change_maps a.f_KeyStream_change_maps a.fd_KeyStream_change_maps
  b_KeyStream_change_maps : Binds K a.fd_KeyStream_change_maps ["self", "binding"] []
  m_KeyStream_change_maps : Meth K a.C_KeyStream "change_maps" a.f_KeyStream_change_maps
  F_KeyStream_tell : Fun K "tell" "KeyStream.tell" s_KeyStream_tell a.f_KeyStream_tell a.fd_KeyStream_tell
  b_KeyStream_tell : Binds K a.fd_KeyStream_tell ["self", "kind", "number", "used"] []
  m_KeyStream_tell : Meth K a.C_KeyStream "tell" a.f_KeyStream_tell
  F_try_out : Fun K "try_out" "try_out" s_try_out a.f_try_out a.fd_try_out
  b_try_out : Binds K a.fd_try_out ["stream", "keys"] []
  g_try_out : mg "try_out" = some (.ref a.f_try_out)
  F_makes_ring : Fun K "makes_ring" "makes_ring" s_makes_ring a.f_makes_ring a.fd_makes_ring
  b_makes_ring : Binds K a.fd_makes_ring ["events"] []
  g_makes_ring : mg "makes_ring" = some (.ref a.f_makes_ring)
  F_sequence_state : Fun K "sequence_state" "sequence_state" s_sequence_state a.f_sequence_state a.fd_sequence_state
  b_sequence_state : Binds K a.fd_sequence_state ["counting", "sequence"] []
  g_sequence_state : mg "sequence_state" = some (.ref a.f_sequence_state)
  F_next_keys : Fun K "next_keys" "next_keys" s_next_keys a.f_next_keys a.fd_next_keys
  b_next_keys : Binds K a.fd_next_keys ["counting", "beginning"] []
  g_next_keys : mg "next_keys" = some (.ref a.f_next_keys)
  F_cut_short : Fun K "cut_short" "cut_short" s_cut_short a.f_cut_short a.fd_cut_short
  b_cut_short : Binds K a.fd_cut_short ["counting", "sequence"] []
  g_cut_short : mg "cut_short" = some (.ref a.f_cut_short)
  F_bound_by : Fun K "bound_by" "bound_by" s_bound_by a.f_bound_by a.fd_bound_by
  b_bound_by : Binds K a.fd_bound_by ["counting", "key_map", "sequence"] []
  g_bound_by : mg "bound_by" = some (.ref a.f_bound_by)
  F_hidden_sequences : Fun K "hidden_sequences" "hidden_sequences" s_hidden_sequences a.f_hidden_sequences a.fd_hidden_sequences
  b_hidden_sequences : Binds K a.fd_hidden_sequences ["maps", "in_use"] []
  g_hidden_sequences : mg "hidden_sequences" = some (.ref a.f_hidden_sequences)
  F_bound_sequences : Fun K "bound_sequences" "bound_sequences" s_bound_sequences a.f_bound_sequences a.fd_bound_sequences
  b_bound_sequences : Binds K a.fd_bound_sequences ["counting"] []
  g_bound_sequences : mg "bound_sequences" = some (.ref a.f_bound_sequences)
  F_Board_init : Fun K "__init__" "Board.__init__" s_Board_init a.f_Board_init a.fd_Board_init
  b_Board_init : Binds K a.fd_Board_init ["self"] []
  F_Board_renew_map : Fun K "renew_map" "Board.renew_map" s_Board_renew_map a.f_Board_renew_map a.fd_Board_renew_map
  b_Board_renew_map : Binds K a.fd_Board_renew_map ["self", "number", "shut"] []
  m_Board_renew_map : Meth K a.C_Board "renew_map" a.f_Board_renew_map
  F_Board_bind : Fun K "bind" "Board.bind" s_Board_bind a.f_Board_bind a.fd_Board_bind
  b_Board_bind : Binds K a.fd_Board_bind ["self", "number", "binding"] []
  m_Board_bind : Meth K a.C_Board "bind" a.f_Board_bind
  F_Board_unbind : Fun K "unbind" "Board.unbind" s_Board_unbind a.f_Board_unbind a.fd_Board_unbind
  b_Board_unbind : Binds K a.fd_Board_unbind ["self", "number", "sequence"] []
  m_Board_unbind : Meth K a.C_Board "unbind" a.f_Board_unbind
  F_Board_use : Fun K "use" "Board.use" s_Board_use a.f_Board_use a.fd_Board_use
  b_Board_use : Binds K a.fd_Board_use ["self", "numbers"] []
  m_Board_use : Meth K a.C_Board "use" a.f_Board_use
  F_Board_wait : Fun K "wait" "Board.wait" s_Board_wait a.f_Board_wait a.fd_Board_wait
  b_Board_wait : Binds K a.fd_Board_wait ["self", "ticks"] []
  m_Board_wait : Meth K a.C_Board "wait" a.f_Board_wait
  F_Board_press : Fun K "press" "Board.press" s_Board_press a.f_Board_press a.fd_Board_press
  b_Board_press : Binds K a.fd_Board_press ["self", "ticks", "keys"] []
  m_Board_press : Meth K a.C_Board "press" a.f_Board_press
  F_Board_flush : Fun K "flush" "Board.flush" s_Board_flush a.f_Board_flush a.fd_Board_flush
  b_Board_flush : Binds K a.fd_Board_flush ["self"] []
  m_Board_flush : Meth K a.C_Board "flush" a.f_Board_flush
  F_Board_tell_open : Fun K "tell_open" "Board.tell_open" s_Board_tell_open a.f_Board_tell_open a.fd_Board_tell_open
  b_Board_tell_open : Binds K a.fd_Board_tell_open ["self"] []
  m_Board_tell_open : Meth K a.C_Board "tell_open" a.f_Board_tell_open
  F_Board_lookup : Fun K "lookup" "Board.lookup" s_Board_lookup a.f_Board_lookup a.fd_Board_lookup
  b_Board_lookup : Binds K a.fd_Board_lookup ["self", "sequence"] []
  m_Board_lookup : Meth K a.C_Board "lookup" a.f_Board_lookup
  F_Board_hints : Fun K "hints" "Board.hints" s_Board_hints a.f_Board_hints a.fd_Board_hints
  b_Board_hints : Binds K a.fd_Board_hints ["self", "keys"] []
  m_Board_hints : Meth K a.C_Board "hints" a.f_Board_hints
  F_Board_hidden : Fun K "hidden" "Board.hidden" s_Board_hidden a.f_Board_hidden a.fd_Board_hidden
  b_Board_hidden : Binds K a.fd_Board_hidden ["self"] []
  m_Board_hidden : Meth K a.C_Board "hidden" a.f_Board_hidden
  F_Board_would : Fun K "would" "Board.would" s_Board_would a.f_Board_would a.fd_Board_would
  b_Board_would : Binds K a.fd_Board_would ["self", "keys"] []
  m_Board_would : Meth K a.C_Board "would" a.f_Board_would
  F_Board_rings : Fun K "rings" "Board.rings" s_Board_rings a.f_Board_rings a.fd_Board_rings
  b_Board_rings : Binds K a.fd_Board_rings ["self"] []
  m_Board_rings : Meth K a.C_Board "rings" a.f_Board_rings
  F_counted : Fun K "counted" "counted" s_counted a.f_counted a.fd_counted
  b_counted : Binds K a.fd_counted ["numbers"] []
  g_counted : mg "counted" = some (.ref a.f_counted)
  F_event_answer : Fun K "event_answer" "event_answer" s_event_answer a.f_event_answer a.fd_event_answer
  b_event_answer : Binds K a.fd_event_answer ["events"] []
  g_event_answer : mg "event_answer" = some (.ref a.f_event_answer)
  F_Reader_init : Fun K "__init__" "Reader.__init__" s_Reader_init a.f_Reader_init a.fd_Reader_init
  b_Reader_init : Binds K a.fd_Reader_init ["self", "numbers"] []
  F_Reader_has_more : Fun K "has_more" "Reader.has_more" s_Reader_has_more a.f_Reader_has_more a.fd_Reader_has_more
  b_Reader_has_more : Binds K a.fd_Reader_has_more ["self"] []
  m_Reader_has_more : Meth K a.C_Reader "has_more" a.f_Reader_has_more
  F_Reader_take_number : Fun K "take_number" "Reader.take_number" s_Reader_take_number a.f_Reader_take_number a.fd_Reader_take_number
  b_Reader_take_number : Binds K a.fd_Reader_take_number ["self"] []
  m_Reader_take_number : Meth K a.C_Reader "take_number" a.f_Reader_take_number
  F_Reader_take_row : Fun K "take_row" "Reader.take_row" s_Reader_take_row a.f_Reader_take_row a.fd_Reader_take_row
  b_Reader_take_row : Binds K a.fd_Reader_take_row ["self"] []
  m_Reader_take_row : Meth K a.C_Reader "take_row" a.f_Reader_take_row
  F_call_map : Fun K "call_map" "call_map" s_call_map a.f_call_map a.fd_call_map
  b_call_map : Binds K a.fd_call_map ["board", "reader"] []
  g_call_map : mg "call_map" = some (.ref a.f_call_map)
  F_call_bind : Fun K "call_bind" "call_bind" s_call_bind a.f_call_bind a.fd_call_bind
  b_call_bind : Binds K a.fd_call_bind ["board", "reader"] []
  g_call_bind : mg "call_bind" = some (.ref a.f_call_bind)
  F_call_unbind : Fun K "call_unbind" "call_unbind" s_call_unbind a.f_call_unbind a.fd_call_unbind
  b_call_unbind : Binds K a.fd_call_unbind ["board", "reader"] []
  g_call_unbind : mg "call_unbind" = some (.ref a.f_call_unbind)
  F_call_use : Fun K "call_use" "call_use" s_call_use a.f_call_use a.fd_call_use
  b_call_use : Binds K a.fd_call_use ["board", "reader"] []
  g_call_use : mg "call_use" = some (.ref a.f_call_use)
  F_call_wait : Fun K "call_wait" "call_wait" s_call_wait a.f_call_wait a.fd_call_wait
  b_call_wait : Binds K a.fd_call_wait ["board", "reader"] []
  g_call_wait : mg "call_wait" = some (.ref a.f_call_wait)
  F_call_press : Fun K "call_press" "call_press" s_call_press a.f_call_press a.fd_call_press
  b_call_press : Binds K a.fd_call_press ["board", "reader"] []
  g_call_press : mg "call_press" = some (.ref a.f_call_press)
  F_call_flush : Fun K "call_flush" "call_flush" s_call_flush a.f_call_flush a.fd_call_flush
  b_call_flush : Binds K a.fd_call_flush ["board", "reader"] []
  g_call_flush : mg "call_flush" = some (.ref a.f_call_flush)
  F_call_open : Fun K "call_open" "call_open" s_call_open a.f_call_open a.fd_call_open
  b_call_open : Binds K a.fd_call_open ["board", "reader"] []
  g_call_open : mg "call_open" = some (.ref a.f_call_open)
  F_call_lookup : Fun K "call_lookup" "call_lookup" s_call_lookup a.f_call_lookup a.fd_call_lookup
  b_call_lookup : Binds K a.fd_call_lookup ["board", "reader"] []
  g_call_lookup : mg "call_lookup" = some (.ref a.f_call_lookup)
  F_call_hints : Fun K "call_hints" "call_hints" s_call_hints a.f_call_hints a.fd_call_hints
  b_call_hints : Binds K a.fd_call_hints ["board", "reader"] []
  g_call_hints : mg "call_hints" = some (.ref a.f_call_hints)
  F_call_hidden : Fun K "call_hidden" "call_hidden" s_call_hidden a.f_call_hidden a.fd_call_hidden
  b_call_hidden : Binds K a.fd_call_hidden ["board", "reader"] []
  g_call_hidden : mg "call_hidden" = some (.ref a.f_call_hidden)
  F_call_would : Fun K "call_would" "call_would" s_call_would a.f_call_would a.fd_call_would
  b_call_would : Binds K a.fd_call_would ["board", "reader"] []
  g_call_would : mg "call_would" = some (.ref a.f_call_would)
  F_call_rings : Fun K "call_rings" "call_rings" s_call_rings a.f_call_rings a.fd_call_rings
  b_call_rings : Binds K a.fd_call_rings ["board", "reader"] []
  g_call_rings : mg "call_rings" = some (.ref a.f_call_rings)
  F_answers : Fun K "answers" "answers" s_answers a.f_answers a.fd_answers
  b_answers : Binds K a.fd_answers ["calls"] []
  g_answers : mg "answers" = some (.ref a.f_answers)
end Km

namespace Km
open PySem PySem.Spec PyProof.Rows L2
theorem lk_here {k : Str} {v : V} {r : List (Str × V)} : List.lookup k ((k, v) :: r) = some v := by
  simp only [List.lookup, beq_self_eq_true k]
theorem lk_past {k g : Str} {v : V} {r : List (Str × V)} (h : (k == g) = false) : List.lookup k ((g, v) :: r) = List.lookup k r := by simp only [List.lookup, h]
theorem put_here {f : Str} {v x : V} {r : List (Str × V)} : putF f v ((f, x) :: r) = (f, v) :: r := if_pos rfl
theorem put_past {f g : Str} {v x : V} {r : List (Str × V)} (h : ¬ g = f) : putF f v ((g, x) :: r) = (g, x) :: putF f v r := if_neg h
theorem put_nil {f : Str} {v : V} : putF f v [] = [(f, v)] := rfl
/-- the attributes of a Binding, in their order -/
def fl_Binding (v_at_once v_purpose v_details v_sequence : V) : List (Str × V) := [("at_once", v_at_once), ("purpose", v_purpose), ("details", v_details), ("sequence", v_sequence)]
theorem lk_Binding_at_once {v_at_once v_purpose v_details v_sequence : V} : (fl_Binding v_at_once v_purpose v_details v_sequence).lookup ("at_once" : Str) = some v_at_once := lk_here
theorem pt_Binding_at_once {v_at_once v_purpose v_details v_sequence y : V} : putF "at_once" y (fl_Binding v_at_once v_purpose v_details v_sequence) = fl_Binding y v_purpose v_details v_sequence := put_here
theorem lk_Binding_purpose {v_at_once v_purpose v_details v_sequence : V} : (fl_Binding v_at_once v_purpose v_details v_sequence).lookup ("purpose" : Str) = some v_purpose := (lk_past (by decide +kernel)).trans (lk_here)
theorem pt_Binding_purpose {v_at_once v_purpose v_details v_sequence y : V} : putF "purpose" y (fl_Binding v_at_once v_purpose v_details v_sequence) = fl_Binding v_at_once y v_details v_sequence := (put_past (by decide +kernel)).trans (congrArg _ (put_here))
theorem lk_Binding_details {v_at_once v_purpose v_details v_sequence : V} : (fl_Binding v_at_once v_purpose v_details v_sequence).lookup ("details" : Str) = some v_details := (lk_past (by decide +kernel)).trans ((lk_past (by decide +kernel)).trans (lk_here))
theorem pt_Binding_details {v_at_once v_purpose v_details v_sequence y : V} : putF "details" y (fl_Binding v_at_once v_purpose v_details v_sequence) = fl_Binding v_at_once v_purpose y v_sequence := (put_past (by decide +kernel)).trans (congrArg _ ((put_past (by decide +kernel)).trans (congrArg _ (put_here))))
theorem lk_Binding_sequence {v_at_once v_purpose v_details v_sequence : V} : (fl_Binding v_at_once v_purpose v_details v_sequence).lookup ("sequence" : Str) = some v_sequence := (lk_past (by decide +kernel)).trans ((lk_past (by decide +kernel)).trans ((lk_past (by decide +kernel)).trans (lk_here)))
theorem pt_Binding_sequence {v_at_once v_purpose v_details v_sequence y : V} : putF "sequence" y (fl_Binding v_at_once v_purpose v_details v_sequence) = fl_Binding v_at_once v_purpose v_details y := (put_past (by decide +kernel)).trans (congrArg _ ((put_past (by decide +kernel)).trans (congrArg _ ((put_past (by decide +kernel)).trans (congrArg _ (put_here))))))
theorem mk_Binding_0 {v_at_once v_purpose v_details v_sequence : V} : putF "at_once" v_at_once ([] : List (Str × V)) = ([("at_once", v_at_once)] : List (Str × V)) := put_nil
theorem mk_Binding_1 {v_at_once v_purpose v_details v_sequence : V} : putF "purpose" v_purpose ([("at_once", v_at_once)] : List (Str × V)) = ([("at_once", v_at_once), ("purpose", v_purpose)] : List (Str × V)) := (put_past (by decide +kernel)).trans (congrArg _ (put_nil))
theorem mk_Binding_2 {v_at_once v_purpose v_details v_sequence : V} : putF "details" v_details ([("at_once", v_at_once), ("purpose", v_purpose)] : List (Str × V)) = ([("at_once", v_at_once), ("purpose", v_purpose), ("details", v_details)] : List (Str × V)) := (put_past (by decide +kernel)).trans (congrArg _ ((put_past (by decide +kernel)).trans (congrArg _ (put_nil))))
theorem mk_Binding_3 {v_at_once v_purpose v_details v_sequence : V} : putF "sequence" v_sequence ([("at_once", v_at_once), ("purpose", v_purpose), ("details", v_details)] : List (Str × V)) = ([("at_once", v_at_once), ("purpose", v_purpose), ("details", v_details), ("sequence", v_sequence)] : List (Str × V)) := (put_past (by decide +kernel)).trans (congrArg _ ((put_past (by decide +kernel)).trans (congrArg _ ((put_past (by decide +kernel)).trans (congrArg _ (put_nil))))))
theorem new_Binding {v_at_once v_purpose v_details v_sequence : V} : (putF "sequence" v_sequence (putF "details" v_details (putF "purpose" v_purpose (putF "at_once" v_at_once [])))) = fl_Binding v_at_once v_purpose v_details v_sequence := by
  rw [mk_Binding_0 (v_at_once := v_at_once) (v_purpose := v_purpose) (v_details := v_details) (v_sequence := v_sequence), mk_Binding_1 (v_at_once := v_at_once) (v_purpose := v_purpose) (v_details := v_details) (v_sequence := v_sequence), mk_Binding_2 (v_at_once := v_at_once) (v_purpose := v_purpose) (v_details := v_details) (v_sequence := v_sequence), mk_Binding_3 (v_at_once := v_at_once) (v_purpose := v_purpose) (v_details := v_details) (v_sequence := v_sequence)]
  rfl
/-- the attributes of a KeyMap, in their order -/
def fl_KeyMap (v_number v_shut v_bindings : V) : List (Str × V) := [("number", v_number), ("shut", v_shut), ("bindings", v_bindings)]
theorem lk_KeyMap_number {v_number v_shut v_bindings : V} : (fl_KeyMap v_number v_shut v_bindings).lookup ("number" : Str) = some v_number := lk_here
theorem pt_KeyMap_number {v_number v_shut v_bindings y : V} : putF "number" y (fl_KeyMap v_number v_shut v_bindings) = fl_KeyMap y v_shut v_bindings := put_here
theorem lk_KeyMap_shut {v_number v_shut v_bindings : V} : (fl_KeyMap v_number v_shut v_bindings).lookup ("shut" : Str) = some v_shut := (lk_past (by decide +kernel)).trans (lk_here)
theorem pt_KeyMap_shut {v_number v_shut v_bindings y : V} : putF "shut" y (fl_KeyMap v_number v_shut v_bindings) = fl_KeyMap v_number y v_bindings := (put_past (by decide +kernel)).trans (congrArg _ (put_here))
theorem lk_KeyMap_bindings {v_number v_shut v_bindings : V} : (fl_KeyMap v_number v_shut v_bindings).lookup ("bindings" : Str) = some v_bindings := (lk_past (by decide +kernel)).trans ((lk_past (by decide +kernel)).trans (lk_here))
theorem pt_KeyMap_bindings {v_number v_shut v_bindings y : V} : putF "bindings" y (fl_KeyMap v_number v_shut v_bindings) = fl_KeyMap v_number v_shut y := (put_past (by decide +kernel)).trans (congrArg _ ((put_past (by decide +kernel)).trans (congrArg _ (put_here))))
theorem nm_KeyMap_add_binding {v_number v_shut v_bindings : V} : (fl_KeyMap v_number v_shut v_bindings).lookup ("add_binding" : Str) = none := (lk_past (by decide +kernel)).trans ((lk_past (by decide +kernel)).trans ((lk_past (by decide +kernel)).trans (rfl)))
theorem mk_KeyMap_0 {v_number v_shut v_bindings : V} : putF "number" v_number ([] : List (Str × V)) = ([("number", v_number)] : List (Str × V)) := put_nil
theorem mk_KeyMap_1 {v_number v_shut v_bindings : V} : putF "shut" v_shut ([("number", v_number)] : List (Str × V)) = ([("number", v_number), ("shut", v_shut)] : List (Str × V)) := (put_past (by decide +kernel)).trans (congrArg _ (put_nil))
theorem mk_KeyMap_2 {v_number v_shut v_bindings : V} : putF "bindings" v_bindings ([("number", v_number), ("shut", v_shut)] : List (Str × V)) = ([("number", v_number), ("shut", v_shut), ("bindings", v_bindings)] : List (Str × V)) := (put_past (by decide +kernel)).trans (congrArg _ ((put_past (by decide +kernel)).trans (congrArg _ (put_nil))))
theorem new_KeyMap {v_number v_shut v_bindings : V} : (putF "bindings" v_bindings (putF "shut" v_shut (putF "number" v_number []))) = fl_KeyMap v_number v_shut v_bindings := by
  rw [mk_KeyMap_0 (v_number := v_number) (v_shut := v_shut) (v_bindings := v_bindings), mk_KeyMap_1 (v_number := v_number) (v_shut := v_shut) (v_bindings := v_bindings), mk_KeyMap_2 (v_number := v_number) (v_shut := v_shut) (v_bindings := v_bindings)]
  rfl
/-- the attributes of a KeyStream, in their order -/
def fl_KeyStream (v_maps v_in_use v_open_keys v_digits v_to_come v_times_put v_events : V) : List (Str × V) := [("maps", v_maps), ("in_use", v_in_use), ("open_keys", v_open_keys), ("digits", v_digits), ("to_come", v_to_come), ("times_put", v_times_put), ("events", v_events)]
theorem lk_KeyStream_maps {v_maps v_in_use v_open_keys v_digits v_to_come v_times_put v_events : V} : (fl_KeyStream v_maps v_in_use v_open_keys v_digits v_to_come v_times_put v_events).lookup ("maps" : Str) = some v_maps := lk_here
theorem pt_KeyStream_maps {v_maps v_in_use v_open_keys v_digits v_to_come v_times_put v_events y : V} : putF "maps" y (fl_KeyStream v_maps v_in_use v_open_keys v_digits v_to_come v_times_put v_events) = fl_KeyStream y v_in_use v_open_keys v_digits v_to_come v_times_put v_events := put_here
theorem lk_KeyStream_in_use {v_maps v_in_use v_open_keys v_digits v_to_come v_times_put v_events : V} : (fl_KeyStream v_maps v_in_use v_open_keys v_digits v_to_come v_times_put v_events).lookup ("in_use" : Str) = some v_in_use := (lk_past (by decide +kernel)).trans (lk_here)
theorem pt_KeyStream_in_use {v_maps v_in_use v_open_keys v_digits v_to_come v_times_put v_events y : V} : putF "in_use" y (fl_KeyStream v_maps v_in_use v_open_keys v_digits v_to_come v_times_put v_events) = fl_KeyStream v_maps y v_open_keys v_digits v_to_come v_times_put v_events := (put_past (by decide +kernel)).trans (congrArg _ (put_here))
theorem lk_KeyStream_open_keys {v_maps v_in_use v_open_keys v_digits v_to_come v_times_put v_events : V} : (fl_KeyStream v_maps v_in_use v_open_keys v_digits v_to_come v_times_put v_events).lookup ("open_keys" : Str) = some v_open_keys := (lk_past (by decide +kernel)).trans ((lk_past (by decide +kernel)).trans (lk_here))
theorem pt_KeyStream_open_keys {v_maps v_in_use v_open_keys v_digits v_to_come v_times_put v_events y : V} : putF "open_keys" y (fl_KeyStream v_maps v_in_use v_open_keys v_digits v_to_come v_times_put v_events) = fl_KeyStream v_maps v_in_use y v_digits v_to_come v_times_put v_events := (put_past (by decide +kernel)).trans (congrArg _ ((put_past (by decide +kernel)).trans (congrArg _ (put_here))))
theorem lk_KeyStream_digits {v_maps v_in_use v_open_keys v_digits v_to_come v_times_put v_events : V} : (fl_KeyStream v_maps v_in_use v_open_keys v_digits v_to_come v_times_put v_events).lookup ("digits" : Str) = some v_digits := (lk_past (by decide +kernel)).trans ((lk_past (by decide +kernel)).trans ((lk_past (by decide +kernel)).trans (lk_here)))
theorem pt_KeyStream_digits {v_maps v_in_use v_open_keys v_digits v_to_come v_times_put v_events y : V} : putF "digits" y (fl_KeyStream v_maps v_in_use v_open_keys v_digits v_to_come v_times_put v_events) = fl_KeyStream v_maps v_in_use v_open_keys y v_to_come v_times_put v_events := (put_past (by decide +kernel)).trans (congrArg _ ((put_past (by decide +kernel)).trans (congrArg _ ((put_past (by decide +kernel)).trans (congrArg _ (put_here))))))
theorem lk_KeyStream_to_come {v_maps v_in_use v_open_keys v_digits v_to_come v_times_put v_events : V} : (fl_KeyStream v_maps v_in_use v_open_keys v_digits v_to_come v_times_put v_events).lookup ("to_come" : Str) = some v_to_come := (lk_past (by decide +kernel)).trans ((lk_past (by decide +kernel)).trans ((lk_past (by decide +kernel)).trans ((lk_past (by decide +kernel)).trans (lk_here))))
theorem pt_KeyStream_to_come {v_maps v_in_use v_open_keys v_digits v_to_come v_times_put v_events y : V} : putF "to_come" y (fl_KeyStream v_maps v_in_use v_open_keys v_digits v_to_come v_times_put v_events) = fl_KeyStream v_maps v_in_use v_open_keys v_digits y v_times_put v_events := (put_past (by decide +kernel)).trans (congrArg _ ((put_past (by decide +kernel)).trans (congrArg _ ((put_past (by decide +kernel)).trans (congrArg _ ((put_past (by decide +kernel)).trans (congrArg _ (put_here))))))))
theorem lk_KeyStream_times_put {v_maps v_in_use v_open_keys v_digits v_to_come v_times_put v_events : V} : (fl_KeyStream v_maps v_in_use v_open_keys v_digits v_to_come v_times_put v_events).lookup ("times_put" : Str) = some v_times_put := (lk_past (by decide +kernel)).trans ((lk_past (by decide +kernel)).trans ((lk_past (by decide +kernel)).trans ((lk_past (by decide +kernel)).trans ((lk_past (by decide +kernel)).trans (lk_here)))))
theorem pt_KeyStream_times_put {v_maps v_in_use v_open_keys v_digits v_to_come v_times_put v_events y : V} : putF "times_put" y (fl_KeyStream v_maps v_in_use v_open_keys v_digits v_to_come v_times_put v_events) = fl_KeyStream v_maps v_in_use v_open_keys v_digits v_to_come y v_events := (put_past (by decide +kernel)).trans (congrArg _ ((put_past (by decide +kernel)).trans (congrArg _ ((put_past (by decide +kernel)).trans (congrArg _ ((put_past (by decide +kernel)).trans (congrArg _ ((put_past (by decide +kernel)).trans (congrArg _ (put_here))))))))))
theorem lk_KeyStream_events {v_maps v_in_use v_open_keys v_digits v_to_come v_times_put v_events : V} : (fl_KeyStream v_maps v_in_use v_open_keys v_digits v_to_come v_times_put v_events).lookup ("events" : Str) = some v_events := (lk_past (by decide +kernel)).trans ((lk_past (by decide +kernel)).trans ((lk_past (by decide +kernel)).trans ((lk_past (by decide +kernel)).trans ((lk_past (by decide +kernel)).trans ((lk_past (by decide +kernel)).trans (lk_here))))))
theorem pt_KeyStream_events {v_maps v_in_use v_open_keys v_digits v_to_come v_times_put v_events y : V} : putF "events" y (fl_KeyStream v_maps v_in_use v_open_keys v_digits v_to_come v_times_put v_events) = fl_KeyStream v_maps v_in_use v_open_keys v_digits v_to_come v_times_put y := (put_past (by decide +kernel)).trans (congrArg _ ((put_past (by decide +kernel)).trans (congrArg _ ((put_past (by decide +kernel)).trans (congrArg _ ((put_past (by decide +kernel)).trans (congrArg _ ((put_past (by decide +kernel)).trans (congrArg _ ((put_past (by decide +kernel)).trans (congrArg _ (put_here))))))))))))
theorem nm_KeyStream_put_in_use {v_maps v_in_use v_open_keys v_digits v_to_come v_times_put v_events : V} : (fl_KeyStream v_maps v_in_use v_open_keys v_digits v_to_come v_times_put v_events).lookup ("put_in_use" : Str) = none := (lk_past (by decide +kernel)).trans ((lk_past (by decide +kernel)).trans ((lk_past (by decide +kernel)).trans ((lk_past (by decide +kernel)).trans ((lk_past (by decide +kernel)).trans ((lk_past (by decide +kernel)).trans ((lk_past (by decide +kernel)).trans (rfl)))))))
theorem nm_KeyStream_take_events {v_maps v_in_use v_open_keys v_digits v_to_come v_times_put v_events : V} : (fl_KeyStream v_maps v_in_use v_open_keys v_digits v_to_come v_times_put v_events).lookup ("take_events" : Str) = none := (lk_past (by decide +kernel)).trans ((lk_past (by decide +kernel)).trans ((lk_past (by decide +kernel)).trans ((lk_past (by decide +kernel)).trans ((lk_past (by decide +kernel)).trans ((lk_past (by decide +kernel)).trans ((lk_past (by decide +kernel)).trans (rfl)))))))
theorem nm_KeyStream_press_key {v_maps v_in_use v_open_keys v_digits v_to_come v_times_put v_events : V} : (fl_KeyStream v_maps v_in_use v_open_keys v_digits v_to_come v_times_put v_events).lookup ("press_key" : Str) = none := (lk_past (by decide +kernel)).trans ((lk_past (by decide +kernel)).trans ((lk_past (by decide +kernel)).trans ((lk_past (by decide +kernel)).trans ((lk_past (by decide +kernel)).trans ((lk_past (by decide +kernel)).trans ((lk_past (by decide +kernel)).trans (rfl)))))))
theorem nm_KeyStream_wait_long_enough {v_maps v_in_use v_open_keys v_digits v_to_come v_times_put v_events : V} : (fl_KeyStream v_maps v_in_use v_open_keys v_digits v_to_come v_times_put v_events).lookup ("wait_long_enough" : Str) = none := (lk_past (by decide +kernel)).trans ((lk_past (by decide +kernel)).trans ((lk_past (by decide +kernel)).trans ((lk_past (by decide +kernel)).trans ((lk_past (by decide +kernel)).trans ((lk_past (by decide +kernel)).trans ((lk_past (by decide +kernel)).trans (rfl)))))))
theorem nm_KeyStream_go_through {v_maps v_in_use v_open_keys v_digits v_to_come v_times_put v_events : V} : (fl_KeyStream v_maps v_in_use v_open_keys v_digits v_to_come v_times_put v_events).lookup ("go_through" : Str) = none := (lk_past (by decide +kernel)).trans ((lk_past (by decide +kernel)).trans ((lk_past (by decide +kernel)).trans ((lk_past (by decide +kernel)).trans ((lk_past (by decide +kernel)).trans ((lk_past (by decide +kernel)).trans ((lk_past (by decide +kernel)).trans (rfl)))))))
theorem nm_KeyStream_counting {v_maps v_in_use v_open_keys v_digits v_to_come v_times_put v_events : V} : (fl_KeyStream v_maps v_in_use v_open_keys v_digits v_to_come v_times_put v_events).lookup ("counting" : Str) = none := (lk_past (by decide +kernel)).trans ((lk_past (by decide +kernel)).trans ((lk_past (by decide +kernel)).trans ((lk_past (by decide +kernel)).trans ((lk_past (by decide +kernel)).trans ((lk_past (by decide +kernel)).trans ((lk_past (by decide +kernel)).trans (rfl)))))))
theorem nm_KeyStream_more_may_come {v_maps v_in_use v_open_keys v_digits v_to_come v_times_put v_events : V} : (fl_KeyStream v_maps v_in_use v_open_keys v_digits v_to_come v_times_put v_events).lookup ("more_may_come" : Str) = none := (lk_past (by decide +kernel)).trans ((lk_past (by decide +kernel)).trans ((lk_past (by decide +kernel)).trans ((lk_past (by decide +kernel)).trans ((lk_past (by decide +kernel)).trans ((lk_past (by decide +kernel)).trans ((lk_past (by decide +kernel)).trans (rfl)))))))
theorem nm_KeyStream_settle {v_maps v_in_use v_open_keys v_digits v_to_come v_times_put v_events : V} : (fl_KeyStream v_maps v_in_use v_open_keys v_digits v_to_come v_times_put v_events).lookup ("settle" : Str) = none := (lk_past (by decide +kernel)).trans ((lk_past (by decide +kernel)).trans ((lk_past (by decide +kernel)).trans ((lk_past (by decide +kernel)).trans ((lk_past (by decide +kernel)).trans ((lk_past (by decide +kernel)).trans ((lk_past (by decide +kernel)).trans (rfl)))))))
theorem nm_KeyStream_take_as_it_is {v_maps v_in_use v_open_keys v_digits v_to_come v_times_put v_events : V} : (fl_KeyStream v_maps v_in_use v_open_keys v_digits v_to_come v_times_put v_events).lookup ("take_as_it_is" : Str) = none := (lk_past (by decide +kernel)).trans ((lk_past (by decide +kernel)).trans ((lk_past (by decide +kernel)).trans ((lk_past (by decide +kernel)).trans ((lk_past (by decide +kernel)).trans ((lk_past (by decide +kernel)).trans ((lk_past (by decide +kernel)).trans (rfl)))))))
theorem nm_KeyStream_is_count_digit {v_maps v_in_use v_open_keys v_digits v_to_come v_times_put v_events : V} : (fl_KeyStream v_maps v_in_use v_open_keys v_digits v_to_come v_times_put v_events).lookup ("is_count_digit" : Str) = none := (lk_past (by decide +kernel)).trans ((lk_past (by decide +kernel)).trans ((lk_past (by decide +kernel)).trans ((lk_past (by decide +kernel)).trans ((lk_past (by decide +kernel)).trans ((lk_past (by decide +kernel)).trans ((lk_past (by decide +kernel)).trans (rfl)))))))
theorem nm_KeyStream_carry_out {v_maps v_in_use v_open_keys v_digits v_to_come v_times_put v_events : V} : (fl_KeyStream v_maps v_in_use v_open_keys v_digits v_to_come v_times_put v_events).lookup ("carry_out" : Str) = none := (lk_past (by decide +kernel)).trans ((lk_past (by decide +kernel)).trans ((lk_past (by decide +kernel)).trans ((lk_past (by decide +kernel)).trans ((lk_past (by decide +kernel)).trans ((lk_past (by decide +kernel)).trans ((lk_past (by decide +kernel)).trans (rfl)))))))
theorem nm_KeyStream_put_keys {v_maps v_in_use v_open_keys v_digits v_to_come v_times_put v_events : V} : (fl_KeyStream v_maps v_in_use v_open_keys v_digits v_to_come v_times_put v_events).lookup ("put_keys" : Str) = none := (lk_past (by decide +kernel)).trans ((lk_past (by decide +kernel)).trans ((lk_past (by decide +kernel)).trans ((lk_past (by decide +kernel)).trans ((lk_past (by decide +kernel)).trans ((lk_past (by decide +kernel)).trans ((lk_past (by decide +kernel)).trans (rfl)))))))
theorem nm_KeyStream_tell_keys {v_maps v_in_use v_open_keys v_digits v_to_come v_times_put v_events : V} : (fl_KeyStream v_maps v_in_use v_open_keys v_digits v_to_come v_times_put v_events).lookup ("tell_keys" : Str) = none := (lk_past (by decide +kernel)).trans ((lk_past (by decide +kernel)).trans ((lk_past (by decide +kernel)).trans ((lk_past (by decide +kernel)).trans ((lk_past (by decide +kernel)).trans ((lk_past (by decide +kernel)).trans ((lk_past (by decide +kernel)).trans (rfl)))))))
theorem nm_KeyStream_change_maps {v_maps v_in_use v_open_keys v_digits v_to_come v_times_put v_events : V} : (fl_KeyStream v_maps v_in_use v_open_keys v_digits v_to_come v_times_put v_events).lookup ("change_maps" : Str) = none := (lk_past (by decide +kernel)).trans ((lk_past (by decide +kernel)).trans ((lk_past (by decide +kernel)).trans ((lk_past (by decide +kernel)).trans ((lk_past (by decide +kernel)).trans ((lk_past (by decide +kernel)).trans ((lk_past (by decide +kernel)).trans (rfl)))))))
theorem nm_KeyStream_tell {v_maps v_in_use v_open_keys v_digits v_to_come v_times_put v_events : V} : (fl_KeyStream v_maps v_in_use v_open_keys v_digits v_to_come v_times_put v_events).lookup ("tell" : Str) = none := (lk_past (by decide +kernel)).trans ((lk_past (by decide +kernel)).trans ((lk_past (by decide +kernel)).trans ((lk_past (by decide +kernel)).trans ((lk_past (by decide +kernel)).trans ((lk_past (by decide +kernel)).trans ((lk_past (by decide +kernel)).trans (rfl)))))))
theorem mk_KeyStream_0 {v_maps v_in_use v_open_keys v_digits v_to_come v_times_put v_events : V} : putF "maps" v_maps ([] : List (Str × V)) = ([("maps", v_maps)] : List (Str × V)) := put_nil
theorem mk_KeyStream_1 {v_maps v_in_use v_open_keys v_digits v_to_come v_times_put v_events : V} : putF "in_use" v_in_use ([("maps", v_maps)] : List (Str × V)) = ([("maps", v_maps), ("in_use", v_in_use)] : List (Str × V)) := (put_past (by decide +kernel)).trans (congrArg _ (put_nil))
theorem mk_KeyStream_2 {v_maps v_in_use v_open_keys v_digits v_to_come v_times_put v_events : V} : putF "open_keys" v_open_keys ([("maps", v_maps), ("in_use", v_in_use)] : List (Str × V)) = ([("maps", v_maps), ("in_use", v_in_use), ("open_keys", v_open_keys)] : List (Str × V)) := (put_past (by decide +kernel)).trans (congrArg _ ((put_past (by decide +kernel)).trans (congrArg _ (put_nil))))
theorem mk_KeyStream_3 {v_maps v_in_use v_open_keys v_digits v_to_come v_times_put v_events : V} : putF "digits" v_digits ([("maps", v_maps), ("in_use", v_in_use), ("open_keys", v_open_keys)] : List (Str × V)) = ([("maps", v_maps), ("in_use", v_in_use), ("open_keys", v_open_keys), ("digits", v_digits)] : List (Str × V)) := (put_past (by decide +kernel)).trans (congrArg _ ((put_past (by decide +kernel)).trans (congrArg _ ((put_past (by decide +kernel)).trans (congrArg _ (put_nil))))))
theorem mk_KeyStream_4 {v_maps v_in_use v_open_keys v_digits v_to_come v_times_put v_events : V} : putF "to_come" v_to_come ([("maps", v_maps), ("in_use", v_in_use), ("open_keys", v_open_keys), ("digits", v_digits)] : List (Str × V)) = ([("maps", v_maps), ("in_use", v_in_use), ("open_keys", v_open_keys), ("digits", v_digits), ("to_come", v_to_come)] : List (Str × V)) := (put_past (by decide +kernel)).trans (congrArg _ ((put_past (by decide +kernel)).trans (congrArg _ ((put_past (by decide +kernel)).trans (congrArg _ ((put_past (by decide +kernel)).trans (congrArg _ (put_nil))))))))
theorem mk_KeyStream_5 {v_maps v_in_use v_open_keys v_digits v_to_come v_times_put v_events : V} : putF "times_put" v_times_put ([("maps", v_maps), ("in_use", v_in_use), ("open_keys", v_open_keys), ("digits", v_digits), ("to_come", v_to_come)] : List (Str × V)) = ([("maps", v_maps), ("in_use", v_in_use), ("open_keys", v_open_keys), ("digits", v_digits), ("to_come", v_to_come), ("times_put", v_times_put)] : List (Str × V)) := (put_past (by decide +kernel)).trans (congrArg _ ((put_past (by decide +kernel)).trans (congrArg _ ((put_past (by decide +kernel)).trans (congrArg _ ((put_past (by decide +kernel)).trans (congrArg _ ((put_past (by decide +kernel)).trans (congrArg _ (put_nil))))))))))
theorem mk_KeyStream_6 {v_maps v_in_use v_open_keys v_digits v_to_come v_times_put v_events : V} : putF "events" v_events ([("maps", v_maps), ("in_use", v_in_use), ("open_keys", v_open_keys), ("digits", v_digits), ("to_come", v_to_come), ("times_put", v_times_put)] : List (Str × V)) = ([("maps", v_maps), ("in_use", v_in_use), ("open_keys", v_open_keys), ("digits", v_digits), ("to_come", v_to_come), ("times_put", v_times_put), ("events", v_events)] : List (Str × V)) := (put_past (by decide +kernel)).trans (congrArg _ ((put_past (by decide +kernel)).trans (congrArg _ ((put_past (by decide +kernel)).trans (congrArg _ ((put_past (by decide +kernel)).trans (congrArg _ ((put_past (by decide +kernel)).trans (congrArg _ ((put_past (by decide +kernel)).trans (congrArg _ (put_nil))))))))))))
theorem new_KeyStream {v_maps v_in_use v_open_keys v_digits v_to_come v_times_put v_events : V} : (putF "events" v_events (putF "times_put" v_times_put (putF "to_come" v_to_come (putF "digits" v_digits (putF "open_keys" v_open_keys (putF "in_use" v_in_use (putF "maps" v_maps []))))))) = fl_KeyStream v_maps v_in_use v_open_keys v_digits v_to_come v_times_put v_events := by
  rw [mk_KeyStream_0 (v_maps := v_maps) (v_in_use := v_in_use) (v_open_keys := v_open_keys) (v_digits := v_digits) (v_to_come := v_to_come) (v_times_put := v_times_put) (v_events := v_events), mk_KeyStream_1 (v_maps := v_maps) (v_in_use := v_in_use) (v_open_keys := v_open_keys) (v_digits := v_digits) (v_to_come := v_to_come) (v_times_put := v_times_put) (v_events := v_events), mk_KeyStream_2 (v_maps := v_maps) (v_in_use := v_in_use) (v_open_keys := v_open_keys) (v_digits := v_digits) (v_to_come := v_to_come) (v_times_put := v_times_put) (v_events := v_events), mk_KeyStream_3 (v_maps := v_maps) (v_in_use := v_in_use) (v_open_keys := v_open_keys) (v_digits := v_digits) (v_to_come := v_to_come) (v_times_put := v_times_put) (v_events := v_events), mk_KeyStream_4 (v_maps := v_maps) (v_in_use := v_in_use) (v_open_keys := v_open_keys) (v_digits := v_digits) (v_to_come := v_to_come) (v_times_put := v_times_put) (v_events := v_events), mk_KeyStream_5 (v_maps := v_maps) (v_in_use := v_in_use) (v_open_keys := v_open_keys) (v_digits := v_digits) (v_to_come := v_to_come) (v_times_put := v_times_put) (v_events := v_events), mk_KeyStream_6 (v_maps := v_maps) (v_in_use := v_in_use) (v_open_keys := v_open_keys) (v_digits := v_digits) (v_to_come := v_to_come) (v_times_put := v_times_put) (v_events := v_events)]
  rfl
/-- the attributes of a Board, in their order -/
def fl_Board (v_maps v_stream v_ticks_to_wait : V) : List (Str × V) := [("maps", v_maps), ("stream", v_stream), ("ticks_to_wait", v_ticks_to_wait)]
theorem lk_Board_maps {v_maps v_stream v_ticks_to_wait : V} : (fl_Board v_maps v_stream v_ticks_to_wait).lookup ("maps" : Str) = some v_maps := lk_here
theorem pt_Board_maps {v_maps v_stream v_ticks_to_wait y : V} : putF "maps" y (fl_Board v_maps v_stream v_ticks_to_wait) = fl_Board y v_stream v_ticks_to_wait := put_here
theorem lk_Board_stream {v_maps v_stream v_ticks_to_wait : V} : (fl_Board v_maps v_stream v_ticks_to_wait).lookup ("stream" : Str) = some v_stream := (lk_past (by decide +kernel)).trans (lk_here)
theorem pt_Board_stream {v_maps v_stream v_ticks_to_wait y : V} : putF "stream" y (fl_Board v_maps v_stream v_ticks_to_wait) = fl_Board v_maps y v_ticks_to_wait := (put_past (by decide +kernel)).trans (congrArg _ (put_here))
theorem lk_Board_ticks_to_wait {v_maps v_stream v_ticks_to_wait : V} : (fl_Board v_maps v_stream v_ticks_to_wait).lookup ("ticks_to_wait" : Str) = some v_ticks_to_wait := (lk_past (by decide +kernel)).trans ((lk_past (by decide +kernel)).trans (lk_here))
theorem pt_Board_ticks_to_wait {v_maps v_stream v_ticks_to_wait y : V} : putF "ticks_to_wait" y (fl_Board v_maps v_stream v_ticks_to_wait) = fl_Board v_maps v_stream y := (put_past (by decide +kernel)).trans (congrArg _ ((put_past (by decide +kernel)).trans (congrArg _ (put_here))))
theorem nm_Board_renew_map {v_maps v_stream v_ticks_to_wait : V} : (fl_Board v_maps v_stream v_ticks_to_wait).lookup ("renew_map" : Str) = none := (lk_past (by decide +kernel)).trans ((lk_past (by decide +kernel)).trans ((lk_past (by decide +kernel)).trans (rfl)))
theorem nm_Board_bind {v_maps v_stream v_ticks_to_wait : V} : (fl_Board v_maps v_stream v_ticks_to_wait).lookup ("bind" : Str) = none := (lk_past (by decide +kernel)).trans ((lk_past (by decide +kernel)).trans ((lk_past (by decide +kernel)).trans (rfl)))
theorem nm_Board_unbind {v_maps v_stream v_ticks_to_wait : V} : (fl_Board v_maps v_stream v_ticks_to_wait).lookup ("unbind" : Str) = none := (lk_past (by decide +kernel)).trans ((lk_past (by decide +kernel)).trans ((lk_past (by decide +kernel)).trans (rfl)))
theorem nm_Board_use {v_maps v_stream v_ticks_to_wait : V} : (fl_Board v_maps v_stream v_ticks_to_wait).lookup ("use" : Str) = none := (lk_past (by decide +kernel)).trans ((lk_past (by decide +kernel)).trans ((lk_past (by decide +kernel)).trans (rfl)))
theorem nm_Board_wait {v_maps v_stream v_ticks_to_wait : V} : (fl_Board v_maps v_stream v_ticks_to_wait).lookup ("wait" : Str) = none := (lk_past (by decide +kernel)).trans ((lk_past (by decide +kernel)).trans ((lk_past (by decide +kernel)).trans (rfl)))
theorem nm_Board_press {v_maps v_stream v_ticks_to_wait : V} : (fl_Board v_maps v_stream v_ticks_to_wait).lookup ("press" : Str) = none := (lk_past (by decide +kernel)).trans ((lk_past (by decide +kernel)).trans ((lk_past (by decide +kernel)).trans (rfl)))
theorem nm_Board_flush {v_maps v_stream v_ticks_to_wait : V} : (fl_Board v_maps v_stream v_ticks_to_wait).lookup ("flush" : Str) = none := (lk_past (by decide +kernel)).trans ((lk_past (by decide +kernel)).trans ((lk_past (by decide +kernel)).trans (rfl)))
theorem nm_Board_tell_open {v_maps v_stream v_ticks_to_wait : V} : (fl_Board v_maps v_stream v_ticks_to_wait).lookup ("tell_open" : Str) = none := (lk_past (by decide +kernel)).trans ((lk_past (by decide +kernel)).trans ((lk_past (by decide +kernel)).trans (rfl)))
theorem nm_Board_lookup {v_maps v_stream v_ticks_to_wait : V} : (fl_Board v_maps v_stream v_ticks_to_wait).lookup ("lookup" : Str) = none := (lk_past (by decide +kernel)).trans ((lk_past (by decide +kernel)).trans ((lk_past (by decide +kernel)).trans (rfl)))
theorem nm_Board_hints {v_maps v_stream v_ticks_to_wait : V} : (fl_Board v_maps v_stream v_ticks_to_wait).lookup ("hints" : Str) = none := (lk_past (by decide +kernel)).trans ((lk_past (by decide +kernel)).trans ((lk_past (by decide +kernel)).trans (rfl)))
theorem nm_Board_hidden {v_maps v_stream v_ticks_to_wait : V} : (fl_Board v_maps v_stream v_ticks_to_wait).lookup ("hidden" : Str) = none := (lk_past (by decide +kernel)).trans ((lk_past (by decide +kernel)).trans ((lk_past (by decide +kernel)).trans (rfl)))
theorem nm_Board_would {v_maps v_stream v_ticks_to_wait : V} : (fl_Board v_maps v_stream v_ticks_to_wait).lookup ("would" : Str) = none := (lk_past (by decide +kernel)).trans ((lk_past (by decide +kernel)).trans ((lk_past (by decide +kernel)).trans (rfl)))
theorem nm_Board_rings {v_maps v_stream v_ticks_to_wait : V} : (fl_Board v_maps v_stream v_ticks_to_wait).lookup ("rings" : Str) = none := (lk_past (by decide +kernel)).trans ((lk_past (by decide +kernel)).trans ((lk_past (by decide +kernel)).trans (rfl)))
theorem mk_Board_0 {v_maps v_stream v_ticks_to_wait : V} : putF "maps" v_maps ([] : List (Str × V)) = ([("maps", v_maps)] : List (Str × V)) := put_nil
theorem mk_Board_1 {v_maps v_stream v_ticks_to_wait : V} : putF "stream" v_stream ([("maps", v_maps)] : List (Str × V)) = ([("maps", v_maps), ("stream", v_stream)] : List (Str × V)) := (put_past (by decide +kernel)).trans (congrArg _ (put_nil))
theorem mk_Board_2 {v_maps v_stream v_ticks_to_wait : V} : putF "ticks_to_wait" v_ticks_to_wait ([("maps", v_maps), ("stream", v_stream)] : List (Str × V)) = ([("maps", v_maps), ("stream", v_stream), ("ticks_to_wait", v_ticks_to_wait)] : List (Str × V)) := (put_past (by decide +kernel)).trans (congrArg _ ((put_past (by decide +kernel)).trans (congrArg _ (put_nil))))
theorem new_Board {v_maps v_stream v_ticks_to_wait : V} : (putF "ticks_to_wait" v_ticks_to_wait (putF "stream" v_stream (putF "maps" v_maps []))) = fl_Board v_maps v_stream v_ticks_to_wait := by
  rw [mk_Board_0 (v_maps := v_maps) (v_stream := v_stream) (v_ticks_to_wait := v_ticks_to_wait), mk_Board_1 (v_maps := v_maps) (v_stream := v_stream) (v_ticks_to_wait := v_ticks_to_wait), mk_Board_2 (v_maps := v_maps) (v_stream := v_stream) (v_ticks_to_wait := v_ticks_to_wait)]
  rfl
/-- the attributes of a Reader, in their order -/
def fl_Reader (v_numbers v_place : V) : List (Str × V) := [("numbers", v_numbers), ("place", v_place)]
theorem lk_Reader_numbers {v_numbers v_place : V} : (fl_Reader v_numbers v_place).lookup ("numbers" : Str) = some v_numbers := lk_here
theorem pt_Reader_numbers {v_numbers v_place y : V} : putF "numbers" y (fl_Reader v_numbers v_place) = fl_Reader y v_place := put_here
theorem lk_Reader_place {v_numbers v_place : V} : (fl_Reader v_numbers v_place).lookup ("place" : Str) = some v_place := (lk_past (by decide +kernel)).trans (lk_here)
theorem pt_Reader_place {v_numbers v_place y : V} : putF "place" y (fl_Reader v_numbers v_place) = fl_Reader v_numbers y := (put_past (by decide +kernel)).trans (congrArg _ (put_here))
theorem nm_Reader_has_more {v_numbers v_place : V} : (fl_Reader v_numbers v_place).lookup ("has_more" : Str) = none := (lk_past (by decide +kernel)).trans ((lk_past (by decide +kernel)).trans (rfl))
theorem nm_Reader_take_number {v_numbers v_place : V} : (fl_Reader v_numbers v_place).lookup ("take_number" : Str) = none := (lk_past (by decide +kernel)).trans ((lk_past (by decide +kernel)).trans (rfl))
theorem nm_Reader_take_row {v_numbers v_place : V} : (fl_Reader v_numbers v_place).lookup ("take_row" : Str) = none := (lk_past (by decide +kernel)).trans ((lk_past (by decide +kernel)).trans (rfl))
theorem mk_Reader_0 {v_numbers v_place : V} : putF "numbers" v_numbers ([] : List (Str × V)) = ([("numbers", v_numbers)] : List (Str × V)) := put_nil
theorem mk_Reader_1 {v_numbers v_place : V} : putF "place" v_place ([("numbers", v_numbers)] : List (Str × V)) = ([("numbers", v_numbers), ("place", v_place)] : List (Str × V)) := (put_past (by decide +kernel)).trans (congrArg _ (put_nil))
theorem new_Reader {v_numbers v_place : V} : (putF "place" v_place (putF "numbers" v_numbers [])) = fl_Reader v_numbers v_place := by
  rw [mk_Reader_0 (v_numbers := v_numbers) (v_place := v_place), mk_Reader_1 (v_numbers := v_numbers) (v_place := v_place)]
  rfl
end Km

namespace Km
open PySem PySem.Spec PyProof.Rows L2

section
variable {X : Cx}
/-- a module's whole number -/
theorem pe_gI {x : Str} {pos : Pos} {n : Int} (hg : Gl X x) (hm : ∃ t, X.mg x = some (.int n t)) (hd : (x == ("__debug__" : Str)) = false := by decide) : PE X (.Name x pos) (tC (.int n)) := by
  obtain ⟨t, e⟩ := hm
  exact pe_glob hg e ⟨t, rfl⟩ hd
end

/-! ### max(xs, default=d) -/
section
variable {pr : Program} {wo : World} {A : Around} {R : Result → Shared → Prop} {I : Addr} {fp wr : List Addr} {n : Nat} {P : Nat → Value → Prop} {St : Nat → Heap → Prop}
theorem nmax : (toString "max" ++ toString ".loop" : String) = "max.loop" := by decide
/-- the loop behind its first item, whatever the keywords are -/
theorem mxloop (kw : List (Str × Value)) (W : Walks pr wo A.in1 I fp wr n P St) (bt : Nat → Nat → Bool) (hc : CmpOf pr wo A.in1 .Gt P bt) (S : Addr) (hf : S ∉ fp) :
    ∀ (k j : Nat) (s : Shared) (cur : Value) (c : Nat), n - (j + 1) = k → j + 1 ≤ n → St (j + 1) s.heap → P (argBest bt j) cur →
    s.heap.get? S = some { cls := .type "list", dict := none, data := .seq #[cur, cur] c, slots := #[] } →
    (∀ v h' tk, P (argBest bt (n - 1)) v → (∀ b o, b ∉ wr → b ≠ S → s.heap.get? b = some o → h'.get? b = some o) → R (.ok (.ret v)) { s with heap := h', toks := tk }) →
    codeAny (model pr wo) A (.builtin "max.loop" ⟨[.ref I, .none, .ref S], kw⟩) R s := by
  have hw : S ∉ wr := fun h => hf (W.sub _ h)
  intro k
  induction k with
  | zero =>
    intro j s cur c hk hj st0 hcur cell0 fin
    have hEnd : j + 1 = n := by omega
    refine codeAny_builtin PySem.F.entry_max_loop ?_; rw [Around.under_plainId PySem.F.plain_max_loop _]
    show wpAny _ A.in1 (seqItems? (.ref S) >>= _) _ _ s; refine wpAny_bind (wpAny_seqItems cell0 rfl ?_)
    show wpAny _ A.in1 (tryCatch (pyNext (.ref I)) _ >>= _) _ _ s; refine wpAny_bind (wpAny_tryCatch (W.done s _ _ (hEnd ▸ st0) fun h' tk kk1 => ?_))
    have cell1 := kk1 S _ hw cell0
    show wpAny _ A.in1 (updateSeq S (fun _ => #[]) >>= _) _ _ _; refine wpAny_bind ?_
    refine wpAny_updateSeq cell1 rfl (wpAny_bind (wpAny_letGo (wpAny_pure ?_)))
    exact fin cur _ tk (by rw [← hEnd]; exact hcur) fun b o nw nS e => (Heap.get?_update_other _ _ (Ne.symm nS)).trans (kk1 b o nw e)
  | succ k ih =>
    intro j s cur c hk hj st0 hcur cell0 fin
    have hMore : j + 1 < n := by omega
    refine codeAny_builtin PySem.F.entry_max_loop ?_; rw [Around.under_plainId PySem.F.plain_max_loop _]
    show wpAny _ A.in1 (seqItems? (.ref S) >>= _) _ _ s; refine wpAny_bind (wpAny_seqItems cell0 rfl ?_)
    show wpAny _ A.in1 (tryCatch (pyNext (.ref I)) _ >>= _) _ _ s; refine wpAny_bind (wpAny_tryCatch (W.item (j + 1) s _ _ hMore st0 fun v h' tk pv1 st1 kk1 => ?_))
    have cell1 := kk1 S _ hw cell0
    show wpAny _ A.in1 (tryCatch (holding [v, v] (richCompare .Gt v cur >>= _)) _ >>= _) _ _ _; refine wpAny_bind (wpAny_tryCatch (wpAny_holding (wpAny_bind (hc (j + 1) (argBest bt j) v cur _ _ _ pv1 hcur ?_))))
    refine wpAny_bind (wpAny_holding (wpAny_truthy_bool ?_)); refine wpAny_bind (wpAny_letGo (wpAny_pure ?_))
    cases hb : bt (j + 1) (argBest bt j) with
    | true =>
      simp only [if_true]; refine wpAny_bind ?_
      refine wpAny_updateSeq cell1 rfl (wpAny_bind (wpAny_letGo ?_)); rw [nmax]
      refine wpAny_pure ⟨plainId_quiet PySem.F.plain_max_loop _, ih (j + 1) _ v _ (by omega) hMore (W.frame _ _ _ st1 fun b inFp o e => ?_) (by simp only [argBest, hb, if_true]; exact pv1) (Heap.get?_update_self _ cell1 rfl)
        fun v' hh2 tk2 pv2 kk2 => ?_⟩
      · exact (Heap.get?_update_other _ _ (fun h : S = b => hf (by rw [h]; exact inFp))).trans e
      · exact fin v' hh2 tk2 pv2 fun b o nw nS e => kk2 b o nw nS ((Heap.get?_update_other _ _ (Ne.symm nS)).trans (kk1 b o nw e))
    | false =>
      simp only [Bool.false_eq_true, if_false]; refine wpAny_bind (wpAny_letGo ?_); rw [nmax]
      refine wpAny_pure ⟨plainId_quiet PySem.F.plain_max_loop _, ih (j + 1) _ cur c (by omega) hMore st1 (by simp only [argBest, hb, Bool.false_eq_true, if_false]; exact hcur) cell1 fun v' hh2 tk2 pv2 kk2 => ?_⟩
      exact fin v' hh2 tk2 pv2 fun b o nw nS e => kk2 b o nw nS (kk1 b o nw e)
/-- the loop from its start: an item, or the default -/
theorem mxloop0 {d : Value} {dn : Str} (W : Walks pr wo A.in1 I fp wr n P St) (bt : Nat → Nat → Bool) (hc : CmpOf pr wo A.in1 .Gt P bt) (S : Addr) (hf : S ∉ fp) {s : Shared} {c : Nat} (st0 : St 0 s.heap)
    (cell0 : s.heap.get? S = some { cls := .type "list", dict := none, data := .seq #[] c, slots := #[] })
    (fin : 0 < n → ∀ v h' tk, P (argBest bt (n - 1)) v → (∀ b o, b ∉ wr → b ≠ S → s.heap.get? b = some o → h'.get? b = some o) → R (.ok (.ret v)) { s with heap := h', toks := tk })
    (hD : n = 0 → ∀ h' tk, (∀ b o, b ∉ wr → b ≠ S → s.heap.get? b = some o → h'.get? b = some o) → R (.ok (.ret d)) { s with heap := h', toks := tk }) :
    codeAny (model pr wo) A (.builtin "max.loop" ⟨[.ref I, .none, .ref S], [(dn, d)]⟩) R s := by
  have hw : S ∉ wr := fun h => hf (W.sub _ h)
  refine codeAny_builtin PySem.F.entry_max_loop ?_; rw [Around.under_plainId PySem.F.plain_max_loop _]
  show wpAny _ A.in1 (seqItems? (.ref S) >>= _) _ _ s; refine wpAny_bind (wpAny_seqItems cell0 rfl ?_)
  show wpAny _ A.in1 (tryCatch (pyNext (.ref I)) _ >>= _) _ _ s
  by_cases hn : 0 < n
  · refine wpAny_bind (wpAny_tryCatch (W.item 0 s _ _ hn st0 fun v h' tk pv1 st1 kk1 => ?_))
    have cell1 := kk1 S _ hw cell0
    show wpAny _ A.in1 (updateSeq S (fun _ => #[v, v]) >>= _) _ _ _; refine wpAny_bind ?_
    refine wpAny_updateSeq cell1 rfl ?_; rw [nmax]
    refine wpAny_pure ⟨plainId_quiet PySem.F.plain_max_loop _, mxloop _ W bt hc S hf _ 0 _ v _ rfl hn (W.frame _ _ _ st1 fun b inFp o e => ?_) pv1 (Heap.get?_update_self _ cell1 rfl) fun v' hh2 tk2 pv2 kk2 => ?_⟩
    · exact (Heap.get?_update_other _ _ (fun h : S = b => hf (by rw [h]; exact inFp))).trans e
    · exact fin hn v' hh2 tk2 pv2 fun b o nw nS e => kk2 b o nw nS ((Heap.get?_update_other _ _ (Ne.symm nS)).trans (kk1 b o nw e))
  · have h0 : n = 0 := by omega
    refine wpAny_bind (wpAny_tryCatch (W.done s _ _ (h0 ▸ st0) fun h' tk kk1 => ?_))
    show wpAny _ A.in1 (rule _ >>= _) _ _ _; refine wpAny_bind (wpAny_rule ?_)
    exact wpAny_pure (hD h0 h' tk fun b o nw _ e => kk1 b o nw e)
end
section
variable {pr : Program} {wo : World} {A : Around} {E : Value → Shared → Prop} {s : Shared}
theorem mx_args (a v : Value) : argsOk "max" ⟨[a], [(Str.ofString "default", v)]⟩ := by unfold argsOk; kernel_rfl
theorem mx_call {x d : Value} {Q : Value → Shared → Prop}
    (h : wpAny (model pr wo) A.in1 (pyIter x) (fun it s₂ => ∃ I fp wr n P St bt, it = .ref I ∧ Walks pr wo A.in1 I fp wr n P St ∧ St 0 s₂.heap ∧ (∀ b ∈ fp, b < s₂.heap.objs.size) ∧ CmpOf pr wo A.in1 .Gt P bt ∧
      (0 < n → ∀ v h' tk, P (argBest bt (n - 1)) v → (∀ b o, b ∉ wr → s₂.heap.get? b = some o → h'.get? b = some o) → Q v { s₂ with heap := h', toks := tk }) ∧
      (n = 0 → ∀ h' tk, (∀ b o, b ∉ wr → s₂.heap.get? b = some o → h'.get? b = some o) → Q d { s₂ with heap := h', toks := tk })) E s) :
    wpAny (model pr wo) A (call (.builtin "max") [x] [(Str.ofString "default", d)]) Q E s := by
  refine kmk_tree PySem.F.kind_max PySem.F.plain_max PySem.F.entry_max (mx_args _ _) ?_
  show wpAny _ A.in1 (Builtin.Builtins.bindParams "max" ["key", "default"] 0 ⟨[], [(Str.ofString "default", d)]⟩ >>= _) _ _ s
  refine wpAny_bind (wpAny_of_eq (show Builtin.Builtins.bindParams "max" ["key", "default"] 0 ⟨[], [(Str.ofString "default", d)]⟩ = pure [none, some d] from rfl) ?_)
  refine wpAny_bind (wpAny_pure ?_); refine wpAny_bind (wpAny_mono h (fun it s₂ h₂ => ?_) fun _ _ e => e)
  obtain ⟨I, fp, wr, n, P, St, bt, rfl, W, hst, hfp, hcmp, hQ, hD⟩ := h₂
  refine wpAny_bind (wpAny_newObj_type ?_); have hSf : s₂.heap.objs.size ∉ fp := fun hm => Nat.lt_irrefl _ (hfp _ hm)
  rw [nmax]
  refine wpAny_pure ⟨plainId_quiet PySem.F.plain_max_loop _, mxloop0 W bt hcmp s₂.heap.objs.size hSf (W.frame _ _ _ hst fun b _ o e => Heap.get?_push_of_some _ e) (Heap.get?_push_size _ rfl) (fun hn v h' tk hP hk => ?_) (fun h0 h' tk hk => ?_)⟩
  · exact hQ hn v h' tk hP fun b o hbw e => hk b o hbw (Nat.ne_of_lt (Heap.lt_size e)) (Heap.get?_push_of_some _ e)
  · exact hD h0 h' tk fun b o hbw e => hk b o hbw (Nat.ne_of_lt (Heap.lt_size e)) (Heap.get?_push_of_some _ e)
theorem mx_old {o0 : Obj} {h' : Heap} (hk : ∀ b o, b ∉ [s.heap.objs.size] → (s.heap.push o0).get? b = some o → h'.get? b = some o) : ∀ b o, s.heap.get? b = some o → h'.get? b = some o := fun b o e => by
  refine hk b o (fun hm => ?_) (Heap.get?_push_of_some _ e)
  have e1 : b = s.heap.objs.size := by simpa using hm
  exact absurd (e1 ▸ Heap.lt_size e) (Nat.lt_irrefl _)
theorem mx_lt {l : Addr} {ol : Obj} (o : Obj) (hol : s.heap.get? l = some ol) : ∀ b ∈ [s.heap.objs.size, l], b < (s.heap.push o).objs.size := fun b hb => by
  have hl := Heap.lt_size hol
  rw [Heap.size_push]
  rcases List.mem_cons.mp hb with rfl | hb
  · exact Nat.lt_succ_self _
  · have : b = l := by simpa using hb
    rw [this]; exact Nat.lt_succ_of_lt hl
/-- of a list or a tuple of whole numbers -/
theorem mx_raw {l : Addr} {its : List Value} {ns : List Int} {d : Value} {Q : Value → Shared → Prop} (hh : A.handled = none) (hl : s.heap.IsList l its.toArray ∨ s.heap.IsTuple l its.toArray) (hi : IntsAre its ns)
    (h : 0 < ns.length → ∀ h' tk M t', (∀ b o, s.heap.get? b = some o → h'.get? b = some o) → M ∈ ns → (∀ a, a ∈ ns → a ≤ M) → Q (.int M t') { s with heap := h', toks := tk })
    (h0 : ns.length = 0 → ∀ h' tk, (∀ b o, s.heap.get? b = some o → h'.get? b = some o) → Q d { s with heap := h', toks := tk }) :
    wpAny (model pr wo) A (call (.builtin "max") [.ref l] [(Str.ofString "default", d)]) Q E s := by
  obtain ⟨xs, e⟩ := hi.allInts.items
  have hn : numsOf (intItems xs).toList = ns := by rw [← e]; exact hi.numsOf
  rw [nums_intItems] at hn
  subst hn
  rw [e] at hl
  have hsz : (xs.toList.map (·.1)).length = xs.size := by simp
  have hsz2 : (intItems xs).size = xs.size := by simp [intItems]
  have fin : ∀ v h' tk, 0 < (intItems xs).size → (intItems xs)[argBest (fun i j => decide (numAt xs i > numAt xs j)) ((intItems xs).size - 1)]? = some v → (∀ b o, s.heap.get? b = some o → h'.get? b = some o) → Q v { s with heap := h', toks := tk } := fun v h' tk hp hv hk => by
    rw [hsz2] at hp hv
    obtain ⟨t, rfl⟩ := intItems_at hv
    obtain ⟨h1, h2⟩ := argBest_gt (numAt xs) (xs.size - 1)
    refine h (by rw [hsz]; exact hp) h' tk _ t hk ?_ fun a ha => ?_
    · rw [numAt_eq]; exact PySem.getD_mem (by rw [hsz]; omega)
    · obtain ⟨j, hj, rfl⟩ := PySem.mem_getD ha
      rw [hsz] at hj
      rw [← numAt_eq]; exact h2 j (by omega)
  rcases hl with hl | hl
  · obtain ⟨ol, hol, _⟩ := id hl
    have hne : l ≠ s.heap.objs.size := Nat.ne_of_lt (Heap.lt_size hol)
    refine mx_call (wpAny_pyIter_list hl ⟨s.heap.objs.size, _, _, _, _, _, _, rfl, Walks.list (A := A.in1) hh _ l hne (intItems xs), ⟨⟨_, Heap.get?_push_size _ rfl, rfl, rfl⟩, hl.push _⟩, mx_lt _ hol, CmpOf.ints_gt (numAt xs) (fun _ _ => intItems_at), fun hp v h' tk hP hk => ?_, fun hz h' tk hk => ?_⟩)
    · exact fin v h' tk hp hP (mx_old hk)
    · exact h0 (by rw [hsz, ← hsz2]; exact hz) h' tk (mx_old hk)
  · obtain ⟨ol, hol, _⟩ := id hl
    have hne : l ≠ s.heap.objs.size := Nat.ne_of_lt (Heap.lt_size hol)
    refine mx_call (wpAny_pyIter_tuple hl ⟨s.heap.objs.size, _, _, _, _, _, _, rfl, Walks.tuple (A := A.in1) hh _ l hne (intItems xs), ⟨⟨_, Heap.get?_push_size _ rfl, rfl, rfl⟩, hl.push _⟩, mx_lt _ hol, CmpOf.ints_gt (numAt xs) (fun _ _ => intItems_at), fun hp v h' tk hP hk => ?_, fun hz h' tk hk => ?_⟩)
    · exact fin v h' tk hp hP (mx_old hk)
    · exact h0 (by rw [hsz, ← hsz2]; exact hz) h' tk (mx_old hk)
end
section
variable {X : Cx}
/-- max(xs, default=z): the greatest, or z -/
def rMaxD (K : PySem.W.Frag) : List V → List V → Hp → VK → Prop := fun vs zs H Q => ∃ (a : Addr) (ns : List Int) (z : Int), vs = [V.ref a] ∧ zs = [.int z] ∧ (SqL K H a (ns.map V.int) ∨ SqT K H a (ns.map V.int)) ∧
  (∀ m, m ∈ ns → (∀ y, y ∈ ns → y ≤ m) → Q (.int m) H) ∧ (ns = [] → Q (.int z) H)
theorem cr_maxD (hc : X.calm = true) : CallRK X (.builtin "max") ["default"] (rMaxD X.K) := by
  intro pins s σ H vs zs us ws Q I r rz h
  obtain ⟨a, ns, z, rfl, rfl, hs, q, q0⟩ := h
  rw [Vals.ref1 r]
  obtain ⟨u, rfl, t, rfl⟩ := rz.one
  have go : ∀ its : List Value, Vals (ns.map V.int) its → (s.heap.IsList a its.toArray ∨ s.heap.IsTuple a its.toArray) → wpAny (model X.prog X.w) X.A (call (.builtin "max") [.ref a] [(Str.ofString "default", .int z t)]) (EP X pins σ Q) X.xe s := fun its rv hl =>
    mx_raw (I.ok.hd hc) hl rv.ints (fun _ h' tk m t' hk h1 h2 => ⟨.int m, H, I.kept hk, ⟨_, rfl⟩, q m h1 h2⟩) (fun hz h' tk hk => ⟨.int z, H, I.kept hk, ⟨_, rfl⟩, q0 (List.length_eq_zero_iff.mp hz)⟩)
  rcases hs with hs | hs
  · obtain ⟨its, rv, hl, _⟩ := I.list hs
    exact go its rv (.inl hl.isList)
  · obtain ⟨its, rv, hl, _⟩ := I.tuple hs
    exact go its rv (.inr hl)
/-! ### xs.extend(t), t a tuple -/
def rExtT : V → List V → Hp → VK → Prop := fun x vs H Q => ∃ l b xs zs, x = .ref l ∧ vs = [.ref b] ∧ H l = some (.lst xs) ∧ H b = some (.tup zs) ∧ xs.length + zs.length ≤ sizeLine ∧ Q .non (upd H l (.lst (xs ++ zs)))
theorem ext_meets (l : Addr) (its : Array Value) (n : Nat) (b : Addr) (od : Option Addr) (its2 : Array Value) (n2 : Nat) (sl : Array (Option Value)) (hs0 : ¬(!its.isEmpty && Builtin.List.listTooLong (its.size + its2.size)) = true) (hs1 : its.size ≤ sizeLine) (hs2 : its.size + its2.size ≤ sizeLine + 1) :
    Meets (Builtin.«list.extend» ⟨[.ref l, .ref b], []⟩) (fun _ R s => s.heap.get? l = some { cls := .type "list", dict := none, data := .seq its n, slots := #[] } ∧ s.heap.get? b = some { cls := .type "tuple", dict := od, data := .seq its2 n2, slots := sl } ∧ R (.ok (.ret Value.none)) { s with heap := s.heap.update l (Obj.mapSeq fun x => x ++ its2), toks := s.toks }) :=
  .of_wp fun prog w A R s h => by
    obtain ⟨hp, g, d, tk, os⟩ := s; obtain ⟨hl, hb, h⟩ := h
    have f1 := PySem.AutoSeq1.idx_int; have f2 := PySem.AutoSeq1.sub_tuple_tuple; have f3 := PySem.AutoSeq1.sub_list_list; have f4 := PySem.AutoSeq1.sub_tuple_list
    have f5 := PySem.AutoSeq1.sub_list_tuple
    have hz' : (its ++ its2).size ≤ sizeLine + 1 := by rw [Array.size_append]; exact hs2
    wp_walk using (wpAny_updateSeq hl rfl (hz := hs1) (_hz' := hz')), PySem.AutoSeq1.wpAny_loadPart' hl, PySem.AutoSeq1.wpAny_loadPart' hb
    exact ⟨_, rfl, h⟩
theorem mt_extendT : MtM X "list.extend" rExtT := by
  intro pins s σ H x vs v us Q I rx rv h
  obtain ⟨l, b, xs, zs, rfl, rfl, hH, hB, hz, q⟩ := h
  cases rx
  obtain ⟨u, rfl, ru⟩ := rv.one
  cases ru
  obtain ⟨z, its, n, r, hl, e⟩ := I.lstM hH
  obtain ⟨z2, its2, r2, ⟨cl, od, da, sl⟩, e2, hc, n2, hd⟩ := (show ObjOk X.prog X.w H s.heap b (.tup zs) from I.hok b _ hB)
  cases hc
  cases hd
  have hl2 := r2.length
  have hsz : its.toArray.size + its2.toArray.size ≤ sizeLine := by rw [List.size_toArray, List.size_toArray]; omega
  have hlong : ¬ (!its.toArray.isEmpty && Builtin.List.listTooLong (its.toArray.size + its2.toArray.size)) = true := by
    rw [notLongL hsz, Bool.and_false]; exact Bool.false_ne_true
  refine call_meets PySem.F.slot_list_extend ⟨_, e, rfl⟩ PySem.F.entry_list_extend (PySem.F.args_list_extend_2 _ _)
    (ext_meets l its.toArray n b od its2.toArray n2 sl hlong (by rw [List.size_toArray]; omega) (by omega)) ⟨e, e2, ?_⟩
  refine ⟨.non, _, I.lset (its' := its ++ its2) hH e (by simp) (r.append r2) ?_, rfl, q⟩
  rw [List.length_append]; omega

/-! ### d.pop(k), k a tuple that is there -/
def rPopT1 : V → List V → Hp → VK → Prop := fun x xs H Q => ∃ (a : Addr) (kvs : List (List L2.Key × V)) (k : List L2.Key) (b : Addr) (v : V), x = .ref a ∧ xs = [.ref b] ∧ H a = some (.dT kvs) ∧ H b = some (.tup (k.map kV)) ∧ valV kvs k = some v ∧ Q v (upd H a (.dT (dropK kvs k)))
theorem mt_popT1 (hu : X.A.units + 1 < cLine) : MtR X "dict.pop" rPopT1 := by
  intro pins s σ H x xs v us Q I rx rxs h
  obtain ⟨a, kvs, k, b, v0, rfl, rfl, ha, hb, ev, q1⟩ := h
  cases rx
  obtain ⟨u1, rfl, r1⟩ := rxs.one
  cases r1
  obtain ⟨z, hd, xs', rel, dd⟩ := dt_of I.hok ha
  have hz : xs'.length ≤ sizeLine := by rw [← Paired.length rel]; exact z
  have r := rel.val k
  rw [ev] at r
  cases hp : atKey xs' k with
  | none =>
    rw [hp] at r
    exact (show False from r).elim
  | some p =>
    rw [hp] at r
    have rv : RelV v0 p.2 := r
    refine call_pop_heap (more := []) (.inl rfl) (PySem.F.args_dict_pop_2 _ _) (tupleKind_room_in1 hu) (key_of I.hok hb) hd dd hp (fun h' dd' hs => ?_) hz
    obtain ⟨o, es, ep, hq, h2, h3, h4, _, h5⟩ := dd'
    exact ⟨v0, upd H a (.dT (dropK kvs k)), d_write I (by rw [ha]; exact True.intro) hs ⟨o, hq⟩ ⟨Nat.le_trans (dropK_le kvs k) z, hd, _, (L2.DX.KT_drop k rel).keeps (fun c ys ec => (by rw [upd_ne (ne_of ec ha (fun z => nomatch z))]; exact ec)), o, es, ep, hq, h2, h3, h4, h5⟩, rv, q1⟩

/-! ### sorted(d), d a dict of whole numbers, however many -/
def rSortDA : List V → Hp → VK → Prop := fun vs H Q => ∃ (a : Addr) (kvs : List (L2.Key × V)) (ks : List Int), vs = [.ref a] ∧ H a = some (.dK kvs) ∧ kvs.map (·.1) = ks.map Sum.inl ∧
  ∀ (ys : List Int) (p : Addr), ys.Perm ks → ys.Pairwise (· ≤ ·) → H p = none → Q (.ref p) (upd H p (.lst (ys.map V.int)))
theorem cr_sortedDA (hc : X.calm = true) : CallR X (.builtin "sorted") rSortDA := by
  intro pins s σ H vs us Q I r h
  obtain ⟨a, kvs, ks, rfl, ha, hks, q⟩ := h
  rw [Vals.ref1 r]
  obtain ⟨z, lo, ws, rel, dof⟩ := dk_of I.hok ha
  obtain ⟨ep, dat⟩ := dof.dictAt
  have hkeys : ws.map (·.1) = ks.map Sum.inl := (KV.keys rel).symm.trans hks
  have hlw : ws.length = ks.length := by
    have e1 := congrArg List.length hkeys
    rw [List.length_map, List.length_map] at e1
    exact e1
  have hlk : kvs.length = ks.length := by
    have e1 := congrArg List.length hks
    rw [List.length_map, List.length_map] at e1
    exact e1
  have hzk : ks.length ≤ sizeLine := by rw [← hlk]; exact z
  refine Calls.call_function_entry PyProof.Rows.kind_sorted PyProof.Rows.plain_sorted PyProof.Rows.entry_sorted (PyProof.Rows.args_sorted1 _) ?_
  show wpAny _ _ (Builtin.«sorted» ⟨[.ref a], []⟩) _ _ _
  unfold Builtin.«sorted»
  refine wpAny_bind (m := checkCount "sorted" 1 1 _) (wpAny_pure ?_)
  refine wpAny_bind (PySem.W.kdu_collect (A := X.A.in1) (PySem.W.kdl_dict (knd := mixKind X.prog X.w) (kvs := ws) (ep := ep) lo) (I.ok.hd hc) dat (by rw [hlw]; exact hzk) fun h' tk acc hk hacc => ?_)
  have hal : acc.toList.length = ks.length := by rw [Array.length_toList, hacc.1, hlw]
  have hI : IntsAre acc.toList ks := ints_each hal fun j v e => by
    obtain ⟨k, x, e1, e2⟩ := hacc.2 j v (by rw [← Array.getElem?_toList]; exact e)
    have e3 : (ws.map (·.1))[j]? = some k := by rw [List.getElem?_map, e1]; rfl
    rw [hkeys, List.getElem?_map] at e3
    obtain ⟨y, e4, e5⟩ := Option.map_eq_some_iff.mp e3
    subst e5
    have hi : Value.isInt y v = true := e2
    obtain ⟨t, e6⟩ := Value.isInt_shape (k := y) (v := v) hi
    exact ⟨y, t, e4, e6⟩
  have I1 : Inv X pins σ H { s with heap := h', toks := tk } := I.kept hk
  refine wpAny_bind (wpAny_newList ?_ (by rw [hal]; exact hzk))
  have hoL : (h'.push (seqObj "list" acc.toList.toArray 0)).get? h'.objs.size = some (seqObj "list" acc.toList.toArray 0) := Heap.get?_push_size _ rfl
  show wpAny _ _ _ _ _ { s with heap := h'.push (seqObj "list" acc.toList.toArray 0), toks := tk }
  refine wpAny_bind (wpAny_holding (wpAny_call_entry PyProof.Rows.slot_list_sort ⟨_, hoL, rfl⟩ PyProof.Rows.entry_list_sort (SrtO.list_sort_ord (s := { s with heap := h'.push (seqObj "list" acc.toList.toArray 0), toks := tk }) SrtO.swo_int hoL (by rw [hal]; exact hzk) (fun h2 => SrtO.ints_sortable hI h2) fun out h1 h2 => ⟨_, rfl, ?_⟩) (PyProof.Rows.args_list_sort _)))
  obtain ⟨k1, k2, k3⟩ := SrtO.ints_out hI h1 h2
  obtain ⟨e', he'⟩ := PyProof.Rows.sortedHeap_at (vs := acc.toList) (out := out.toArray) hoL
  have hlen : ((out.map SrtO.iv).map V.int).length ≤ sizeLine := by rw [List.length_map, k2.length_eq]; exact hzk
  refine wpAny_pure ⟨_, rfl, .ref h'.objs.size, upd H h'.objs.size (.lst ((out.map SrtO.iv).map V.int)), I1.laid (t' := tk) (fun b u e => ?_) (Nat.le_refl _) ⟨hlen, out, e', vals_of_ints k1, he'⟩, rfl, q _ _ k2 k3 (I1.hok.fresh (Nat.le_refl _))⟩
  have hb : b < h'.objs.size := Heap.lt_size e
  rw [PyProof.Rows.sortedHeap_old (Nat.ne_of_lt hb) (by rw [size_push']; exact Nat.lt_succ_of_lt hb)]
  exact Heap.get?_push_of_some _ e
end
end Km

namespace Km
open PySem PySem.Spec PyProof.Rows L2
section
variable {P : Program} {w : World} {K : PySem.W.Frag} {mg : Str → Option Value} {base : Heap} {a : Ad}
noncomputable def d_Binding_init (T : Txt K mg a)  {cdv : Value} {A : Around} {outer : List Env} {s : Shared} {H : Hp} {E : XK} (hr : Room 0 (A.deeper (envOfC "Binding.__init__" (defScope s_Binding_init) s.heap.objs.size a.f_Binding_init cdv))) :
    { t : TS // PSs (cxOf CX0 P w K mg base ["self", "at_once", "purpose", "details", "sequence"] "Binding.__init__" (defScope s_Binding_init) a.f_Binding_init cdv A outer s H E).nox (defBody s_Binding_init) t } :=
  ⟨_, (pss_cons (ps_fld (pv 0) (pv 1) rfl)
    (pss_cons (ps_fld (pv 0) (pv 2) rfl)
    (pss_cons (ps_fld (pv 0) (pv 3) rfl)
    (pss_one (ps_fld (pv 0) (pv 4) rfl)))))⟩
noncomputable def d_read_binding (T : Txt K mg a) {sp_Binding_init : Sp} (G_Binding_init : FnOk P w K mg base CX0 1 a.f_Binding_init a.fd_Binding_init ["self", "at_once", "purpose", "details", "sequence"] sp_Binding_init) {cdv : Value} {A : Around} {outer : List Env} {s : Shared} {H : Hp} {E : XK} (hr : Room 2 (A.deeper (envOfC "read_binding" (defScope s_read_binding) s.heap.objs.size a.f_read_binding cdv))) :
    { t : TS // PSs (cxOf CX0 P w K mg base ["at_once", "row", "purpose", "start", "how_many", "end"] "read_binding" (defScope s_read_binding) a.f_read_binding cdv A outer s H E).nox (defBody s_read_binding) t } :=
  ⟨_, (pss_cons (ps_set (i := 2) sc_read_binding.nd rfl (Or.inl rfl) (pe_ix ix_list (pv 1) pe_int (fun _ _ => rfl)))
    (pss_cons (ps_set (i := 3) sc_read_binding.nd rfl (Or.inl rfl) pe_int)
    (pss_cons (ps_set (i := 4) sc_read_binding.nd rfl (Or.inl rfl) pe_int)
    (pss_cons (ps_if (pt_cmpR op_in_seq (pv 2) (pe_tup (pa_cons (pe_gI (by rfl) T.k_KEYS_INSTEAD) (pa_cons (pe_gI (by rfl) T.k_KEYS_AS_THEY_ARE) pa_nil))) rfl)
      (pss_cons (ps_set (i := 3) sc_read_binding.nd rfl (Or.inl rfl) pe_int)
    (pss_one (ps_set (i := 4) sc_read_binding.nd rfl (Or.inl rfl) (pe_ix ix_list (pv 1) pe_int (fun _ _ => rfl)))))
      (pss_one (ps_if (pt_cmpR op_in_seq (pv 2) (pe_tup (pa_cons (pe_gI (by rfl) T.k_COMMAND) (pa_cons (pe_gI (by rfl) T.k_PUT_MAP) (pa_cons (pe_gI (by rfl) T.k_EXCHANGE_MAP) pa_nil)))) rfl)
      (pss_one (ps_set (i := 4) sc_read_binding.nd rfl (Or.inl rfl) pe_int))
      pss_nil)))
    (pss_cons (ps_set (i := 5) sc_read_binding.nd rfl (Or.inl rfl) (pe_op op_add (pv 3) (pv 4)))
    (pss_one (ps_ret (pe_make T.mk_Binding G_Binding_init (hr.mono (by decide)) (by rfl) T.g_Binding T.b_Binding_init .nil pass0 (pa_cons (pv 0) (pa_cons (pv 2) (pa_cons (pe_slice sl_list (pv 1) (po_some (pv 3)) (po_some (pv 5))) (pa_cons (pe_callTy call_tuple_of (by rfl) T.n_tuple (by decide +kernel) (pa_cons (pe_slice sl_list (pv 1) (po_some (pv 5)) po_none) pa_nil)) pa_nil))))))))))))⟩
noncomputable def d_keys_fit (T : Txt K mg a)  {cdv : Value} {A : Around} {outer : List Env} {s : Shared} {H : Hp} {E : XK} (hr : Room 0 (A.deeper (envOfC "keys_fit" (defScope s_keys_fit) s.heap.objs.size a.f_keys_fit cdv))) :
    { t : TS // PSs (cxOf CX0 P w K mg base ["keys", "fewest", "most"] "keys_fit" (defScope s_keys_fit) a.f_keys_fit cdv A outer s H E).nox (defBody s_keys_fit) t } :=
  ⟨_, (pss_one (ps_ret (pe_and (pe_chain op_le op_le (pv 1) (pe_callB call_len_seq (by rfl) T.n_len PySem.boot_len (pa_cons (pv 0) pa_nil)) (pv 2)) (pe_one (pe_cmpR op_le (pe_callBK (cr_maxD rfl) (by rfl) T.n_max (by decide +kernel) (pa_cons (pv 0) pa_nil) (pk_cons pe_int pk_nil)) (pe_gI (by rfl) T.k_HIGHEST_KEY) (nomark _))))))⟩
noncomputable def d_sequence_fits (T : Txt K mg a) {sp_keys_fit : Sp} (G_keys_fit : FnOk P w K mg base CX0 1 a.f_keys_fit a.fd_keys_fit ["keys", "fewest", "most"] sp_keys_fit) {cdv : Value} {A : Around} {outer : List Env} {s : Shared} {H : Hp} {E : XK} (hr : Room 1 (A.deeper (envOfC "sequence_fits" (defScope s_sequence_fits) s.heap.objs.size a.f_sequence_fits cdv))) :
    { t : TS // PSs (cxOf CX0 P w K mg base ["sequence"] "sequence_fits" (defScope s_sequence_fits) a.f_sequence_fits cdv A outer s H E).nox (defBody s_sequence_fits) t } :=
  ⟨_, (pss_one (ps_ret (pe_call G_keys_fit (hr.mono (by decide)) (by rfl) T.g_keys_fit T.F_keys_fit.kp T.b_keys_fit .nil pass0 (pa_cons (pv 0) (pa_cons pe_int (pa_cons (pe_gI (by rfl) T.k_LONGEST_SEQUENCE) pa_nil))))))⟩
noncomputable def d_details_fit (T : Txt K mg a) {sp_keys_fit : Sp} (G_keys_fit : FnOk P w K mg base CX0 1 a.f_keys_fit a.fd_keys_fit ["keys", "fewest", "most"] sp_keys_fit) {cdv : Value} {A : Around} {outer : List Env} {s : Shared} {H : Hp} {E : XK} (hr : Room 1 (A.deeper (envOfC "details_fit" (defScope s_details_fit) s.heap.objs.size a.f_details_fit cdv))) :
    { t : TS // PSs (cxOf CX0 P w K mg base ["purpose", "details"] "details_fit" (defScope s_details_fit) a.f_details_fit cdv A outer s H E).nox (defBody s_details_fit) t } :=
  ⟨_, (pss_cons (ps_if (pt_cmpR op_eq (pv 0) (pe_gI (by rfl) T.k_COMMAND) (nomark _))
      (pss_one (ps_ret (pe_cmpR op_le (pe_ix ix_list (pv 1) pe_int (fun _ _ => rfl)) (pe_gI (by rfl) T.k_HIGHEST_COMMAND) (nomark _))))
      pss_nil)
    (pss_cons (ps_if (pt_cmpR op_eq (pv 0) (pe_gI (by rfl) T.k_KEYS_INSTEAD) (nomark _))
      (pss_one (ps_ret (pe_call G_keys_fit (hr.mono (by decide)) (by rfl) T.g_keys_fit T.F_keys_fit.kp T.b_keys_fit .nil pass0 (pa_cons (pv 1) (pa_cons pe_int (pa_cons (pe_gI (by rfl) T.k_MOST_KEYS_PUT) pa_nil))))))
      pss_nil)
    (pss_cons (ps_if (pt_cmpR op_eq (pv 0) (pe_gI (by rfl) T.k_KEYS_AS_THEY_ARE) (nomark _))
      (pss_one (ps_ret (pe_call G_keys_fit (hr.mono (by decide)) (by rfl) T.g_keys_fit T.F_keys_fit.kp T.b_keys_fit .nil pass0 (pa_cons (pv 1) (pa_cons pe_int (pa_cons (pe_gI (by rfl) T.k_MOST_KEYS_PUT) pa_nil))))))
      pss_nil)
    (pss_cons (ps_if (pt_cmpR op_in_seq (pv 0) (pe_tup (pa_cons (pe_gI (by rfl) T.k_PUT_MAP) (pa_cons (pe_gI (by rfl) T.k_EXCHANGE_MAP) pa_nil))) rfl)
      (pss_one (ps_ret (pe_cmpR op_lt (pe_ix ix_list (pv 1) pe_int (fun _ _ => rfl)) (pe_gI (by rfl) T.k_MAP_COUNT) (nomark _))))
      pss_nil)
    (pss_one (ps_ret pe_bl))))))⟩
noncomputable def d_binding_fits (T : Txt K mg a) {sp_details_fit : Sp} (G_details_fit : FnOk P w K mg base CX0 2 a.f_details_fit a.fd_details_fit ["purpose", "details"] sp_details_fit) {sp_sequence_fits : Sp} (G_sequence_fits : FnOk P w K mg base CX0 2 a.f_sequence_fits a.fd_sequence_fits ["sequence"] sp_sequence_fits) {cdv : Value} {A : Around} {outer : List Env} {s : Shared} {H : Hp} {E : XK} (hr : Room 2 (A.deeper (envOfC "binding_fits" (defScope s_binding_fits) s.heap.objs.size a.f_binding_fits cdv))) :
    { t : TS // PSs (cxOf CX0 P w K mg base ["binding"] "binding_fits" (defScope s_binding_fits) a.f_binding_fits cdv A outer s H E).nox (defBody s_binding_fits) t } :=
  ⟨_, (pss_one (ps_ret (pe_and (pe_call G_sequence_fits (hr.mono (by decide)) (by rfl) T.g_sequence_fits T.F_sequence_fits.kp T.b_sequence_fits .nil pass0 (pa_cons (pe_fld (pv 0) rfl) pa_nil)) (pe_one (pe_call G_details_fit (hr.mono (by decide)) (by rfl) T.g_details_fit T.F_details_fit.kp T.b_details_fit .nil pass0 (pa_cons (pe_fld (pv 0) rfl) (pa_cons (pe_fld (pv 0) rfl) pa_nil)))))))⟩
noncomputable def d_KeyMap_init (T : Txt K mg a)  {cdv : Value} {A : Around} {outer : List Env} {s : Shared} {H : Hp} {E : XK} (hr : Room 0 (A.deeper (envOfC "KeyMap.__init__" (defScope s_KeyMap_init) s.heap.objs.size a.f_KeyMap_init cdv))) :
    { t : TS // PSs (cxOf CX0 P w K mg base ["self", "number", "shut"] "KeyMap.__init__" (defScope s_KeyMap_init) a.f_KeyMap_init cdv A outer s H E).nox (defBody s_KeyMap_init) t } :=
  ⟨_, (pss_cons (ps_fld (pv 0) (pv 1) rfl)
    (pss_cons (ps_fld (pv 0) (pv 2) rfl)
    (pss_one (ps_fld (pv 0) pe_dnewT rfl))))⟩
noncomputable def d_KeyMap_add_binding (T : Txt K mg a)  {cdv : Value} {A : Around} {outer : List Env} {s : Shared} {H : Hp} {E : XK} (hr : Room 0 (A.deeper (envOfC "KeyMap.add_binding" (defScope s_KeyMap_add_binding) s.heap.objs.size a.f_KeyMap_add_binding cdv))) :
    { t : TS // PSs (cxOf CX0 P w K mg base ["self", "binding"] "KeyMap.add_binding" (defScope s_KeyMap_add_binding) a.f_KeyMap_add_binding cdv A outer s H E).nox (defBody s_KeyMap_add_binding) t } :=
  ⟨_, (pss_cons (ps_expr (pe_bm PySem.F.plainAttrs_dict PySem.F.slot_dict_pop PySem.F.type_dict_pop (L2.DX.mt_popT (hu_of hr)) (pe_fld (pv 0) rfl) (pa_cons (pe_fld (pv 1) rfl) (pa_cons pe_non pa_nil))))
    (pss_one (ps_dput (hu_of hr) (pe_fld (pv 0) rfl) (pe_fld (pv 1) rfl) (pv 1) rfl)))⟩
noncomputable def d_maps_in_use (T : Txt K mg a)  {cdv : Value} {A : Around} {outer : List Env} {s : Shared} {H : Hp} {E : XK} (hr : Room 0 (A.deeper (envOfC "maps_in_use" (defScope s_maps_in_use) s.heap.objs.size a.f_maps_in_use cdv))) :
    { t : TS // PSs (cxOf CX0 P w K mg base ["maps", "in_use", "numbers", "number"] "maps_in_use" (defScope s_maps_in_use) a.f_maps_in_use cdv A outer s H E).nox (defBody s_maps_in_use) t } :=
  ⟨_, (pss_cons (ps_set (i := 2) sc_maps_in_use.nd rfl (Or.inl rfl) (pe_lst pa_nil))
    (pss_cons (ps_for PassesOwn.never rfl (pi_list (pv 1)) (pg_name (i := 3) sc_maps_in_use.nd rfl (Or.inl rfl))
      (pss_one (ps_if (pt_cmpR op_notIn_seq (pv 3) (pv 2) rfl)
      (pss_one (ps_expr (pe_bm PySem.F.plainAttrs_list PySem.F.slot_list_append PySem.F.type_list_append mt_append (pv 2) (pa_cons (pv 3) pa_nil))))
      pss_nil)))
    (pss_one (ps_ret (pe_lc (own := [("number", 3)]) (g := gName 3) (tt := tYes) rfl sc_maps_in_use.nd (pi_list (pv 2)) (blkOk_by (own := [("number", 3)]) (N := ["maps", "in_use", "numbers", "number"]) (sc := defScope s_maps_in_use) (by decide +kernel)) (fun _ _ _ _ _ => pg_name (i := 3) sc_maps_in_use.nd rfl (Or.inl rfl)) (fun _ _ _ _ _ => pts_nil) (fun _ _ _ _ _ => (pe_ix (show IxR _ (rIxL K) from ix_list) (pv 0) (pv 3) (fun _ _ => rfl))))))))⟩
noncomputable def d_counting_maps (T : Txt K mg a) {sp_maps_in_use : Sp} (G_maps_in_use : FnOk P w K mg base CX0 1 a.f_maps_in_use a.fd_maps_in_use ["maps", "in_use"] sp_maps_in_use) {cdv : Value} {A : Around} {outer : List Env} {s : Shared} {H : Hp} {E : XK} (hr : Room 1 (A.deeper (envOfC "counting_maps" (defScope s_counting_maps) s.heap.objs.size a.f_counting_maps cdv))) :
    { t : TS // PSs (cxOf CX0 P w K mg base ["maps", "in_use", "counting", "key_map"] "counting_maps" (defScope s_counting_maps) a.f_counting_maps cdv A outer s H E).nox (defBody s_counting_maps) t } :=
  ⟨_, (pss_cons (ps_set (i := 2) sc_counting_maps.nd rfl (Or.inl rfl) (pe_lst pa_nil))
    (pss_cons (ps_for PassesOwn.never rfl (pi_list (pe_call G_maps_in_use (hr.mono (by decide)) (by rfl) T.g_maps_in_use T.F_maps_in_use.kp T.b_maps_in_use .nil pass0 (pa_cons (pv 0) (pa_cons (pv 1) pa_nil)))) (pg_name (i := 3) sc_counting_maps.nd rfl (Or.inl rfl))
      (pss_cons (ps_expr (pe_bm PySem.F.plainAttrs_list PySem.F.slot_list_append PySem.F.type_list_append mt_append (pv 2) (pa_cons (pv 3) pa_nil)))
    (pss_one (ps_if (pt_cmpR op_eq (pe_fld (pv 3) rfl) pe_int (nomark _))
      (pss_one ps_break)
      pss_nil))))
    (pss_one (ps_ret (pv 2)))))⟩
noncomputable def d_binding_map (T : Txt K mg a)  {cdv : Value} {A : Around} {outer : List Env} {s : Shared} {H : Hp} {E : XK} (hr : Room 0 (A.deeper (envOfC "binding_map" (defScope s_binding_map) s.heap.objs.size a.f_binding_map cdv))) :
    { t : TS // PSs (cxOf CX0 P w K mg base ["counting", "sequence", "key_map"] "binding_map" (defScope s_binding_map) a.f_binding_map cdv A outer s H E).nox (defBody s_binding_map) t } :=
  ⟨_, (pss_cons (ps_for PassesOwn.never rfl (pi_list (pv 0)) (pg_name (i := 2) sc_binding_map.nd rfl (Or.inl rfl))
      (pss_one (ps_if (pt_cmp (pc_din (hu_of hr) (pv 1) (pe_fld (pv 2) rfl)))
      (pss_one (ps_ret (pv 2)))
      pss_nil)))
    (pss_one (ps_ret pe_non)))⟩
noncomputable def d_bound (T : Txt K mg a) {sp_binding_map : Sp} (G_binding_map : FnOk P w K mg base CX0 1 a.f_binding_map a.fd_binding_map ["counting", "sequence"] sp_binding_map) {cdv : Value} {A : Around} {outer : List Env} {s : Shared} {H : Hp} {E : XK} (hr : Room 1 (A.deeper (envOfC "bound" (defScope s_bound) s.heap.objs.size a.f_bound cdv))) :
    { t : TS // PSs (cxOf CX0 P w K mg base ["counting", "sequence", "key_map"] "bound" (defScope s_bound) a.f_bound cdv A outer s H E).nox (defBody s_bound) t } :=
  ⟨_, (pss_cons (ps_set (i := 2) sc_bound.nd rfl (Or.inl rfl) (pe_call G_binding_map (hr.mono (by decide)) (by rfl) T.g_binding_map T.F_binding_map.kp T.b_binding_map .nil pass0 (pa_cons (pv 0) (pa_cons (pv 1) pa_nil))))
    (pss_one (ps_ret (pe_ifExp (pt_cmpR op_isN (pv 2) pe_non (nomark _)) pe_non (pe_dget (hu_of hr) (pe_fld (pv 2) rfl) (pv 1) (fun _ _ => rfl))))))⟩
noncomputable def d_bound_at_once (T : Txt K mg a) {sp_bound : Sp} (G_bound : FnOk P w K mg base CX0 2 a.f_bound a.fd_bound ["counting", "sequence"] sp_bound) {cdv : Value} {A : Around} {outer : List Env} {s : Shared} {H : Hp} {E : XK} (hr : Room 2 (A.deeper (envOfC "bound_at_once" (defScope s_bound_at_once) s.heap.objs.size a.f_bound_at_once cdv))) :
    { t : TS // PSs (cxOf CX0 P w K mg base ["counting", "sequence", "binding"] "bound_at_once" (defScope s_bound_at_once) a.f_bound_at_once cdv A outer s H E).nox (defBody s_bound_at_once) t } :=
  ⟨_, (pss_cons (ps_set (i := 2) sc_bound_at_once.nd rfl (Or.inl rfl) (pe_call G_bound (hr.mono (by decide)) (by rfl) T.g_bound T.F_bound.kp T.b_bound .nil pass0 (pa_cons (pv 0) (pa_cons (pv 1) pa_nil))))
    (pss_one (ps_ret (pe_and (pe_cmpR op_notN (pv 2) pe_non (nomark _)) (pe_one (pe_cmpR op_eq (pe_fld (pv 2) rfl) pe_int (nomark _)))))))⟩
noncomputable def d_goes_on (T : Txt K mg a)  {cdv : Value} {A : Around} {outer : List Env} {s : Shared} {H : Hp} {E : XK} (hr : Room 0 (A.deeper (envOfC "goes_on" (defScope s_goes_on) s.heap.objs.size a.f_goes_on cdv))) :
    { t : TS // PSs (cxOf CX0 P w K mg base ["counting", "sequence", "length", "key_map", "longer"] "goes_on" (defScope s_goes_on) a.f_goes_on cdv A outer s H E).nox (defBody s_goes_on) t } :=
  ⟨_, (pss_cons (ps_set (i := 2) sc_goes_on.nd rfl (Or.inl rfl) (pe_callB call_len_seq (by rfl) T.n_len PySem.boot_len (pa_cons (pv 1) pa_nil)))
    (pss_cons (ps_for PassesOwn.never rfl (pi_list (pv 0)) (pg_name (i := 3) sc_goes_on.nd rfl (Or.inl rfl))
      (pss_one (ps_lock (ps_for PassesOwn.never rfl (pi_keys (pe_fld (pv 3) rfl)) (pg_name (i := 4) sc_goes_on.nd rfl (Or.inl rfl))
      (pss_one (ps_if (PW.pt (pw_and (pt_cmpR op_gt (pe_callB call_len_seq (by rfl) T.n_len PySem.boot_len (pa_cons (pv 4) pa_nil)) (pv 2) (nomark _)) (pw_and1 (pt_cmpR (op_eqD hr.units) (pe_slice sl_tupA (pv 4) po_none (po_some (pv 2))) (pv 1) (nomark _)))))
      (pss_one (ps_ret pe_bl))
      pss_nil))))))
    (pss_one (ps_ret pe_bl))))⟩
noncomputable def d_longest_bound (T : Txt K mg a) {sp_bound : Sp} (G_bound : FnOk P w K mg base CX0 2 a.f_bound a.fd_bound ["counting", "sequence"] sp_bound) {cdv : Value} {A : Around} {outer : List Env} {s : Shared} {H : Hp} {E : XK} (hr : Room 2 (A.deeper (envOfC "longest_bound" (defScope s_longest_bound) s.heap.objs.size a.f_longest_bound cdv))) :
    { t : TS // PSs (cxOf CX0 P w K mg base ["counting", "keys", "length", "binding"] "longest_bound" (defScope s_longest_bound) a.f_longest_bound cdv A outer s H E).nox (defBody s_longest_bound) t } :=
  ⟨_, (pss_cons (ps_for PassesOwn.never rfl (pi_range3 (by rfl) T.n_range (pa_cons (pe_callB call_len_seq (by rfl) T.n_len PySem.boot_len (pa_cons (pv 1) pa_nil)) (pa_cons pe_int (pa_cons (pe_un un_neg pe_int) pa_nil)))) (pg_name (i := 2) sc_longest_bound.nd rfl (Or.inl rfl))
      (pss_cons (ps_set (i := 3) sc_longest_bound.nd rfl (Or.inl rfl) (pe_call G_bound (hr.mono (by decide)) (by rfl) T.g_bound T.F_bound.kp T.b_bound .nil pass0 (pa_cons (pv 0) (pa_cons (pe_callTy call_tuple_of (by rfl) T.n_tuple (by decide +kernel) (pa_cons (pe_slice sl_list (pv 1) po_none (po_some (pv 2))) pa_nil)) pa_nil))))
    (pss_one (ps_if (pt_cmpR op_notN (pv 3) pe_non (nomark _))
      (pss_one (ps_ret (pv 3)))
      pss_nil))))
    (pss_one (ps_ret pe_non)))⟩
noncomputable def d_KeyStream_init (T : Txt K mg a)  {cdv : Value} {A : Around} {outer : List Env} {s : Shared} {H : Hp} {E : XK} (hr : Room 0 (A.deeper (envOfC "KeyStream.__init__" (defScope s_KeyStream_init) s.heap.objs.size a.f_KeyStream_init cdv))) :
    { t : TS // PSs (cxOf CX0 P w K mg base ["self", "maps", "in_use", "open_keys", "digits"] "KeyStream.__init__" (defScope s_KeyStream_init) a.f_KeyStream_init cdv A outer s H E).nox (defBody s_KeyStream_init) t } :=
  ⟨_, (pss_cons (ps_fld (pv 0) (pv 1) rfl)
    (pss_cons (ps_fld (pv 0) (pe_callTy call_list_of (by rfl) T.n_list (by decide +kernel) (pa_cons (pv 2) pa_nil)) rfl)
    (pss_cons (ps_fld (pv 0) (pe_callTy call_list_of (by rfl) T.n_list (by decide +kernel) (pa_cons (pv 3) pa_nil)) rfl)
    (pss_cons (ps_fld (pv 0) (pe_callTy call_list_of (by rfl) T.n_list (by decide +kernel) (pa_cons (pv 4) pa_nil)) rfl)
    (pss_cons (ps_fld (pv 0) (pe_lst pa_nil) rfl)
    (pss_cons (ps_fld (pv 0) pe_int rfl)
    (pss_one (ps_fld (pv 0) (pe_lst pa_nil) rfl))))))))⟩
noncomputable def d_KeyStream_put_in_use (T : Txt K mg a)  {cdv : Value} {A : Around} {outer : List Env} {s : Shared} {H : Hp} {E : XK} (hr : Room 0 (A.deeper (envOfC "KeyStream.put_in_use" (defScope s_KeyStream_put_in_use) s.heap.objs.size a.f_KeyStream_put_in_use cdv))) :
    { t : TS // PSs (cxOf CX0 P w K mg base ["self", "numbers"] "KeyStream.put_in_use" (defScope s_KeyStream_put_in_use) a.f_KeyStream_put_in_use cdv A outer s H E).nox (defBody s_KeyStream_put_in_use) t } :=
  ⟨_, (pss_one (ps_fld (pv 0) (pe_callTy call_list_of (by rfl) T.n_list (by decide +kernel) (pa_cons (pv 1) pa_nil)) rfl))⟩
noncomputable def d_KeyStream_take_events (T : Txt K mg a)  {cdv : Value} {A : Around} {outer : List Env} {s : Shared} {H : Hp} {E : XK} (hr : Room 0 (A.deeper (envOfC "KeyStream.take_events" (defScope s_KeyStream_take_events) s.heap.objs.size a.f_KeyStream_take_events cdv))) :
    { t : TS // PSs (cxOf CX0 P w K mg base ["self", "events"] "KeyStream.take_events" (defScope s_KeyStream_take_events) a.f_KeyStream_take_events cdv A outer s H E).nox (defBody s_KeyStream_take_events) t } :=
  ⟨_, (pss_cons (ps_set (i := 1) sc_KeyStream_take_events.nd rfl (Or.inl rfl) (pe_fld (pv 0) rfl))
    (pss_cons (ps_fld (pv 0) (pe_lst pa_nil) rfl)
    (pss_one (ps_ret (pv 1)))))⟩
noncomputable def d_KeyStream_press_key (T : Txt K mg a) {sp_KeyStream_go_through : Sp} (G_KeyStream_go_through : FnOk P w K mg base CX0 5 a.f_KeyStream_go_through a.fd_KeyStream_go_through ["self"] sp_KeyStream_go_through) {cdv : Value} {A : Around} {outer : List Env} {s : Shared} {H : Hp} {E : XK} (hr : Room 5 (A.deeper (envOfC "KeyStream.press_key" (defScope s_KeyStream_press_key) s.heap.objs.size a.f_KeyStream_press_key cdv))) :
    { t : TS // PSs (cxOf CX0 P w K mg base ["self", "key"] "KeyStream.press_key" (defScope s_KeyStream_press_key) a.f_KeyStream_press_key cdv A outer s H E).nox (defBody s_KeyStream_press_key) t } :=
  ⟨_, (pss_cons (ps_fld (pv 0) pe_int rfl)
    (pss_cons (ps_expr (pe_bm PySem.F.plainAttrs_list PySem.F.slot_list_append PySem.F.type_list_append mt_append (pe_fld (pv 0) rfl) (pa_cons (pv 1) pa_nil)))
    (pss_one (ps_expr (pe_meth0 (pv 0) T.c_KeyStream T.m_KeyStream_go_through G_KeyStream_go_through (hr.mono (by decide)) T.b_KeyStream_go_through .nil pass0)))))⟩
noncomputable def d_KeyStream_wait_long_enough (T : Txt K mg a) {sp_KeyStream_go_through : Sp} (G_KeyStream_go_through : FnOk P w K mg base CX0 5 a.f_KeyStream_go_through a.fd_KeyStream_go_through ["self"] sp_KeyStream_go_through) {sp_KeyStream_settle : Sp} (G_KeyStream_settle : FnOk P w K mg base CX0 4 a.f_KeyStream_settle a.fd_KeyStream_settle ["self"] sp_KeyStream_settle) {cdv : Value} {A : Around} {outer : List Env} {s : Shared} {H : Hp} {E : XK} (hr : Room 5 (A.deeper (envOfC "KeyStream.wait_long_enough" (defScope s_KeyStream_wait_long_enough) s.heap.objs.size a.f_KeyStream_wait_long_enough cdv))) :
    { t : TS // PSs (cxOf CX0 P w K mg base ["self"] "KeyStream.wait_long_enough" (defScope s_KeyStream_wait_long_enough) a.f_KeyStream_wait_long_enough cdv A outer s H E).nox (defBody s_KeyStream_wait_long_enough) t } :=
  ⟨_, (pss_cons (ps_fld (pv 0) pe_int rfl)
    (pss_one (ps_while PassesOwn.never (pt_truth (pe_fld (pv 0) rfl) (by intro _; rfl))
      (pss_cons (ps_expr (pe_meth0 (pv 0) T.c_KeyStream T.m_KeyStream_settle G_KeyStream_settle (hr.mono (by decide)) T.b_KeyStream_settle .nil pass0))
    (pss_one (ps_expr (pe_meth0 (pv 0) T.c_KeyStream T.m_KeyStream_go_through G_KeyStream_go_through (hr.mono (by decide)) T.b_KeyStream_go_through .nil pass0)))))))⟩
noncomputable def d_KeyStream_go_through (T : Txt K mg a) {sp_KeyStream_more_may_come : Sp} (G_KeyStream_more_may_come : FnOk P w K mg base CX0 4 a.f_KeyStream_more_may_come a.fd_KeyStream_more_may_come ["self"] sp_KeyStream_more_may_come) {sp_KeyStream_settle : Sp} (G_KeyStream_settle : FnOk P w K mg base CX0 4 a.f_KeyStream_settle a.fd_KeyStream_settle ["self"] sp_KeyStream_settle) {cdv : Value} {A : Around} {outer : List Env} {s : Shared} {H : Hp} {E : XK} (hr : Room 4 (A.deeper (envOfC "KeyStream.go_through" (defScope s_KeyStream_go_through) s.heap.objs.size a.f_KeyStream_go_through cdv))) :
    { t : TS // PSs (cxOf CX0 P w K mg base ["self"] "KeyStream.go_through" (defScope s_KeyStream_go_through) a.f_KeyStream_go_through cdv A outer s H E).nox (defBody s_KeyStream_go_through) t } :=
  ⟨_, (pss_one (ps_while PassesOwn.never (pt_truth (pe_fld (pv 0) rfl) (by intro _; rfl))
      (pss_cons (ps_expr (pe_bm PySem.F.plainAttrs_list PySem.F.slot_list_append PySem.F.type_list_append mt_append (pe_fld (pv 0) rfl) (pa_cons (pe_bm PySem.F.plainAttrs_list PySem.F.slot_list_pop PySem.F.type_list_pop mt_popAt (pe_fld (pv 0) rfl) (pa_cons pe_int pa_nil)) pa_nil)))
    (pss_one (ps_if (pt_not (pt_val (pe_meth0 (pv 0) T.c_KeyStream T.m_KeyStream_more_may_come G_KeyStream_more_may_come (hr.mono (by decide)) T.b_KeyStream_more_may_come .nil pass0)))
      (pss_one (ps_expr (pe_meth0 (pv 0) T.c_KeyStream T.m_KeyStream_settle G_KeyStream_settle (hr.mono (by decide)) T.b_KeyStream_settle .nil pass0)))
      pss_nil)))))⟩
noncomputable def d_KeyStream_counting (T : Txt K mg a) {sp_counting_maps : Sp} (G_counting_maps : FnOk P w K mg base CX0 2 a.f_counting_maps a.fd_counting_maps ["maps", "in_use"] sp_counting_maps) {cdv : Value} {A : Around} {outer : List Env} {s : Shared} {H : Hp} {E : XK} (hr : Room 2 (A.deeper (envOfC "KeyStream.counting" (defScope s_KeyStream_counting) s.heap.objs.size a.f_KeyStream_counting cdv))) :
    { t : TS // PSs (cxOf CX0 P w K mg base ["self"] "KeyStream.counting" (defScope s_KeyStream_counting) a.f_KeyStream_counting cdv A outer s H E).nox (defBody s_KeyStream_counting) t } :=
  ⟨_, (pss_one (ps_ret (pe_call G_counting_maps (hr.mono (by decide)) (by rfl) T.g_counting_maps T.F_counting_maps.kp T.b_counting_maps .nil pass0 (pa_cons (pe_fld (pv 0) rfl) (pa_cons (pe_fld (pv 0) rfl) pa_nil)))))⟩
noncomputable def d_KeyStream_more_may_come (T : Txt K mg a) {sp_bound_at_once : Sp} (G_bound_at_once : FnOk P w K mg base CX0 3 a.f_bound_at_once a.fd_bound_at_once ["counting", "sequence"] sp_bound_at_once) {sp_goes_on : Sp} (G_goes_on : FnOk P w K mg base CX0 1 a.f_goes_on a.fd_goes_on ["counting", "sequence"] sp_goes_on) {sp_KeyStream_counting : Sp} (G_KeyStream_counting : FnOk P w K mg base CX0 3 a.f_KeyStream_counting a.fd_KeyStream_counting ["self"] sp_KeyStream_counting) {cdv : Value} {A : Around} {outer : List Env} {s : Shared} {H : Hp} {E : XK} (hr : Room 3 (A.deeper (envOfC "KeyStream.more_may_come" (defScope s_KeyStream_more_may_come) s.heap.objs.size a.f_KeyStream_more_may_come cdv))) :
    { t : TS // PSs (cxOf CX0 P w K mg base ["self", "counting", "sequence"] "KeyStream.more_may_come" (defScope s_KeyStream_more_may_come) a.f_KeyStream_more_may_come cdv A outer s H E).nox (defBody s_KeyStream_more_may_come) t } :=
  ⟨_, (pss_cons (ps_set (i := 1) sc_KeyStream_more_may_come.nd rfl (Or.inl rfl) (pe_meth0 (pv 0) T.c_KeyStream T.m_KeyStream_counting G_KeyStream_counting (hr.mono (by decide)) T.b_KeyStream_counting .nil pass0))
    (pss_cons (ps_set (i := 2) sc_KeyStream_more_may_come.nd rfl (Or.inl rfl) (pe_callTy call_tuple_of (by rfl) T.n_tuple (by decide +kernel) (pa_cons (pe_fld (pv 0) rfl) pa_nil)))
    (pss_one (ps_ret (pe_and (pe_call G_goes_on (hr.mono (by decide)) (by rfl) T.g_goes_on T.F_goes_on.kp T.b_goes_on .nil pass0 (pa_cons (pv 1) (pa_cons (pv 2) pa_nil))) (pe_one (pe_not (pe_call G_bound_at_once (hr.mono (by decide)) (by rfl) T.g_bound_at_once T.F_bound_at_once.kp T.b_bound_at_once .nil pass0 (pa_cons (pv 1) (pa_cons (pv 2) pa_nil))))))))))⟩
noncomputable def d_KeyStream_settle (T : Txt K mg a) {sp_KeyStream_take_as_it_is : Sp} (G_KeyStream_take_as_it_is : FnOk P w K mg base CX0 2 a.f_KeyStream_take_as_it_is a.fd_KeyStream_take_as_it_is ["self", "key"] sp_KeyStream_take_as_it_is) {sp_KeyStream_carry_out : Sp} (G_KeyStream_carry_out : FnOk P w K mg base CX0 3 a.f_KeyStream_carry_out a.fd_KeyStream_carry_out ["self", "binding", "used"] sp_KeyStream_carry_out) {sp_longest_bound : Sp} (G_longest_bound : FnOk P w K mg base CX0 3 a.f_longest_bound a.fd_longest_bound ["counting", "keys"] sp_longest_bound) {sp_KeyStream_counting : Sp} (G_KeyStream_counting : FnOk P w K mg base CX0 3 a.f_KeyStream_counting a.fd_KeyStream_counting ["self"] sp_KeyStream_counting) {cdv : Value} {A : Around} {outer : List Env} {s : Shared} {H : Hp} {E : XK} (hr : Room 3 (A.deeper (envOfC "KeyStream.settle" (defScope s_KeyStream_settle) s.heap.objs.size a.f_KeyStream_settle cdv))) :
    { t : TS // PSs (cxOf CX0 P w K mg base ["self", "keys", "binding", "used"] "KeyStream.settle" (defScope s_KeyStream_settle) a.f_KeyStream_settle cdv A outer s H E).nox (defBody s_KeyStream_settle) t } :=
  ⟨_, (pss_cons (ps_set (i := 1) sc_KeyStream_settle.nd rfl (Or.inl rfl) (pe_fld (pv 0) rfl))
    (pss_cons (ps_fld (pv 0) (pe_lst pa_nil) rfl)
    (pss_cons (ps_set (i := 2) sc_KeyStream_settle.nd rfl (Or.inl rfl) (pe_call G_longest_bound (hr.mono (by decide)) (by rfl) T.g_longest_bound T.F_longest_bound.kp T.b_longest_bound .nil pass0 (pa_cons (pe_meth0 (pv 0) T.c_KeyStream T.m_KeyStream_counting G_KeyStream_counting (hr.mono (by decide)) T.b_KeyStream_counting .nil pass0) (pa_cons (pv 1) pa_nil))))
    (pss_cons (ps_set (i := 3) sc_KeyStream_settle.nd rfl (Or.inl rfl) (pe_ifExp (pt_cmpR op_isN (pv 2) pe_non (nomark _)) pe_int (pe_callB call_len_seq (by rfl) T.n_len PySem.boot_len (pa_cons (pe_fld (pv 2) rfl) pa_nil))))
    (pss_cons (ps_fld (pv 0) (pe_op op_cat (pe_slice sl_list (pv 1) (po_some (pv 3)) po_none) (pe_fld (pv 0) rfl)) rfl)
    (pss_one (ps_if (pt_cmpR op_isN (pv 2) pe_non (nomark _))
      (pss_one (ps_expr (pe_meth (pv 0) T.c_KeyStream T.m_KeyStream_take_as_it_is G_KeyStream_take_as_it_is (hr.mono (by decide)) T.b_KeyStream_take_as_it_is .nil pass0 (pa_cons (pe_ix ix_list (pv 1) pe_int (fun _ _ => rfl)) pa_nil))))
      (pss_one (ps_expr (pe_meth (pv 0) T.c_KeyStream T.m_KeyStream_carry_out G_KeyStream_carry_out (hr.mono (by decide)) T.b_KeyStream_carry_out .nil pass0 (pa_cons (pv 2) (pa_cons (pv 3) pa_nil))))))))))))⟩
noncomputable def d_KeyStream_take_as_it_is (T : Txt K mg a) {sp_KeyStream_is_count_digit : Sp} (G_KeyStream_is_count_digit : FnOk P w K mg base CX0 1 a.f_KeyStream_is_count_digit a.fd_KeyStream_is_count_digit ["self", "key"] sp_KeyStream_is_count_digit) {sp_KeyStream_tell : Sp} (G_KeyStream_tell : FnOk P w K mg base CX0 1 a.f_KeyStream_tell a.fd_KeyStream_tell ["self", "kind", "number", "used"] sp_KeyStream_tell) {cdv : Value} {A : Around} {outer : List Env} {s : Shared} {H : Hp} {E : XK} (hr : Room 1 (A.deeper (envOfC "KeyStream.take_as_it_is" (defScope s_KeyStream_take_as_it_is) s.heap.objs.size a.f_KeyStream_take_as_it_is cdv))) :
    { t : TS // PSs (cxOf CX0 P w K mg base ["self", "key"] "KeyStream.take_as_it_is" (defScope s_KeyStream_take_as_it_is) a.f_KeyStream_take_as_it_is cdv A outer s H E).nox (defBody s_KeyStream_take_as_it_is) t } :=
  ⟨_, (pss_one (ps_if (pt_val (pe_meth (pv 0) T.c_KeyStream T.m_KeyStream_is_count_digit G_KeyStream_is_count_digit (hr.mono (by decide)) T.b_KeyStream_is_count_digit .nil pass0 (pa_cons (pv 1) pa_nil)))
      (pss_one (ps_expr (pe_bm PySem.F.plainAttrs_list PySem.F.slot_list_append PySem.F.type_list_append mt_append (pe_fld (pv 0) rfl) (pa_cons (pv 1) pa_nil))))
      (pss_one (ps_expr (pe_meth (pv 0) T.c_KeyStream T.m_KeyStream_tell G_KeyStream_tell (hr.mono (by decide)) T.b_KeyStream_tell .nil pass0 (pa_cons (pe_gI (by rfl) T.k_EVENT_KEY) (pa_cons (pv 1) (pa_cons pe_int pa_nil))))))))⟩
noncomputable def d_KeyStream_is_count_digit (T : Txt K mg a)  {cdv : Value} {A : Around} {outer : List Env} {s : Shared} {H : Hp} {E : XK} (hr : Room 0 (A.deeper (envOfC "KeyStream.is_count_digit" (defScope s_KeyStream_is_count_digit) s.heap.objs.size a.f_KeyStream_is_count_digit cdv))) :
    { t : TS // PSs (cxOf CX0 P w K mg base ["self", "key"] "KeyStream.is_count_digit" (defScope s_KeyStream_is_count_digit) a.f_KeyStream_is_count_digit cdv A outer s H E).nox (defBody s_KeyStream_is_count_digit) t } :=
  ⟨_, (pss_cons (ps_if (pt_cmpR op_ge (pe_callB call_len_seq (by rfl) T.n_len PySem.boot_len (pa_cons (pe_fld (pv 0) rfl) pa_nil)) (pe_gI (by rfl) T.k_MOST_DIGITS) (nomark _))
      (pss_one (ps_ret pe_bl))
      pss_nil)
    (pss_cons (ps_if (pt_cmpR op_eq (pv 1) (pe_gI (by rfl) T.k_FIRST_DIGIT) (nomark _))
      (pss_one (ps_ret (pe_cmpR op_gt (pe_callB call_len_seq (by rfl) T.n_len PySem.boot_len (pa_cons (pe_fld (pv 0) rfl) pa_nil)) pe_int (nomark _))))
      pss_nil)
    (pss_one (ps_ret (pe_chain op_lt op_le (pe_gI (by rfl) T.k_FIRST_DIGIT) (pv 1) (pe_gI (by rfl) T.k_LAST_DIGIT))))))⟩
noncomputable def d_KeyStream_carry_out (T : Txt K mg a) {sp_KeyStream_tell : Sp} (G_KeyStream_tell : FnOk P w K mg base CX0 1 a.f_KeyStream_tell a.fd_KeyStream_tell ["self", "kind", "number", "used"] sp_KeyStream_tell) {sp_KeyStream_put_keys : Sp} (G_KeyStream_put_keys : FnOk P w K mg base CX0 2 a.f_KeyStream_put_keys a.fd_KeyStream_put_keys ["self", "keys", "used"] sp_KeyStream_put_keys) {sp_KeyStream_tell_keys : Sp} (G_KeyStream_tell_keys : FnOk P w K mg base CX0 2 a.f_KeyStream_tell_keys a.fd_KeyStream_tell_keys ["self", "keys", "used"] sp_KeyStream_tell_keys) {sp_KeyStream_change_maps : Sp} (G_KeyStream_change_maps : FnOk P w K mg base CX0 1 a.f_KeyStream_change_maps a.fd_KeyStream_change_maps ["self", "binding"] sp_KeyStream_change_maps) {cdv : Value} {A : Around} {outer : List Env} {s : Shared} {H : Hp} {E : XK} (hr : Room 2 (A.deeper (envOfC "KeyStream.carry_out" (defScope s_KeyStream_carry_out) s.heap.objs.size a.f_KeyStream_carry_out cdv))) :
    { t : TS // PSs (cxOf CX0 P w K mg base ["self", "binding", "used", "purpose"] "KeyStream.carry_out" (defScope s_KeyStream_carry_out) a.f_KeyStream_carry_out cdv A outer s H E).nox (defBody s_KeyStream_carry_out) t } :=
  ⟨_, (pss_cons (ps_set (i := 3) sc_KeyStream_carry_out.nd rfl (Or.inl rfl) (pe_fld (pv 1) rfl))
    (pss_one (ps_if (pt_cmpR op_eq (pv 3) (pe_gI (by rfl) T.k_COMMAND) (nomark _))
      (pss_one (ps_expr (pe_meth (pv 0) T.c_KeyStream T.m_KeyStream_tell G_KeyStream_tell (hr.mono (by decide)) T.b_KeyStream_tell .nil pass0 (pa_cons (pe_gI (by rfl) T.k_EVENT_COMMAND) (pa_cons (pe_ix ix_list (pe_fld (pv 1) rfl) pe_int (fun _ _ => rfl)) (pa_cons (pv 2) pa_nil))))))
      (pss_one (ps_if (pt_cmpR op_eq (pv 3) (pe_gI (by rfl) T.k_KEYS_INSTEAD) (nomark _))
      (pss_one (ps_expr (pe_meth (pv 0) T.c_KeyStream T.m_KeyStream_put_keys G_KeyStream_put_keys (hr.mono (by decide)) T.b_KeyStream_put_keys .nil pass0 (pa_cons (pe_fld (pv 1) rfl) (pa_cons (pv 2) pa_nil)))))
      (pss_one (ps_if (pt_cmpR op_eq (pv 3) (pe_gI (by rfl) T.k_KEYS_AS_THEY_ARE) (nomark _))
      (pss_one (ps_expr (pe_meth (pv 0) T.c_KeyStream T.m_KeyStream_tell_keys G_KeyStream_tell_keys (hr.mono (by decide)) T.b_KeyStream_tell_keys .nil pass0 (pa_cons (pe_fld (pv 1) rfl) (pa_cons (pv 2) pa_nil)))))
      (pss_one (ps_if (pt_cmpR op_eq (pv 3) (pe_gI (by rfl) T.k_NOTHING) (nomark _))
      (pss_one (ps_expr (pe_meth (pv 0) T.c_KeyStream T.m_KeyStream_tell G_KeyStream_tell (hr.mono (by decide)) T.b_KeyStream_tell .nil pass0 (pa_cons (pe_gI (by rfl) T.k_EVENT_NOTHING) (pa_cons pe_int (pa_cons (pv 2) pa_nil))))))
      (pss_cons (ps_expr (pe_meth (pv 0) T.c_KeyStream T.m_KeyStream_change_maps G_KeyStream_change_maps (hr.mono (by decide)) T.b_KeyStream_change_maps .nil pass0 (pa_cons (pv 1) pa_nil)))
    (pss_one (ps_expr (pe_meth (pv 0) T.c_KeyStream T.m_KeyStream_tell G_KeyStream_tell (hr.mono (by decide)) T.b_KeyStream_tell .nil pass0 (pa_cons (pe_gI (by rfl) T.k_EVENT_MAP) (pa_cons (pe_ix ix_list (pe_fld (pv 0) rfl) pe_int (fun _ _ => rfl)) (pa_cons (pv 2) pa_nil))))))))))))))))⟩
noncomputable def d_KeyStream_put_keys (T : Txt K mg a) {sp_KeyStream_tell : Sp} (G_KeyStream_tell : FnOk P w K mg base CX0 1 a.f_KeyStream_tell a.fd_KeyStream_tell ["self", "kind", "number", "used"] sp_KeyStream_tell) {cdv : Value} {A : Around} {outer : List Env} {s : Shared} {H : Hp} {E : XK} (hr : Room 1 (A.deeper (envOfC "KeyStream.put_keys" (defScope s_KeyStream_put_keys) s.heap.objs.size a.f_KeyStream_put_keys cdv))) :
    { t : TS // PSs (cxOf CX0 P w K mg base ["self", "keys", "used"] "KeyStream.put_keys" (defScope s_KeyStream_put_keys) a.f_KeyStream_put_keys cdv A outer s H E).nox (defBody s_KeyStream_put_keys) t } :=
  ⟨_, (pss_one (ps_if (pt_cmpR op_eq (pe_fld (pv 0) rfl) (pe_gI (by rfl) T.k_MOST_TIMES_PUT) (nomark _))
      (pss_cons (ps_fld (pv 0) (pe_lst pa_nil) rfl)
    (pss_one (ps_expr (pe_meth (pv 0) T.c_KeyStream T.m_KeyStream_tell G_KeyStream_tell (hr.mono (by decide)) T.b_KeyStream_tell .nil pass0 (pa_cons (pe_gI (by rfl) T.k_EVENT_RING) (pa_cons pe_int (pa_cons (pv 2) pa_nil)))))))
      (pss_cons (ps_fldaug (pv 0) pe_int in_add)
    (pss_one (ps_fld (pv 0) (pe_op op_cat (pv 1) (pe_fld (pv 0) rfl)) rfl)))))⟩
noncomputable def d_KeyStream_tell_keys (T : Txt K mg a) {sp_KeyStream_tell : Sp} (G_KeyStream_tell : FnOk P w K mg base CX0 1 a.f_KeyStream_tell a.fd_KeyStream_tell ["self", "kind", "number", "used"] sp_KeyStream_tell) {cdv : Value} {A : Around} {outer : List Env} {s : Shared} {H : Hp} {E : XK} (hr : Room 1 (A.deeper (envOfC "KeyStream.tell_keys" (defScope s_KeyStream_tell_keys) s.heap.objs.size a.f_KeyStream_tell_keys cdv))) :
    { t : TS // PSs (cxOf CX0 P w K mg base ["self", "keys", "used", "place", "key"] "KeyStream.tell_keys" (defScope s_KeyStream_tell_keys) a.f_KeyStream_tell_keys cdv A outer s H E).nox (defBody s_KeyStream_tell_keys) t } :=
  ⟨_, (pss_cons (ps_if (pt_not (pt_truth (pv 1) (by intro _; rfl)))
      (pss_one (ps_expr (pe_meth (pv 0) T.c_KeyStream T.m_KeyStream_tell G_KeyStream_tell (hr.mono (by decide)) T.b_KeyStream_tell .nil pass0 (pa_cons (pe_gI (by rfl) T.k_EVENT_NOTHING) (pa_cons pe_int (pa_cons (pv 2) pa_nil))))))
      pss_nil)
    (pss_one (ps_for PassesOwn.never rfl (pi_enum (by rfl) T.n_enumerate (pa_cons (pv 1) pa_nil)) (pg_tup rfl (pgs_cons (pg_name (i := 3) sc_KeyStream_tell_keys.nd rfl (Or.inl rfl)) (pgs_cons (pg_name (i := 4) sc_KeyStream_tell_keys.nd rfl (Or.inl rfl)) pgs_nil)))
      (pss_one (ps_expr (pe_meth (pv 0) T.c_KeyStream T.m_KeyStream_tell G_KeyStream_tell (hr.mono (by decide)) T.b_KeyStream_tell .nil pass0 (pa_cons (pe_gI (by rfl) T.k_EVENT_KEY) (pa_cons (pv 4) (pa_cons (pe_ifExp (pt_cmpR op_eq (pv 3) pe_int (nomark _)) (pv 2) pe_int) pa_nil)))))))))⟩
noncomputable def d_KeyStream_change_maps (T : Txt K mg a)  {cdv : Value} {A : Around} {outer : List Env} {s : Shared} {H : Hp} {E : XK} (hr : Room 0 (A.deeper (envOfC "KeyStream.change_maps" (defScope s_KeyStream_change_maps) s.heap.objs.size a.f_KeyStream_change_maps cdv))) :
    { t : TS // PSs (cxOf CX0 P w K mg base ["self", "binding", "purpose"] "KeyStream.change_maps" (defScope s_KeyStream_change_maps) a.f_KeyStream_change_maps cdv A outer s H E).nox (defBody s_KeyStream_change_maps) t } :=
  ⟨_, (pss_cons (ps_set (i := 2) sc_KeyStream_change_maps.nd rfl (Or.inl rfl) (pe_fld (pv 1) rfl))
    (pss_one (ps_if (PW.pt (pw_and (pt_cmpR op_eq (pv 2) (pe_gI (by rfl) T.k_PUT_MAP) (nomark _)) (pw_and1 (pt_cmpR op_lt (pe_callB call_len_seq (by rfl) T.n_len PySem.boot_len (pa_cons (pe_fld (pv 0) rfl) pa_nil)) (pe_gI (by rfl) T.k_MOST_IN_USE) (nomark _)))))
      (pss_one (ps_expr (pe_bm PySem.F.plainAttrs_list PySem.F.slot_list_insert PySem.F.type_list_insert mt_insert (pe_fld (pv 0) rfl) (pa_cons pe_int (pa_cons (pe_ix ix_list (pe_fld (pv 1) rfl) pe_int (fun _ _ => rfl)) pa_nil)))))
      (pss_one (ps_if (PW.pt (pw_and (pt_cmpR op_eq (pv 2) (pe_gI (by rfl) T.k_TAKE_MAP) (nomark _)) (pw_and1 (pt_cmpR op_gt (pe_callB call_len_seq (by rfl) T.n_len PySem.boot_len (pa_cons (pe_fld (pv 0) rfl) pa_nil)) pe_int (nomark _)))))
      (pss_one (ps_expr (pe_bm PySem.F.plainAttrs_list PySem.F.slot_list_pop PySem.F.type_list_pop mt_popAt (pe_fld (pv 0) rfl) (pa_cons pe_int pa_nil))))
      (pss_one (ps_if (pt_cmpR op_eq (pv 2) (pe_gI (by rfl) T.k_EXCHANGE_MAP) (nomark _))
      (pss_one (ps_asg (pe_ix ix_list (pe_fld (pv 1) rfl) pe_int (fun _ _ => rfl)) (pg_sub (pe_fld (pv 0) rfl) pe_int set_list)))
      pss_nil)))))))⟩
noncomputable def d_KeyStream_tell (T : Txt K mg a)  {cdv : Value} {A : Around} {outer : List Env} {s : Shared} {H : Hp} {E : XK} (hr : Room 0 (A.deeper (envOfC "KeyStream.tell" (defScope s_KeyStream_tell) s.heap.objs.size a.f_KeyStream_tell cdv))) :
    { t : TS // PSs (cxOf CX0 P w K mg base ["self", "kind", "number", "used", "count", "digit"] "KeyStream.tell" (defScope s_KeyStream_tell) a.f_KeyStream_tell cdv A outer s H E).nox (defBody s_KeyStream_tell) t } :=
  ⟨_, (pss_cons (ps_set (i := 4) sc_KeyStream_tell.nd rfl (Or.inl rfl) pe_int)
    (pss_cons (ps_for PassesOwn.never rfl (pi_list (pe_fld (pv 0) rfl)) (pg_name (i := 5) sc_KeyStream_tell.nd rfl (Or.inl rfl))
      (pss_one (ps_set (i := 4) sc_KeyStream_tell.nd rfl (Or.inl rfl) (pe_op op_sub (pe_op op_add (pe_op op_mul (pv 4) pe_int) (pv 5)) (pe_gI (by rfl) T.k_FIRST_DIGIT)))))
    (pss_cons (ps_expr (pe_bm PySem.F.plainAttrs_list PySem.F.slot_list_append PySem.F.type_list_append mt_append (pe_fld (pv 0) rfl) (pa_cons (pe_tup (pa_cons (pv 1) (pa_cons (pv 2) (pa_cons (pv 4) (pa_cons (pe_op op_add (pv 3) (pe_callB call_len_seq (by rfl) T.n_len PySem.boot_len (pa_cons (pe_fld (pv 0) rfl) pa_nil))) pa_nil))))) pa_nil)))
    (pss_one (ps_fld (pv 0) (pe_lst pa_nil) rfl)))))⟩
noncomputable def d_try_out (T : Txt K mg a) {sp_KeyStream_take_events : Sp} (G_KeyStream_take_events : FnOk P w K mg base CX0 1 a.f_KeyStream_take_events a.fd_KeyStream_take_events ["self"] sp_KeyStream_take_events) {sp_KeyStream_wait_long_enough : Sp} (G_KeyStream_wait_long_enough : FnOk P w K mg base CX0 6 a.f_KeyStream_wait_long_enough a.fd_KeyStream_wait_long_enough ["self"] sp_KeyStream_wait_long_enough) {sp_KeyStream_press_key : Sp} (G_KeyStream_press_key : FnOk P w K mg base CX0 6 a.f_KeyStream_press_key a.fd_KeyStream_press_key ["self", "key"] sp_KeyStream_press_key) {cdv : Value} {A : Around} {outer : List Env} {s : Shared} {H : Hp} {E : XK} (hr : Room 6 (A.deeper (envOfC "try_out" (defScope s_try_out) s.heap.objs.size a.f_try_out cdv))) :
    { t : TS // PSs (cxOf CX0 P w K mg base ["stream", "keys", "key"] "try_out" (defScope s_try_out) a.f_try_out cdv A outer s H E).nox (defBody s_try_out) t } :=
  ⟨_, (pss_cons (ps_for PassesOwn.never rfl (pi_list (pv 1)) (pg_name (i := 2) sc_try_out.nd rfl (Or.inl rfl))
      (pss_one (ps_expr (pe_meth (pv 0) T.c_KeyStream T.m_KeyStream_press_key G_KeyStream_press_key (hr.mono (by decide)) T.b_KeyStream_press_key .nil pass0 (pa_cons (pv 2) pa_nil)))))
    (pss_cons (ps_expr (pe_meth0 (pv 0) T.c_KeyStream T.m_KeyStream_wait_long_enough G_KeyStream_wait_long_enough (hr.mono (by decide)) T.b_KeyStream_wait_long_enough .nil pass0))
    (pss_one (ps_ret (pe_meth0 (pv 0) T.c_KeyStream T.m_KeyStream_take_events G_KeyStream_take_events (hr.mono (by decide)) T.b_KeyStream_take_events .nil pass0)))))⟩
noncomputable def d_try_outT (T : Txt K mg a) {sp_KeyStream_take_events : Sp} (G_KeyStream_take_events : FnOk P w K mg base CX0 1 a.f_KeyStream_take_events a.fd_KeyStream_take_events ["self"] sp_KeyStream_take_events) {sp_KeyStream_wait_long_enough : Sp} (G_KeyStream_wait_long_enough : FnOk P w K mg base CX0 6 a.f_KeyStream_wait_long_enough a.fd_KeyStream_wait_long_enough ["self"] sp_KeyStream_wait_long_enough) {sp_KeyStream_press_key : Sp} (G_KeyStream_press_key : FnOk P w K mg base CX0 6 a.f_KeyStream_press_key a.fd_KeyStream_press_key ["self", "key"] sp_KeyStream_press_key) {cdv : Value} {A : Around} {outer : List Env} {s : Shared} {H : Hp} {E : XK} (hr : Room 6 (A.deeper (envOfC "try_out" (defScope s_try_out) s.heap.objs.size a.f_try_out cdv))) :
    { t : TS // PSs (cxOf CX0 P w K mg base ["stream", "keys", "key"] "try_out" (defScope s_try_out) a.f_try_out cdv A outer s H E).nox (defBody s_try_out) t } :=
  ⟨_, (pss_cons (ps_for PassesOwn.never rfl (pi_tup (pv 1)) (pg_name (i := 2) sc_try_out.nd rfl (Or.inl rfl))
      (pss_one (ps_expr (pe_meth (pv 0) T.c_KeyStream T.m_KeyStream_press_key G_KeyStream_press_key (hr.mono (by decide)) T.b_KeyStream_press_key .nil pass0 (pa_cons (pv 2) pa_nil)))))
    (pss_cons (ps_expr (pe_meth0 (pv 0) T.c_KeyStream T.m_KeyStream_wait_long_enough G_KeyStream_wait_long_enough (hr.mono (by decide)) T.b_KeyStream_wait_long_enough .nil pass0))
    (pss_one (ps_ret (pe_meth0 (pv 0) T.c_KeyStream T.m_KeyStream_take_events G_KeyStream_take_events (hr.mono (by decide)) T.b_KeyStream_take_events .nil pass0)))))⟩
noncomputable def d_makes_ring (T : Txt K mg a)  {cdv : Value} {A : Around} {outer : List Env} {s : Shared} {H : Hp} {E : XK} (hr : Room 0 (A.deeper (envOfC "makes_ring" (defScope s_makes_ring) s.heap.objs.size a.f_makes_ring cdv))) :
    { t : TS // PSs (cxOf CX0 P w K mg base ["events", "event"] "makes_ring" (defScope s_makes_ring) a.f_makes_ring cdv A outer s H E).nox (defBody s_makes_ring) t } :=
  ⟨_, (pss_one (ps_ret (pe_cmpR op_in_seq (pe_gI (by rfl) T.k_EVENT_RING) (pe_lc (own := [("event", 1)]) (g := gName 1) (tt := tYes) rfl sc_makes_ring.nd (pi_list (pv 0)) (blkOk_by (own := [("event", 1)]) (N := ["events", "event"]) (sc := defScope s_makes_ring) (by decide +kernel)) (fun _ _ _ _ _ => pg_name (i := 1) sc_makes_ring.nd rfl (Or.inl rfl)) (fun _ _ _ _ _ => pts_nil) (fun _ _ _ _ _ => (pe_ix (show IxR _ (rIxT K) from ix_tup) (pv 1) pe_int (fun _ _ => rfl)))) rfl)))⟩
noncomputable def d_sequence_state (T : Txt K mg a) {sp_goes_on : Sp} (G_goes_on : FnOk P w K mg base CX0 1 a.f_goes_on a.fd_goes_on ["counting", "sequence"] sp_goes_on) {sp_binding_map : Sp} (G_binding_map : FnOk P w K mg base CX0 1 a.f_binding_map a.fd_binding_map ["counting", "sequence"] sp_binding_map) {cdv : Value} {A : Around} {outer : List Env} {s : Shared} {H : Hp} {E : XK} (hr : Room 1 (A.deeper (envOfC "sequence_state" (defScope s_sequence_state) s.heap.objs.size a.f_sequence_state cdv))) :
    { t : TS // PSs (cxOf CX0 P w K mg base ["counting", "sequence", "state"] "sequence_state" (defScope s_sequence_state) a.f_sequence_state cdv A outer s H E).nox (defBody s_sequence_state) t } :=
  ⟨_, (pss_cons (ps_set (i := 2) sc_sequence_state.nd rfl (Or.inl rfl) pe_int)
    (pss_cons (ps_if (pt_cmpR op_notN (pe_call G_binding_map (hr.mono (by decide)) (by rfl) T.g_binding_map T.F_binding_map.kp T.b_binding_map .nil pass0 (pa_cons (pv 0) (pa_cons (pv 1) pa_nil))) pe_non (nomark _))
      (pss_one (ps_aug (i := 2) sc_sequence_state.nd rfl (.inl rfl) (pe_gI (by rfl) T.k_IS_BOUND) ip_add))
      pss_nil)
    (pss_cons (ps_if (pt_val (pe_call G_goes_on (hr.mono (by decide)) (by rfl) T.g_goes_on T.F_goes_on.kp T.b_goes_on .nil pass0 (pa_cons (pv 0) (pa_cons (pv 1) pa_nil))))
      (pss_one (ps_aug (i := 2) sc_sequence_state.nd rfl (.inl rfl) (pe_gI (by rfl) T.k_GOES_ON) ip_add))
      pss_nil)
    (pss_one (ps_ret (pv 2))))))⟩
noncomputable def d_next_keys (T : Txt K mg a)  {cdv : Value} {A : Around} {outer : List Env} {s : Shared} {H : Hp} {E : XK} (hr : Room 0 (A.deeper (envOfC "next_keys" (defScope s_next_keys) s.heap.objs.size a.f_next_keys cdv))) :
    { t : TS // PSs (cxOf CX0 P w K mg base ["counting", "beginning", "length", "found", "key_map", "sequence"] "next_keys" (defScope s_next_keys) a.f_next_keys cdv A outer s H E).nox (defBody s_next_keys) t } :=
  ⟨_, (pss_cons (ps_set (i := 2) sc_next_keys.nd rfl (Or.inl rfl) (pe_callB call_len_seq (by rfl) T.n_len PySem.boot_len (pa_cons (pv 1) pa_nil)))
    (pss_cons (ps_set (i := 3) sc_next_keys.nd rfl (Or.inl rfl) pe_dnewK)
    (pss_cons (ps_for PassesOwn.never rfl (pi_list (pv 0)) (pg_name (i := 4) sc_next_keys.nd rfl (Or.inl rfl))
      (pss_one (ps_lock (ps_for PassesOwn.never rfl (pi_keys (pe_fld (pv 4) rfl)) (pg_name (i := 5) sc_next_keys.nd rfl (Or.inl rfl))
      (pss_one (ps_if (PW.pt (pw_and (pt_cmpR op_gt (pe_callB call_len_seq (by rfl) T.n_len PySem.boot_len (pa_cons (pv 5) pa_nil)) (pv 2) (nomark _)) (pw_and1 (pt_cmpR (op_eqD hr.units) (pe_slice sl_tupA (pv 5) po_none (po_some (pv 2))) (pv 1) (nomark _)))))
      (pss_one (ps_dput (hu_of hr) (pv 3) (pe_ix ix_tup (pv 5) (pv 2) (fun _ _ => rfl)) pe_bl rfl))
      pss_nil))))))
    (pss_one (ps_ret (pe_callB (cr_sortedDA rfl) (by rfl) T.n_sorted (by decide +kernel) (pa_cons (pv 3) pa_nil)))))))⟩
noncomputable def d_cut_short (T : Txt K mg a) {sp_bound_at_once : Sp} (G_bound_at_once : FnOk P w K mg base CX0 3 a.f_bound_at_once a.fd_bound_at_once ["counting", "sequence"] sp_bound_at_once) {cdv : Value} {A : Around} {outer : List Env} {s : Shared} {H : Hp} {E : XK} (hr : Room 3 (A.deeper (envOfC "cut_short" (defScope s_cut_short) s.heap.objs.size a.f_cut_short cdv))) :
    { t : TS // PSs (cxOf CX0 P w K mg base ["counting", "sequence", "length"] "cut_short" (defScope s_cut_short) a.f_cut_short cdv A outer s H E).nox (defBody s_cut_short) t } :=
  ⟨_, (pss_cons (ps_for PassesOwn.never rfl (pi_range2 (by rfl) T.n_range (pa_cons pe_int (pa_cons (pe_callB call_len_seq (by rfl) T.n_len PySem.boot_len (pa_cons (pv 1) pa_nil)) pa_nil))) (pg_name (i := 2) sc_cut_short.nd rfl (Or.inl rfl))
      (pss_one (ps_if (pt_val (pe_call G_bound_at_once (hr.mono (by decide)) (by rfl) T.g_bound_at_once T.F_bound_at_once.kp T.b_bound_at_once .nil pass0 (pa_cons (pv 0) (pa_cons (pe_slice sl_tupA (pv 1) po_none (po_some (pv 2))) pa_nil))))
      (pss_one (ps_ret pe_bl))
      pss_nil)))
    (pss_one (ps_ret pe_bl)))⟩
noncomputable def d_bound_by (T : Txt K mg a) {sp_binding_map : Sp} (G_binding_map : FnOk P w K mg base CX0 1 a.f_binding_map a.fd_binding_map ["counting", "sequence"] sp_binding_map) {cdv : Value} {A : Around} {outer : List Env} {s : Shared} {H : Hp} {E : XK} (hr : Room 1 (A.deeper (envOfC "bound_by" (defScope s_bound_by) s.heap.objs.size a.f_bound_by cdv))) :
    { t : TS // PSs (cxOf CX0 P w K mg base ["counting", "key_map", "sequence", "binder"] "bound_by" (defScope s_bound_by) a.f_bound_by cdv A outer s H E).nox (defBody s_bound_by) t } :=
  ⟨_, (pss_cons (ps_set (i := 3) sc_bound_by.nd rfl (Or.inl rfl) (pe_call G_binding_map (hr.mono (by decide)) (by rfl) T.g_binding_map T.F_binding_map.kp T.b_binding_map .nil pass0 (pa_cons (pv 0) (pa_cons (pv 2) pa_nil))))
    (pss_one (ps_ret (pe_and (pe_cmpR op_notN (pv 3) pe_non (nomark _)) (pe_one (pe_cmpR op_eq (pe_fld (pv 3) rfl) (pe_fld (pv 1) rfl) (nomark _)))))))⟩
noncomputable def d_hidden_sequences (T : Txt K mg a) {sp_maps_in_use : Sp} (G_maps_in_use : FnOk P w K mg base CX0 1 a.f_maps_in_use a.fd_maps_in_use ["maps", "in_use"] sp_maps_in_use) {sp_cut_short : Sp} (G_cut_short : FnOk P w K mg base CX0 4 a.f_cut_short a.fd_cut_short ["counting", "sequence"] sp_cut_short) {sp_bound_by : Sp} (G_bound_by : FnOk P w K mg base CX0 2 a.f_bound_by a.fd_bound_by ["counting", "key_map", "sequence"] sp_bound_by) {sp_counting_maps : Sp} (G_counting_maps : FnOk P w K mg base CX0 2 a.f_counting_maps a.fd_counting_maps ["maps", "in_use"] sp_counting_maps) {cdv : Value} {A : Around} {outer : List Env} {s : Shared} {H : Hp} {E : XK} (hr : Room 4 (A.deeper (envOfC "hidden_sequences" (defScope s_hidden_sequences) s.heap.objs.size a.f_hidden_sequences cdv))) :
    { t : TS // PSs (cxOf CX0 P w K mg base ["maps", "in_use", "counting", "found", "key_map", "sequence"] "hidden_sequences" (defScope s_hidden_sequences) a.f_hidden_sequences cdv A outer s H E).nox (defBody s_hidden_sequences) t } :=
  ⟨_, (pss_cons (ps_set (i := 2) sc_hidden_sequences.nd rfl (Or.inl rfl) (pe_call G_counting_maps (hr.mono (by decide)) (by rfl) T.g_counting_maps T.F_counting_maps.kp T.b_counting_maps .nil pass0 (pa_cons (pv 0) (pa_cons (pv 1) pa_nil))))
    (pss_cons (ps_set (i := 3) sc_hidden_sequences.nd rfl (Or.inl rfl) (pe_lst pa_nil))
    (pss_cons (ps_for PassesOwn.never rfl (pi_list (pe_call G_maps_in_use (hr.mono (by decide)) (by rfl) T.g_maps_in_use T.F_maps_in_use.kp T.b_maps_in_use .nil pass0 (pa_cons (pv 0) (pa_cons (pv 1) pa_nil)))) (pg_name (i := 4) sc_hidden_sequences.nd rfl (Or.inl rfl))
      (pss_one (ps_lock (ps_for PassesOwn.never rfl (pi_keys (pe_fld (pv 4) rfl)) (pg_name (i := 5) sc_hidden_sequences.nd rfl (Or.inl rfl))
      (pss_one (ps_if (PW.pt (pw_or (pt_not (pt_val (pe_call G_bound_by (hr.mono (by decide)) (by rfl) T.g_bound_by T.F_bound_by.kp T.b_bound_by .nil pass0 (pa_cons (pv 2) (pa_cons (pv 4) (pa_cons (pv 5) pa_nil)))))) (pw_or1 (pt_val (pe_call G_cut_short (hr.mono (by decide)) (by rfl) T.g_cut_short T.F_cut_short.kp T.b_cut_short .nil pass0 (pa_cons (pv 2) (pa_cons (pv 5) pa_nil)))))))
      (pss_one (ps_expr (pe_bm PySem.F.plainAttrs_list PySem.F.slot_list_append PySem.F.type_list_append mt_append (pv 3) (pa_cons (pe_tup (pa_cons (pe_fld (pv 4) rfl) (pa_cons (pv 5) pa_nil))) pa_nil))))
      pss_nil))))))
    (pss_one (ps_ret (pv 3))))))⟩
noncomputable def d_bound_sequences (T : Txt K mg a) {sp_bound_by : Sp} (G_bound_by : FnOk P w K mg base CX0 2 a.f_bound_by a.fd_bound_by ["counting", "key_map", "sequence"] sp_bound_by) {cdv : Value} {A : Around} {outer : List Env} {s : Shared} {H : Hp} {E : XK} (hr : Room 2 (A.deeper (envOfC "bound_sequences" (defScope s_bound_sequences) s.heap.objs.size a.f_bound_sequences cdv))) :
    { t : TS // PSs (cxOf CX0 P w K mg base ["counting", "sequences", "key_map", "sequence"] "bound_sequences" (defScope s_bound_sequences) a.f_bound_sequences cdv A outer s H E).nox (defBody s_bound_sequences) t } :=
  ⟨_, (pss_cons (ps_set (i := 1) sc_bound_sequences.nd rfl (Or.inl rfl) (pe_lst pa_nil))
    (pss_cons (ps_for PassesOwn.never rfl (pi_list (pv 0)) (pg_name (i := 2) sc_bound_sequences.nd rfl (Or.inl rfl))
      (pss_one (ps_lock (ps_for PassesOwn.never rfl (pi_keys (pe_fld (pv 2) rfl)) (pg_name (i := 3) sc_bound_sequences.nd rfl (Or.inl rfl))
      (pss_one (ps_if (pt_val (pe_call G_bound_by (hr.mono (by decide)) (by rfl) T.g_bound_by T.F_bound_by.kp T.b_bound_by .nil pass0 (pa_cons (pv 0) (pa_cons (pv 2) (pa_cons (pv 3) pa_nil)))))
      (pss_one (ps_expr (pe_bm PySem.F.plainAttrs_list PySem.F.slot_list_append PySem.F.type_list_append mt_append (pv 1) (pa_cons (pv 3) pa_nil))))
      pss_nil))))))
    (pss_one (ps_ret (pv 1)))))⟩
noncomputable def d_Board_init (T : Txt K mg a) {sp_KeyStream_init : Sp} (G_KeyStream_init : FnOk P w K mg base CX0 1 a.f_KeyStream_init a.fd_KeyStream_init ["self", "maps", "in_use", "open_keys", "digits"] sp_KeyStream_init) {sp_KeyMap_init : Sp} (G_KeyMap_init : FnOk P w K mg base CX0 1 a.f_KeyMap_init a.fd_KeyMap_init ["self", "number", "shut"] sp_KeyMap_init) {cdv : Value} {A : Around} {outer : List Env} {s : Shared} {H : Hp} {E : XK} (hr : Room 2 (A.deeper (envOfC "Board.__init__" (defScope s_Board_init) s.heap.objs.size a.f_Board_init cdv))) :
    { t : TS // PSs (cxOf CX0 P w K mg base ["self", "number"] "Board.__init__" (defScope s_Board_init) a.f_Board_init cdv A outer s H E).nox (defBody s_Board_init) t } :=
  ⟨_, (pss_cons (ps_fld (pv 0) (pe_lc (own := [("number", 1)]) (g := gName 1) (tt := tYes) rfl sc_Board_init.nd (pi_range1 (by rfl) T.n_range (pa_cons (pe_gI (by rfl) T.k_MAP_COUNT) pa_nil)) (blkOk_by (own := [("number", 1)]) (N := ["self", "number"]) (sc := defScope s_Board_init) (by decide +kernel)) (fun _ _ _ _ _ => pg_name (i := 1) sc_Board_init.nd rfl (Or.inl rfl)) (fun _ _ _ _ _ => pts_nil) (fun _ _ _ _ _ => (pe_make T.mk_KeyMap G_KeyMap_init (hr.mono (by decide)) (by rfl) T.g_KeyMap T.b_KeyMap_init .nil pass0 (pa_cons (pv 1) (pa_cons pe_int pa_nil))))) rfl)
    (pss_cons (ps_fld (pv 0) (pe_make T.mk_KeyStream G_KeyStream_init (hr.mono (by decide)) (by rfl) T.g_KeyStream T.b_KeyStream_init .nil pass0 (pa_cons (pe_fld (pv 0) rfl) (pa_cons (pe_lst (pa_cons pe_int pa_nil)) (pa_cons (pe_lst pa_nil) (pa_cons (pe_lst pa_nil) pa_nil))))) rfl)
    (pss_one (ps_fld (pv 0) (pe_gI (by rfl) T.k_TICKS_AT_FIRST) rfl))))⟩
noncomputable def d_Board_renew_map (T : Txt K mg a) {sp_KeyMap_init : Sp} (G_KeyMap_init : FnOk P w K mg base CX0 1 a.f_KeyMap_init a.fd_KeyMap_init ["self", "number", "shut"] sp_KeyMap_init) {cdv : Value} {A : Around} {outer : List Env} {s : Shared} {H : Hp} {E : XK} (hr : Room 2 (A.deeper (envOfC "Board.renew_map" (defScope s_Board_renew_map) s.heap.objs.size a.f_Board_renew_map cdv))) :
    { t : TS // PSs (cxOf CX0 P w K mg base ["self", "number", "shut"] "Board.renew_map" (defScope s_Board_renew_map) a.f_Board_renew_map cdv A outer s H E).nox (defBody s_Board_renew_map) t } :=
  ⟨_, (pss_cons (ps_if (pt_cmpR op_ge (pv 1) (pe_gI (by rfl) T.k_MAP_COUNT) (nomark _))
      (pss_one (ps_ret (pe_lst (pa_cons (pe_gI (by rfl) T.k_NO_SUCH_MAP) pa_nil))))
      pss_nil)
    (pss_cons (ps_asg (pe_make T.mk_KeyMap G_KeyMap_init (hr.mono (by decide)) (by rfl) T.g_KeyMap T.b_KeyMap_init .nil pass0 (pa_cons (pv 1) (pa_cons (pv 2) pa_nil))) (pg_sub (pe_fld (pv 0) rfl) (pv 1) set_list))
    (pss_one (ps_ret (pe_lst (pa_cons (pv 1) pa_nil))))))⟩
noncomputable def d_Board_bind (T : Txt K mg a) {sp_KeyMap_add_binding : Sp} (G_KeyMap_add_binding : FnOk P w K mg base CX0 1 a.f_KeyMap_add_binding a.fd_KeyMap_add_binding ["self", "binding"] sp_KeyMap_add_binding) {sp_binding_fits : Sp} (G_binding_fits : FnOk P w K mg base CX0 3 a.f_binding_fits a.fd_binding_fits ["binding"] sp_binding_fits) {cdv : Value} {A : Around} {outer : List Env} {s : Shared} {H : Hp} {E : XK} (hr : Room 3 (A.deeper (envOfC "Board.bind" (defScope s_Board_bind) s.heap.objs.size a.f_Board_bind cdv))) :
    { t : TS // PSs (cxOf CX0 P w K mg base ["self", "number", "binding", "key_map"] "Board.bind" (defScope s_Board_bind) a.f_Board_bind cdv A outer s H E).nox (defBody s_Board_bind) t } :=
  ⟨_, (pss_cons (ps_if (pt_cmpR op_ge (pv 1) (pe_gI (by rfl) T.k_MAP_COUNT) (nomark _))
      (pss_one (ps_ret (pe_lst (pa_cons (pe_gI (by rfl) T.k_NO_SUCH_MAP) pa_nil))))
      pss_nil)
    (pss_cons (ps_if (pt_not (pt_val (pe_call G_binding_fits (hr.mono (by decide)) (by rfl) T.g_binding_fits T.F_binding_fits.kp T.b_binding_fits .nil pass0 (pa_cons (pv 2) pa_nil))))
      (pss_one (ps_ret (pe_lst (pa_cons (pe_gI (by rfl) T.k_NOT_AS_TOLD) pa_nil))))
      pss_nil)
    (pss_cons (ps_set (i := 3) sc_Board_bind.nd rfl (Or.inl rfl) (pe_ix ix_list (pe_fld (pv 0) rfl) (pv 1) (fun _ _ => rfl)))
    (pss_cons (ps_if (PW.pt (pw_and (pt_cmp (pc_dnotin (hu_of hr) (pe_fld (pv 2) rfl) (pe_fld (pv 3) rfl))) (pw_and1 (pt_cmpR op_ge (pe_callB call_len_dT (by rfl) T.n_len PySem.boot_len (pa_cons (pe_fld (pv 3) rfl) pa_nil)) (pe_gI (by rfl) T.k_MOST_BINDINGS) (nomark _)))))
      (pss_one (ps_ret (pe_lst (pa_cons (pe_gI (by rfl) T.k_MAP_IS_FULL) pa_nil))))
      pss_nil)
    (pss_cons (ps_expr (pe_meth (pv 3) T.c_KeyMap T.m_KeyMap_add_binding G_KeyMap_add_binding (hr.mono (by decide)) T.b_KeyMap_add_binding .nil pass0 (pa_cons (pv 2) pa_nil)))
    (pss_one (ps_ret (pe_lst (pa_cons (pe_callB call_len_dT (by rfl) T.n_len PySem.boot_len (pa_cons (pe_fld (pv 3) rfl) pa_nil)) pa_nil)))))))))⟩
noncomputable def d_Board_unbind (T : Txt K mg a)  {cdv : Value} {A : Around} {outer : List Env} {s : Shared} {H : Hp} {E : XK} (hr : Room 0 (A.deeper (envOfC "Board.unbind" (defScope s_Board_unbind) s.heap.objs.size a.f_Board_unbind cdv))) :
    { t : TS // PSs (cxOf CX0 P w K mg base ["self", "number", "sequence", "bindings"] "Board.unbind" (defScope s_Board_unbind) a.f_Board_unbind cdv A outer s H E).nox (defBody s_Board_unbind) t } :=
  ⟨_, (pss_cons (ps_if (pt_cmpR op_ge (pv 1) (pe_gI (by rfl) T.k_MAP_COUNT) (nomark _))
      (pss_one (ps_ret (pe_lst (pa_cons (pe_gI (by rfl) T.k_NO_SUCH_MAP) pa_nil))))
      pss_nil)
    (pss_cons (ps_set (i := 3) sc_Board_unbind.nd rfl (Or.inl rfl) (pe_fld (pe_ix ix_list (pe_fld (pv 0) rfl) (pv 1) (fun _ _ => rfl)) rfl))
    (pss_cons (ps_if (pt_cmp (pc_dnotin (hu_of hr) (pe_callTy call_tuple_of (by rfl) T.n_tuple (by decide +kernel) (pa_cons (pv 2) pa_nil)) (pv 3)))
      (pss_one (ps_ret (pe_lst (pa_cons (pe_gI (by rfl) T.k_NO_SUCH_SEQUENCE) pa_nil))))
      pss_nil)
    (pss_cons (ps_expr (pe_bm PySem.F.plainAttrs_dict PySem.F.slot_dict_pop PySem.F.type_dict_pop (mt_popT1 (hu_of hr)) (pv 3) (pa_cons (pe_callTy call_tuple_of (by rfl) T.n_tuple (by decide +kernel) (pa_cons (pv 2) pa_nil)) pa_nil)))
    (pss_one (ps_ret (pe_lst (pa_cons (pe_callB call_len_dT (by rfl) T.n_len PySem.boot_len (pa_cons (pv 3) pa_nil)) pa_nil))))))))⟩
noncomputable def d_Board_use (T : Txt K mg a) {sp_KeyStream_put_in_use : Sp} (G_KeyStream_put_in_use : FnOk P w K mg base CX0 1 a.f_KeyStream_put_in_use a.fd_KeyStream_put_in_use ["self", "numbers"] sp_KeyStream_put_in_use) {cdv : Value} {A : Around} {outer : List Env} {s : Shared} {H : Hp} {E : XK} (hr : Room 1 (A.deeper (envOfC "Board.use" (defScope s_Board_use) s.heap.objs.size a.f_Board_use cdv))) :
    { t : TS // PSs (cxOf CX0 P w K mg base ["self", "numbers"] "Board.use" (defScope s_Board_use) a.f_Board_use cdv A outer s H E).nox (defBody s_Board_use) t } :=
  ⟨_, (pss_cons (ps_if (PW.pt (pw_or (pt_not (pt_chain op_le op_le pe_int (pe_callB call_len_seq (by rfl) T.n_len PySem.boot_len (pa_cons (pv 1) pa_nil)) (pe_gI (by rfl) T.k_MOST_IN_USE))) (pw_or1 (pt_cmpR op_ge (pe_callB (cr_max rfl) (by rfl) T.n_max (by decide +kernel) (pa_cons (pv 1) pa_nil)) (pe_gI (by rfl) T.k_MAP_COUNT) (nomark _)))))
      (pss_one (ps_ret (pe_lst (pa_cons (pe_gI (by rfl) T.k_NOT_AS_TOLD) pa_nil))))
      pss_nil)
    (pss_cons (ps_expr (pe_meth (pe_fld (pv 0) rfl) T.c_KeyStream T.m_KeyStream_put_in_use G_KeyStream_put_in_use (hr.mono (by decide)) T.b_KeyStream_put_in_use .nil pass0 (pa_cons (pv 1) pa_nil)))
    (pss_one (ps_ret (pe_lst (pa_cons (pe_callB call_len_seq (by rfl) T.n_len PySem.boot_len (pa_cons (pv 1) pa_nil)) pa_nil))))))⟩
noncomputable def d_Board_wait (T : Txt K mg a)  {cdv : Value} {A : Around} {outer : List Env} {s : Shared} {H : Hp} {E : XK} (hr : Room 0 (A.deeper (envOfC "Board.wait" (defScope s_Board_wait) s.heap.objs.size a.f_Board_wait cdv))) :
    { t : TS // PSs (cxOf CX0 P w K mg base ["self", "ticks"] "Board.wait" (defScope s_Board_wait) a.f_Board_wait cdv A outer s H E).nox (defBody s_Board_wait) t } :=
  ⟨_, (pss_cons (ps_if (pt_not (pt_chain op_le op_le pe_int (pv 1) (pe_gI (by rfl) T.k_MOST_TICKS)))
      (pss_one (ps_ret (pe_lst (pa_cons (pe_gI (by rfl) T.k_NOT_AS_TOLD) pa_nil))))
      pss_nil)
    (pss_cons (ps_fld (pv 0) (pv 1) rfl)
    (pss_one (ps_ret (pe_lst (pa_cons (pv 1) pa_nil))))))⟩
noncomputable def d_Board_press (T : Txt K mg a) {sp_event_answer : Sp} (G_event_answer : FnOk P w K mg base CX0 1 a.f_event_answer a.fd_event_answer ["events"] sp_event_answer) {sp_KeyStream_take_events : Sp} (G_KeyStream_take_events : FnOk P w K mg base CX0 1 a.f_KeyStream_take_events a.fd_KeyStream_take_events ["self"] sp_KeyStream_take_events) {sp_KeyStream_press_key : Sp} (G_KeyStream_press_key : FnOk P w K mg base CX0 6 a.f_KeyStream_press_key a.fd_KeyStream_press_key ["self", "key"] sp_KeyStream_press_key) {sp_KeyStream_wait_long_enough : Sp} (G_KeyStream_wait_long_enough : FnOk P w K mg base CX0 6 a.f_KeyStream_wait_long_enough a.fd_KeyStream_wait_long_enough ["self"] sp_KeyStream_wait_long_enough) {sp_keys_fit : Sp} (G_keys_fit : FnOk P w K mg base CX0 1 a.f_keys_fit a.fd_keys_fit ["keys", "fewest", "most"] sp_keys_fit) {cdv : Value} {A : Around} {outer : List Env} {s : Shared} {H : Hp} {E : XK} (hr : Room 6 (A.deeper (envOfC "Board.press" (defScope s_Board_press) s.heap.objs.size a.f_Board_press cdv))) :
    { t : TS // PSs (cxOf CX0 P w K mg base ["self", "ticks", "keys", "key"] "Board.press" (defScope s_Board_press) a.f_Board_press cdv A outer s H E).nox (defBody s_Board_press) t } :=
  ⟨_, (pss_cons (ps_if (pt_not (pt_val (pe_call G_keys_fit (hr.mono (by decide)) (by rfl) T.g_keys_fit T.F_keys_fit.kp T.b_keys_fit .nil pass0 (pa_cons (pv 2) (pa_cons pe_int (pa_cons (pe_gI (by rfl) T.k_MOST_KEYS_PRESSED) pa_nil))))))
      (pss_one (ps_ret (pe_lst (pa_cons (pe_gI (by rfl) T.k_NOT_AS_TOLD) pa_nil))))
      pss_nil)
    (pss_cons (ps_if (pt_cmpR op_ge (pv 1) (pe_fld (pv 0) rfl) (nomark _))
      (pss_one (ps_expr (pe_meth0 (pe_fld (pv 0) rfl) T.c_KeyStream T.m_KeyStream_wait_long_enough G_KeyStream_wait_long_enough (hr.mono (by decide)) T.b_KeyStream_wait_long_enough .nil pass0)))
      pss_nil)
    (pss_cons (ps_for PassesOwn.never rfl (pi_list (pv 2)) (pg_name (i := 3) sc_Board_press.nd rfl (Or.inl rfl))
      (pss_one (ps_expr (pe_meth (pe_fld (pv 0) rfl) T.c_KeyStream T.m_KeyStream_press_key G_KeyStream_press_key (hr.mono (by decide)) T.b_KeyStream_press_key .nil pass0 (pa_cons (pv 3) pa_nil)))))
    (pss_one (ps_ret (pe_call G_event_answer (hr.mono (by decide)) (by rfl) T.g_event_answer T.F_event_answer.kp T.b_event_answer .nil pass0 (pa_cons (pe_meth0 (pe_fld (pv 0) rfl) T.c_KeyStream T.m_KeyStream_take_events G_KeyStream_take_events (hr.mono (by decide)) T.b_KeyStream_take_events .nil pass0) pa_nil)))))))⟩
noncomputable def d_Board_flush (T : Txt K mg a) {sp_event_answer : Sp} (G_event_answer : FnOk P w K mg base CX0 1 a.f_event_answer a.fd_event_answer ["events"] sp_event_answer) {sp_KeyStream_take_events : Sp} (G_KeyStream_take_events : FnOk P w K mg base CX0 1 a.f_KeyStream_take_events a.fd_KeyStream_take_events ["self"] sp_KeyStream_take_events) {sp_KeyStream_wait_long_enough : Sp} (G_KeyStream_wait_long_enough : FnOk P w K mg base CX0 6 a.f_KeyStream_wait_long_enough a.fd_KeyStream_wait_long_enough ["self"] sp_KeyStream_wait_long_enough) {cdv : Value} {A : Around} {outer : List Env} {s : Shared} {H : Hp} {E : XK} (hr : Room 6 (A.deeper (envOfC "Board.flush" (defScope s_Board_flush) s.heap.objs.size a.f_Board_flush cdv))) :
    { t : TS // PSs (cxOf CX0 P w K mg base ["self"] "Board.flush" (defScope s_Board_flush) a.f_Board_flush cdv A outer s H E).nox (defBody s_Board_flush) t } :=
  ⟨_, (pss_cons (ps_expr (pe_meth0 (pe_fld (pv 0) rfl) T.c_KeyStream T.m_KeyStream_wait_long_enough G_KeyStream_wait_long_enough (hr.mono (by decide)) T.b_KeyStream_wait_long_enough .nil pass0))
    (pss_one (ps_ret (pe_call G_event_answer (hr.mono (by decide)) (by rfl) T.g_event_answer T.F_event_answer.kp T.b_event_answer .nil pass0 (pa_cons (pe_meth0 (pe_fld (pv 0) rfl) T.c_KeyStream T.m_KeyStream_take_events G_KeyStream_take_events (hr.mono (by decide)) T.b_KeyStream_take_events .nil pass0) pa_nil)))))⟩
noncomputable def d_Board_tell_open (T : Txt K mg a) {sp_counted : Sp} (G_counted : FnOk P w K mg base CX0 1 a.f_counted a.fd_counted ["numbers"] sp_counted) {cdv : Value} {A : Around} {outer : List Env} {s : Shared} {H : Hp} {E : XK} (hr : Room 1 (A.deeper (envOfC "Board.tell_open" (defScope s_Board_tell_open) s.heap.objs.size a.f_Board_tell_open cdv))) :
    { t : TS // PSs (cxOf CX0 P w K mg base ["self", "stream"] "Board.tell_open" (defScope s_Board_tell_open) a.f_Board_tell_open cdv A outer s H E).nox (defBody s_Board_tell_open) t } :=
  ⟨_, (pss_cons (ps_set (i := 1) sc_Board_tell_open.nd rfl (Or.inl rfl) (pe_fld (pv 0) rfl))
    (pss_one (ps_ret (pe_op op_cat (pe_op op_cat (pe_call G_counted (hr.mono (by decide)) (by rfl) T.g_counted T.F_counted.kp T.b_counted .nil pass0 (pa_cons (pe_fld (pv 1) rfl) pa_nil)) (pe_call G_counted (hr.mono (by decide)) (by rfl) T.g_counted T.F_counted.kp T.b_counted .nil pass0 (pa_cons (pe_fld (pv 1) rfl) pa_nil))) (pe_call G_counted (hr.mono (by decide)) (by rfl) T.g_counted T.F_counted.kp T.b_counted .nil pass0 (pa_cons (pe_fld (pv 1) rfl) pa_nil))))))⟩
noncomputable def d_Board_lookup (T : Txt K mg a) {sp_sequence_state : Sp} (G_sequence_state : FnOk P w K mg base CX0 2 a.f_sequence_state a.fd_sequence_state ["counting", "sequence"] sp_sequence_state) {sp_binding_map : Sp} (G_binding_map : FnOk P w K mg base CX0 1 a.f_binding_map a.fd_binding_map ["counting", "sequence"] sp_binding_map) {sp_KeyStream_counting : Sp} (G_KeyStream_counting : FnOk P w K mg base CX0 3 a.f_KeyStream_counting a.fd_KeyStream_counting ["self"] sp_KeyStream_counting) {sp_sequence_fits : Sp} (G_sequence_fits : FnOk P w K mg base CX0 2 a.f_sequence_fits a.fd_sequence_fits ["sequence"] sp_sequence_fits) {cdv : Value} {A : Around} {outer : List Env} {s : Shared} {H : Hp} {E : XK} (hr : Room 3 (A.deeper (envOfC "Board.lookup" (defScope s_Board_lookup) s.heap.objs.size a.f_Board_lookup cdv))) :
    { t : TS // PSs (cxOf CX0 P w K mg base ["self", "sequence", "counting", "key_map"] "Board.lookup" (defScope s_Board_lookup) a.f_Board_lookup cdv A outer s H E).nox (defBody s_Board_lookup) t } :=
  ⟨_, (pss_cons (ps_if (pt_not (pt_val (pe_call G_sequence_fits (hr.mono (by decide)) (by rfl) T.g_sequence_fits T.F_sequence_fits.kp T.b_sequence_fits .nil pass0 (pa_cons (pv 1) pa_nil))))
      (pss_one (ps_ret (pe_lst (pa_cons (pe_gI (by rfl) T.k_NOT_AS_TOLD) pa_nil))))
      pss_nil)
    (pss_cons (ps_set (i := 2) sc_Board_lookup.nd rfl (Or.inl rfl) (pe_meth0 (pe_fld (pv 0) rfl) T.c_KeyStream T.m_KeyStream_counting G_KeyStream_counting (hr.mono (by decide)) T.b_KeyStream_counting .nil pass0))
    (pss_cons (ps_set (i := 3) sc_Board_lookup.nd rfl (Or.inl rfl) (pe_call G_binding_map (hr.mono (by decide)) (by rfl) T.g_binding_map T.F_binding_map.kp T.b_binding_map .nil pass0 (pa_cons (pv 2) (pa_cons (pe_callTy call_tuple_of (by rfl) T.n_tuple (by decide +kernel) (pa_cons (pv 1) pa_nil)) pa_nil))))
    (pss_one (ps_ret (pe_lst (pa_cons (pe_call G_sequence_state (hr.mono (by decide)) (by rfl) T.g_sequence_state T.F_sequence_state.kp T.b_sequence_state .nil pass0 (pa_cons (pv 2) (pa_cons (pe_callTy call_tuple_of (by rfl) T.n_tuple (by decide +kernel) (pa_cons (pv 1) pa_nil)) pa_nil))) (pa_cons (pe_ifExp (pt_cmpR op_isN (pv 3) pe_non (nomark _)) pe_int (pe_op op_add (pe_fld (pv 3) rfl) pe_int)) pa_nil))))))))⟩
noncomputable def d_Board_hints (T : Txt K mg a) {sp_sequence_state : Sp} (G_sequence_state : FnOk P w K mg base CX0 2 a.f_sequence_state a.fd_sequence_state ["counting", "sequence"] sp_sequence_state) {sp_next_keys : Sp} (G_next_keys : FnOk P w K mg base CX0 1 a.f_next_keys a.fd_next_keys ["counting", "beginning"] sp_next_keys) {sp_KeyStream_counting : Sp} (G_KeyStream_counting : FnOk P w K mg base CX0 3 a.f_KeyStream_counting a.fd_KeyStream_counting ["self"] sp_KeyStream_counting) {sp_keys_fit : Sp} (G_keys_fit : FnOk P w K mg base CX0 1 a.f_keys_fit a.fd_keys_fit ["keys", "fewest", "most"] sp_keys_fit) {cdv : Value} {A : Around} {outer : List Env} {s : Shared} {H : Hp} {E : XK} (hr : Room 3 (A.deeper (envOfC "Board.hints" (defScope s_Board_hints) s.heap.objs.size a.f_Board_hints cdv))) :
    { t : TS // PSs (cxOf CX0 P w K mg base ["self", "keys", "counting", "found", "answer", "key"] "Board.hints" (defScope s_Board_hints) a.f_Board_hints cdv A outer s H E).nox (defBody s_Board_hints) t } :=
  ⟨_, (pss_cons (ps_if (pt_not (pt_val (pe_call G_keys_fit (hr.mono (by decide)) (by rfl) T.g_keys_fit T.F_keys_fit.kp T.b_keys_fit .nil pass0 (pa_cons (pv 1) (pa_cons pe_int (pa_cons (pe_op op_sub (pe_gI (by rfl) T.k_LONGEST_SEQUENCE) pe_int) pa_nil))))))
      (pss_one (ps_ret (pe_lst (pa_cons (pe_gI (by rfl) T.k_NOT_AS_TOLD) pa_nil))))
      pss_nil)
    (pss_cons (ps_set (i := 2) sc_Board_hints.nd rfl (Or.inl rfl) (pe_meth0 (pe_fld (pv 0) rfl) T.c_KeyStream T.m_KeyStream_counting G_KeyStream_counting (hr.mono (by decide)) T.b_KeyStream_counting .nil pass0))
    (pss_cons (ps_set (i := 3) sc_Board_hints.nd rfl (Or.inl rfl) (pe_call G_next_keys (hr.mono (by decide)) (by rfl) T.g_next_keys T.F_next_keys.kp T.b_next_keys .nil pass0 (pa_cons (pv 2) (pa_cons (pe_callTy call_tuple_of (by rfl) T.n_tuple (by decide +kernel) (pa_cons (pv 1) pa_nil)) pa_nil))))
    (pss_cons (ps_set (i := 4) sc_Board_hints.nd rfl (Or.inl rfl) (pe_lst (pa_cons (pe_callB call_len_seq (by rfl) T.n_len PySem.boot_len (pa_cons (pv 3) pa_nil)) pa_nil)))
    (pss_cons (ps_for PassesOwn.never rfl (pi_list (pv 3)) (pg_name (i := 5) sc_Board_hints.nd rfl (Or.inl rfl))
      (pss_one (ps_expr (pe_bm PySem.F.plainAttrs_list PySem.F.slot_list_extend PySem.F.type_list_extend mt_extend (pv 4) (pa_cons (pe_lst (pa_cons (pv 5) (pa_cons (pe_call G_sequence_state (hr.mono (by decide)) (by rfl) T.g_sequence_state T.F_sequence_state.kp T.b_sequence_state .nil pass0 (pa_cons (pv 2) (pa_cons (pe_callTy call_tuple_of (by rfl) T.n_tuple (by decide +kernel) (pa_cons (pe_op op_cat (pv 1) (pe_lst (pa_cons (pv 5) pa_nil))) pa_nil)) pa_nil))) pa_nil))) pa_nil)))))
    (pss_one (ps_ret (pv 4))))))))⟩
noncomputable def d_Board_hidden (T : Txt K mg a) {sp_counted : Sp} (G_counted : FnOk P w K mg base CX0 1 a.f_counted a.fd_counted ["numbers"] sp_counted) {sp_hidden_sequences : Sp} (G_hidden_sequences : FnOk P w K mg base CX0 5 a.f_hidden_sequences a.fd_hidden_sequences ["maps", "in_use"] sp_hidden_sequences) {cdv : Value} {A : Around} {outer : List Env} {s : Shared} {H : Hp} {E : XK} (hr : Room 5 (A.deeper (envOfC "Board.hidden" (defScope s_Board_hidden) s.heap.objs.size a.f_Board_hidden cdv))) :
    { t : TS // PSs (cxOf CX0 P w K mg base ["self", "found", "answer", "number", "sequence"] "Board.hidden" (defScope s_Board_hidden) a.f_Board_hidden cdv A outer s H E).nox (defBody s_Board_hidden) t } :=
  ⟨_, (pss_cons (ps_set (i := 1) sc_Board_hidden.nd rfl (Or.inl rfl) (pe_call G_hidden_sequences (hr.mono (by decide)) (by rfl) T.g_hidden_sequences T.F_hidden_sequences.kp T.b_hidden_sequences .nil pass0 (pa_cons (pe_fld (pv 0) rfl) (pa_cons (pe_fld (pe_fld (pv 0) rfl) rfl) pa_nil))))
    (pss_cons (ps_set (i := 2) sc_Board_hidden.nd rfl (Or.inl rfl) (pe_lst (pa_cons (pe_callB call_len_seq (by rfl) T.n_len PySem.boot_len (pa_cons (pv 1) pa_nil)) pa_nil)))
    (pss_cons (ps_for PassesOwn.never rfl (pi_list (pv 1)) (pg_tup rfl (pgs_cons (pg_name (i := 3) sc_Board_hidden.nd rfl (Or.inl rfl)) (pgs_cons (pg_name (i := 4) sc_Board_hidden.nd rfl (Or.inl rfl)) pgs_nil)))
      (pss_cons (ps_expr (pe_bm PySem.F.plainAttrs_list PySem.F.slot_list_append PySem.F.type_list_append mt_append (pv 2) (pa_cons (pv 3) pa_nil)))
    (pss_one (ps_expr (pe_bm PySem.F.plainAttrs_list PySem.F.slot_list_extend PySem.F.type_list_extend mt_extend (pv 2) (pa_cons (pe_call G_counted (hr.mono (by decide)) (by rfl) T.g_counted T.F_counted.kp T.b_counted .nil pass0 (pa_cons (pv 4) pa_nil)) pa_nil))))))
    (pss_one (ps_ret (pv 2))))))⟩
noncomputable def d_Board_would (T : Txt K mg a) {sp_event_answer : Sp} (G_event_answer : FnOk P w K mg base CX0 1 a.f_event_answer a.fd_event_answer ["events"] sp_event_answer) {sp_try_out : Sp} (G_try_out : FnOk P w K mg base CX0 7 a.f_try_out a.fd_try_out ["stream", "keys"] sp_try_out) {sp_KeyStream_init : Sp} (G_KeyStream_init : FnOk P w K mg base CX0 1 a.f_KeyStream_init a.fd_KeyStream_init ["self", "maps", "in_use", "open_keys", "digits"] sp_KeyStream_init) {sp_keys_fit : Sp} (G_keys_fit : FnOk P w K mg base CX0 1 a.f_keys_fit a.fd_keys_fit ["keys", "fewest", "most"] sp_keys_fit) {cdv : Value} {A : Around} {outer : List Env} {s : Shared} {H : Hp} {E : XK} (hr : Room 7 (A.deeper (envOfC "Board.would" (defScope s_Board_would) s.heap.objs.size a.f_Board_would cdv))) :
    { t : TS // PSs (cxOf CX0 P w K mg base ["self", "keys", "stream"] "Board.would" (defScope s_Board_would) a.f_Board_would cdv A outer s H E).nox (defBody s_Board_would) t } :=
  ⟨_, (pss_cons (ps_if (pt_not (pt_val (pe_call G_keys_fit (hr.mono (by decide)) (by rfl) T.g_keys_fit T.F_keys_fit.kp T.b_keys_fit .nil pass0 (pa_cons (pv 1) (pa_cons pe_int (pa_cons (pe_gI (by rfl) T.k_MOST_KEYS_PRESSED) pa_nil))))))
      (pss_one (ps_ret (pe_lst (pa_cons (pe_gI (by rfl) T.k_NOT_AS_TOLD) pa_nil))))
      pss_nil)
    (pss_cons (ps_set (i := 2) sc_Board_would.nd rfl (Or.inl rfl) (pe_fld (pv 0) rfl))
    (pss_one (ps_ret (pe_call G_event_answer (hr.mono (by decide)) (by rfl) T.g_event_answer T.F_event_answer.kp T.b_event_answer .nil pass0 (pa_cons (pe_call G_try_out (hr.mono (by decide)) (by rfl) T.g_try_out T.F_try_out.kp T.b_try_out .nil pass0 (pa_cons (pe_make T.mk_KeyStream G_KeyStream_init (hr.mono (by decide)) (by rfl) T.g_KeyStream T.b_KeyStream_init .nil pass0 (pa_cons (pe_fld (pv 0) rfl) (pa_cons (pe_fld (pv 2) rfl) (pa_cons (pe_fld (pv 2) rfl) (pa_cons (pe_fld (pv 2) rfl) pa_nil))))) (pa_cons (pv 1) pa_nil))) pa_nil))))))⟩
noncomputable def d_Board_rings (T : Txt K mg a) {sp_counted : Sp} (G_counted : FnOk P w K mg base CX0 1 a.f_counted a.fd_counted ["numbers"] sp_counted) {sp_bound_sequences : Sp} (G_bound_sequences : FnOk P w K mg base CX0 3 a.f_bound_sequences a.fd_bound_sequences ["counting"] sp_bound_sequences) {sp_KeyStream_counting : Sp} (G_KeyStream_counting : FnOk P w K mg base CX0 3 a.f_KeyStream_counting a.fd_KeyStream_counting ["self"] sp_KeyStream_counting) {sp_makes_ring : Sp} (G_makes_ring : FnOk P w K mg base CX0 1 a.f_makes_ring a.fd_makes_ring ["events"] sp_makes_ring) {sp_try_out : Sp} (G_try_out : FnOk P w K mg base CX0 7 a.f_try_out a.fd_try_out ["stream", "keys"] sp_try_out) {sp_KeyStream_init : Sp} (G_KeyStream_init : FnOk P w K mg base CX0 1 a.f_KeyStream_init a.fd_KeyStream_init ["self", "maps", "in_use", "open_keys", "digits"] sp_KeyStream_init) {cdv : Value} {A : Around} {outer : List Env} {s : Shared} {H : Hp} {E : XK} (hr : Room 7 (A.deeper (envOfC "Board.rings" (defScope s_Board_rings) s.heap.objs.size a.f_Board_rings cdv))) :
    { t : TS // PSs (cxOf CX0 P w K mg base ["self", "found", "sequence", "answer"] "Board.rings" (defScope s_Board_rings) a.f_Board_rings cdv A outer s H E).nox (defBody s_Board_rings) t } :=
  ⟨_, (pss_cons (ps_set (i := 1) sc_Board_rings.nd rfl (Or.inl rfl) (pe_lst pa_nil))
    (pss_cons (ps_for PassesOwn.never rfl (pi_list (pe_call G_bound_sequences (hr.mono (by decide)) (by rfl) T.g_bound_sequences T.F_bound_sequences.kp T.b_bound_sequences .nil pass0 (pa_cons (pe_meth0 (pe_fld (pv 0) rfl) T.c_KeyStream T.m_KeyStream_counting G_KeyStream_counting (hr.mono (by decide)) T.b_KeyStream_counting .nil pass0) pa_nil))) (pg_name (i := 2) sc_Board_rings.nd rfl (Or.inl rfl))
      (pss_one (ps_if (pt_val (pe_call G_makes_ring (hr.mono (by decide)) (by rfl) T.g_makes_ring T.F_makes_ring.kp T.b_makes_ring .nil pass0 (pa_cons (pe_call G_try_out (hr.mono (by decide)) (by rfl) T.g_try_out T.F_try_out.kp T.b_try_out .nil pass0 (pa_cons (pe_make T.mk_KeyStream G_KeyStream_init (hr.mono (by decide)) (by rfl) T.g_KeyStream T.b_KeyStream_init .nil pass0 (pa_cons (pe_fld (pv 0) rfl) (pa_cons (pe_fld (pe_fld (pv 0) rfl) rfl) (pa_cons (pe_lst pa_nil) (pa_cons (pe_lst pa_nil) pa_nil))))) (pa_cons (pv 2) pa_nil))) pa_nil)))
      (pss_one (ps_expr (pe_bm PySem.F.plainAttrs_list PySem.F.slot_list_append PySem.F.type_list_append mt_append (pv 1) (pa_cons (pv 2) pa_nil))))
      pss_nil)))
    (pss_cons (ps_set (i := 3) sc_Board_rings.nd rfl (Or.inl rfl) (pe_lst (pa_cons (pe_callB call_len_seq (by rfl) T.n_len PySem.boot_len (pa_cons (pv 1) pa_nil)) pa_nil)))
    (pss_cons (ps_for PassesOwn.never rfl (pi_list (pv 1)) (pg_name (i := 2) sc_Board_rings.nd rfl (Or.inl rfl))
      (pss_one (ps_expr (pe_bm PySem.F.plainAttrs_list PySem.F.slot_list_extend PySem.F.type_list_extend mt_extend (pv 3) (pa_cons (pe_call G_counted (hr.mono (by decide)) (by rfl) T.g_counted T.F_counted.kp T.b_counted .nil pass0 (pa_cons (pv 2) pa_nil)) pa_nil)))))
    (pss_one (ps_ret (pv 3)))))))⟩
noncomputable def d_counted (T : Txt K mg a)  {cdv : Value} {A : Around} {outer : List Env} {s : Shared} {H : Hp} {E : XK} (hr : Room 0 (A.deeper (envOfC "counted" (defScope s_counted) s.heap.objs.size a.f_counted cdv))) :
    { t : TS // PSs (cxOf CX0 P w K mg base ["numbers"] "counted" (defScope s_counted) a.f_counted cdv A outer s H E).nox (defBody s_counted) t } :=
  ⟨_, (pss_one (ps_ret (pe_op op_cat (pe_lst (pa_cons (pe_callB call_len_seq (by rfl) T.n_len PySem.boot_len (pa_cons (pv 0) pa_nil)) pa_nil)) (pe_callTy call_list_of (by rfl) T.n_list (by decide +kernel) (pa_cons (pv 0) pa_nil)))))⟩
noncomputable def d_event_answer (T : Txt K mg a)  {cdv : Value} {A : Around} {outer : List Env} {s : Shared} {H : Hp} {E : XK} (hr : Room 0 (A.deeper (envOfC "event_answer" (defScope s_event_answer) s.heap.objs.size a.f_event_answer cdv))) :
    { t : TS // PSs (cxOf CX0 P w K mg base ["events", "answer", "event"] "event_answer" (defScope s_event_answer) a.f_event_answer cdv A outer s H E).nox (defBody s_event_answer) t } :=
  ⟨_, (pss_cons (ps_set (i := 1) sc_event_answer.nd rfl (Or.inl rfl) (pe_lst (pa_cons (pe_callB call_len_seq (by rfl) T.n_len PySem.boot_len (pa_cons (pv 0) pa_nil)) pa_nil)))
    (pss_cons (ps_for PassesOwn.never rfl (pi_list (pv 0)) (pg_name (i := 2) sc_event_answer.nd rfl (Or.inl rfl))
      (pss_one (ps_expr (pe_bm PySem.F.plainAttrs_list PySem.F.slot_list_extend PySem.F.type_list_extend mt_extendT (pv 1) (pa_cons (pv 2) pa_nil)))))
    (pss_one (ps_ret (pv 1)))))⟩
noncomputable def d_Reader_init (T : Txt K mg a)  {cdv : Value} {A : Around} {outer : List Env} {s : Shared} {H : Hp} {E : XK} (hr : Room 0 (A.deeper (envOfC "Reader.__init__" (defScope s_Reader_init) s.heap.objs.size a.f_Reader_init cdv))) :
    { t : TS // PSs (cxOf CX0 P w K mg base ["self", "numbers"] "Reader.__init__" (defScope s_Reader_init) a.f_Reader_init cdv A outer s H E).nox (defBody s_Reader_init) t } :=
  ⟨_, (pss_cons (ps_fld (pv 0) (pv 1) rfl)
    (pss_one (ps_fld (pv 0) pe_int rfl)))⟩
noncomputable def d_Reader_has_more (T : Txt K mg a)  {cdv : Value} {A : Around} {outer : List Env} {s : Shared} {H : Hp} {E : XK} (hr : Room 0 (A.deeper (envOfC "Reader.has_more" (defScope s_Reader_has_more) s.heap.objs.size a.f_Reader_has_more cdv))) :
    { t : TS // PSs (cxOf CX0 P w K mg base ["self"] "Reader.has_more" (defScope s_Reader_has_more) a.f_Reader_has_more cdv A outer s H E).nox (defBody s_Reader_has_more) t } :=
  ⟨_, (pss_one (ps_ret (pe_cmpR op_lt (pe_fld (pv 0) rfl) (pe_callB call_len_seq (by rfl) T.n_len PySem.boot_len (pa_cons (pe_fld (pv 0) rfl) pa_nil)) (nomark _))))⟩
noncomputable def d_Reader_take_number (T : Txt K mg a)  {cdv : Value} {A : Around} {outer : List Env} {s : Shared} {H : Hp} {E : XK} (hr : Room 0 (A.deeper (envOfC "Reader.take_number" (defScope s_Reader_take_number) s.heap.objs.size a.f_Reader_take_number cdv))) :
    { t : TS // PSs (cxOf CX0 P w K mg base ["self", "number"] "Reader.take_number" (defScope s_Reader_take_number) a.f_Reader_take_number cdv A outer s H E).nox (defBody s_Reader_take_number) t } :=
  ⟨_, (pss_cons (ps_set (i := 1) sc_Reader_take_number.nd rfl (Or.inl rfl) (pe_ix ix_list (pe_fld (pv 0) rfl) (pe_fld (pv 0) rfl) (fun _ _ => rfl)))
    (pss_cons (ps_fldaug (pv 0) pe_int in_add)
    (pss_one (ps_ret (pv 1)))))⟩
noncomputable def d_Reader_take_row (T : Txt K mg a)  {cdv : Value} {A : Around} {outer : List Env} {s : Shared} {H : Hp} {E : XK} (hr : Room 0 (A.deeper (envOfC "Reader.take_row" (defScope s_Reader_take_row) s.heap.objs.size a.f_Reader_take_row cdv))) :
    { t : TS // PSs (cxOf CX0 P w K mg base ["self", "start"] "Reader.take_row" (defScope s_Reader_take_row) a.f_Reader_take_row cdv A outer s H E).nox (defBody s_Reader_take_row) t } :=
  ⟨_, (pss_cons (ps_set (i := 1) sc_Reader_take_row.nd rfl (Or.inl rfl) (pe_op op_add (pe_fld (pv 0) rfl) pe_int))
    (pss_cons (ps_fld (pv 0) (pe_op op_add (pv 1) (pe_ix ix_list (pe_fld (pv 0) rfl) (pe_fld (pv 0) rfl) (fun _ _ => rfl))) rfl)
    (pss_one (ps_ret (pe_slice sl_list (pe_fld (pv 0) rfl) (po_some (pv 1)) (po_some (pe_fld (pv 0) rfl)))))))⟩
noncomputable def d_call_map (T : Txt K mg a) {sp_Board_renew_map : Sp} (G_Board_renew_map : FnOk P w K mg base CX0 3 a.f_Board_renew_map a.fd_Board_renew_map ["self", "number", "shut"] sp_Board_renew_map) {sp_Reader_take_number : Sp} (G_Reader_take_number : FnOk P w K mg base CX0 1 a.f_Reader_take_number a.fd_Reader_take_number ["self"] sp_Reader_take_number) {cdv : Value} {A : Around} {outer : List Env} {s : Shared} {H : Hp} {E : XK} (hr : Room 3 (A.deeper (envOfC "call_map" (defScope s_call_map) s.heap.objs.size a.f_call_map cdv))) :
    { t : TS // PSs (cxOf CX0 P w K mg base ["board", "reader", "number", "shut"] "call_map" (defScope s_call_map) a.f_call_map cdv A outer s H E).nox (defBody s_call_map) t } :=
  ⟨_, (pss_cons (ps_set (i := 2) sc_call_map.nd rfl (Or.inl rfl) (pe_meth0 (pv 1) T.c_Reader T.m_Reader_take_number G_Reader_take_number (hr.mono (by decide)) T.b_Reader_take_number .nil pass0))
    (pss_cons (ps_set (i := 3) sc_call_map.nd rfl (Or.inl rfl) (pe_meth0 (pv 1) T.c_Reader T.m_Reader_take_number G_Reader_take_number (hr.mono (by decide)) T.b_Reader_take_number .nil pass0))
    (pss_one (ps_ret (pe_meth (pv 0) T.c_Board T.m_Board_renew_map G_Board_renew_map (hr.mono (by decide)) T.b_Board_renew_map .nil pass0 (pa_cons (pv 2) (pa_cons (pv 3) pa_nil)))))))⟩
noncomputable def d_call_bind (T : Txt K mg a) {sp_Board_bind : Sp} (G_Board_bind : FnOk P w K mg base CX0 4 a.f_Board_bind a.fd_Board_bind ["self", "number", "binding"] sp_Board_bind) {sp_read_binding : Sp} (G_read_binding : FnOk P w K mg base CX0 3 a.f_read_binding a.fd_read_binding ["at_once", "row"] sp_read_binding) {sp_Reader_take_row : Sp} (G_Reader_take_row : FnOk P w K mg base CX0 1 a.f_Reader_take_row a.fd_Reader_take_row ["self"] sp_Reader_take_row) {sp_Reader_take_number : Sp} (G_Reader_take_number : FnOk P w K mg base CX0 1 a.f_Reader_take_number a.fd_Reader_take_number ["self"] sp_Reader_take_number) {cdv : Value} {A : Around} {outer : List Env} {s : Shared} {H : Hp} {E : XK} (hr : Room 4 (A.deeper (envOfC "call_bind" (defScope s_call_bind) s.heap.objs.size a.f_call_bind cdv))) :
    { t : TS // PSs (cxOf CX0 P w K mg base ["board", "reader", "number", "at_once"] "call_bind" (defScope s_call_bind) a.f_call_bind cdv A outer s H E).nox (defBody s_call_bind) t } :=
  ⟨_, (pss_cons (ps_set (i := 2) sc_call_bind.nd rfl (Or.inl rfl) (pe_meth0 (pv 1) T.c_Reader T.m_Reader_take_number G_Reader_take_number (hr.mono (by decide)) T.b_Reader_take_number .nil pass0))
    (pss_cons (ps_set (i := 3) sc_call_bind.nd rfl (Or.inl rfl) (pe_meth0 (pv 1) T.c_Reader T.m_Reader_take_number G_Reader_take_number (hr.mono (by decide)) T.b_Reader_take_number .nil pass0))
    (pss_one (ps_ret (pe_meth (pv 0) T.c_Board T.m_Board_bind G_Board_bind (hr.mono (by decide)) T.b_Board_bind .nil pass0 (pa_cons (pv 2) (pa_cons (pe_call G_read_binding (hr.mono (by decide)) (by rfl) T.g_read_binding T.F_read_binding.kp T.b_read_binding .nil pass0 (pa_cons (pv 3) (pa_cons (pe_meth0 (pv 1) T.c_Reader T.m_Reader_take_row G_Reader_take_row (hr.mono (by decide)) T.b_Reader_take_row .nil pass0) pa_nil))) pa_nil)))))))⟩
noncomputable def d_call_unbind (T : Txt K mg a) {sp_Board_unbind : Sp} (G_Board_unbind : FnOk P w K mg base CX0 1 a.f_Board_unbind a.fd_Board_unbind ["self", "number", "sequence"] sp_Board_unbind) {sp_Reader_take_row : Sp} (G_Reader_take_row : FnOk P w K mg base CX0 1 a.f_Reader_take_row a.fd_Reader_take_row ["self"] sp_Reader_take_row) {sp_Reader_take_number : Sp} (G_Reader_take_number : FnOk P w K mg base CX0 1 a.f_Reader_take_number a.fd_Reader_take_number ["self"] sp_Reader_take_number) {cdv : Value} {A : Around} {outer : List Env} {s : Shared} {H : Hp} {E : XK} (hr : Room 1 (A.deeper (envOfC "call_unbind" (defScope s_call_unbind) s.heap.objs.size a.f_call_unbind cdv))) :
    { t : TS // PSs (cxOf CX0 P w K mg base ["board", "reader", "number"] "call_unbind" (defScope s_call_unbind) a.f_call_unbind cdv A outer s H E).nox (defBody s_call_unbind) t } :=
  ⟨_, (pss_cons (ps_set (i := 2) sc_call_unbind.nd rfl (Or.inl rfl) (pe_meth0 (pv 1) T.c_Reader T.m_Reader_take_number G_Reader_take_number (hr.mono (by decide)) T.b_Reader_take_number .nil pass0))
    (pss_one (ps_ret (pe_meth (pv 0) T.c_Board T.m_Board_unbind G_Board_unbind (hr.mono (by decide)) T.b_Board_unbind .nil pass0 (pa_cons (pv 2) (pa_cons (pe_meth0 (pv 1) T.c_Reader T.m_Reader_take_row G_Reader_take_row (hr.mono (by decide)) T.b_Reader_take_row .nil pass0) pa_nil))))))⟩
noncomputable def d_call_use (T : Txt K mg a) {sp_Board_use : Sp} (G_Board_use : FnOk P w K mg base CX0 2 a.f_Board_use a.fd_Board_use ["self", "numbers"] sp_Board_use) {sp_Reader_take_row : Sp} (G_Reader_take_row : FnOk P w K mg base CX0 1 a.f_Reader_take_row a.fd_Reader_take_row ["self"] sp_Reader_take_row) {cdv : Value} {A : Around} {outer : List Env} {s : Shared} {H : Hp} {E : XK} (hr : Room 2 (A.deeper (envOfC "call_use" (defScope s_call_use) s.heap.objs.size a.f_call_use cdv))) :
    { t : TS // PSs (cxOf CX0 P w K mg base ["board", "reader"] "call_use" (defScope s_call_use) a.f_call_use cdv A outer s H E).nox (defBody s_call_use) t } :=
  ⟨_, (pss_one (ps_ret (pe_meth (pv 0) T.c_Board T.m_Board_use G_Board_use (hr.mono (by decide)) T.b_Board_use .nil pass0 (pa_cons (pe_meth0 (pv 1) T.c_Reader T.m_Reader_take_row G_Reader_take_row (hr.mono (by decide)) T.b_Reader_take_row .nil pass0) pa_nil))))⟩
noncomputable def d_call_wait (T : Txt K mg a) {sp_Board_wait : Sp} (G_Board_wait : FnOk P w K mg base CX0 1 a.f_Board_wait a.fd_Board_wait ["self", "ticks"] sp_Board_wait) {sp_Reader_take_number : Sp} (G_Reader_take_number : FnOk P w K mg base CX0 1 a.f_Reader_take_number a.fd_Reader_take_number ["self"] sp_Reader_take_number) {cdv : Value} {A : Around} {outer : List Env} {s : Shared} {H : Hp} {E : XK} (hr : Room 1 (A.deeper (envOfC "call_wait" (defScope s_call_wait) s.heap.objs.size a.f_call_wait cdv))) :
    { t : TS // PSs (cxOf CX0 P w K mg base ["board", "reader"] "call_wait" (defScope s_call_wait) a.f_call_wait cdv A outer s H E).nox (defBody s_call_wait) t } :=
  ⟨_, (pss_one (ps_ret (pe_meth (pv 0) T.c_Board T.m_Board_wait G_Board_wait (hr.mono (by decide)) T.b_Board_wait .nil pass0 (pa_cons (pe_meth0 (pv 1) T.c_Reader T.m_Reader_take_number G_Reader_take_number (hr.mono (by decide)) T.b_Reader_take_number .nil pass0) pa_nil))))⟩
noncomputable def d_call_press (T : Txt K mg a) {sp_Board_press : Sp} (G_Board_press : FnOk P w K mg base CX0 7 a.f_Board_press a.fd_Board_press ["self", "ticks", "keys"] sp_Board_press) {sp_Reader_take_row : Sp} (G_Reader_take_row : FnOk P w K mg base CX0 1 a.f_Reader_take_row a.fd_Reader_take_row ["self"] sp_Reader_take_row) {sp_Reader_take_number : Sp} (G_Reader_take_number : FnOk P w K mg base CX0 1 a.f_Reader_take_number a.fd_Reader_take_number ["self"] sp_Reader_take_number) {cdv : Value} {A : Around} {outer : List Env} {s : Shared} {H : Hp} {E : XK} (hr : Room 7 (A.deeper (envOfC "call_press" (defScope s_call_press) s.heap.objs.size a.f_call_press cdv))) :
    { t : TS // PSs (cxOf CX0 P w K mg base ["board", "reader", "ticks"] "call_press" (defScope s_call_press) a.f_call_press cdv A outer s H E).nox (defBody s_call_press) t } :=
  ⟨_, (pss_cons (ps_set (i := 2) sc_call_press.nd rfl (Or.inl rfl) (pe_meth0 (pv 1) T.c_Reader T.m_Reader_take_number G_Reader_take_number (hr.mono (by decide)) T.b_Reader_take_number .nil pass0))
    (pss_one (ps_ret (pe_meth (pv 0) T.c_Board T.m_Board_press G_Board_press (hr.mono (by decide)) T.b_Board_press .nil pass0 (pa_cons (pv 2) (pa_cons (pe_meth0 (pv 1) T.c_Reader T.m_Reader_take_row G_Reader_take_row (hr.mono (by decide)) T.b_Reader_take_row .nil pass0) pa_nil))))))⟩
noncomputable def d_call_flush (T : Txt K mg a) {sp_Board_flush : Sp} (G_Board_flush : FnOk P w K mg base CX0 7 a.f_Board_flush a.fd_Board_flush ["self"] sp_Board_flush) {cdv : Value} {A : Around} {outer : List Env} {s : Shared} {H : Hp} {E : XK} (hr : Room 7 (A.deeper (envOfC "call_flush" (defScope s_call_flush) s.heap.objs.size a.f_call_flush cdv))) :
    { t : TS // PSs (cxOf CX0 P w K mg base ["board", "reader"] "call_flush" (defScope s_call_flush) a.f_call_flush cdv A outer s H E).nox (defBody s_call_flush) t } :=
  ⟨_, (pss_one (ps_ret (pe_meth0 (pv 0) T.c_Board T.m_Board_flush G_Board_flush (hr.mono (by decide)) T.b_Board_flush .nil pass0)))⟩
noncomputable def d_call_open (T : Txt K mg a) {sp_Board_tell_open : Sp} (G_Board_tell_open : FnOk P w K mg base CX0 2 a.f_Board_tell_open a.fd_Board_tell_open ["self"] sp_Board_tell_open) {cdv : Value} {A : Around} {outer : List Env} {s : Shared} {H : Hp} {E : XK} (hr : Room 2 (A.deeper (envOfC "call_open" (defScope s_call_open) s.heap.objs.size a.f_call_open cdv))) :
    { t : TS // PSs (cxOf CX0 P w K mg base ["board", "reader"] "call_open" (defScope s_call_open) a.f_call_open cdv A outer s H E).nox (defBody s_call_open) t } :=
  ⟨_, (pss_one (ps_ret (pe_meth0 (pv 0) T.c_Board T.m_Board_tell_open G_Board_tell_open (hr.mono (by decide)) T.b_Board_tell_open .nil pass0)))⟩
noncomputable def d_call_lookup (T : Txt K mg a) {sp_Board_lookup : Sp} (G_Board_lookup : FnOk P w K mg base CX0 4 a.f_Board_lookup a.fd_Board_lookup ["self", "sequence"] sp_Board_lookup) {sp_Reader_take_row : Sp} (G_Reader_take_row : FnOk P w K mg base CX0 1 a.f_Reader_take_row a.fd_Reader_take_row ["self"] sp_Reader_take_row) {cdv : Value} {A : Around} {outer : List Env} {s : Shared} {H : Hp} {E : XK} (hr : Room 4 (A.deeper (envOfC "call_lookup" (defScope s_call_lookup) s.heap.objs.size a.f_call_lookup cdv))) :
    { t : TS // PSs (cxOf CX0 P w K mg base ["board", "reader"] "call_lookup" (defScope s_call_lookup) a.f_call_lookup cdv A outer s H E).nox (defBody s_call_lookup) t } :=
  ⟨_, (pss_one (ps_ret (pe_meth (pv 0) T.c_Board T.m_Board_lookup G_Board_lookup (hr.mono (by decide)) T.b_Board_lookup .nil pass0 (pa_cons (pe_meth0 (pv 1) T.c_Reader T.m_Reader_take_row G_Reader_take_row (hr.mono (by decide)) T.b_Reader_take_row .nil pass0) pa_nil))))⟩
noncomputable def d_call_hints (T : Txt K mg a) {sp_Board_hints : Sp} (G_Board_hints : FnOk P w K mg base CX0 4 a.f_Board_hints a.fd_Board_hints ["self", "keys"] sp_Board_hints) {sp_Reader_take_row : Sp} (G_Reader_take_row : FnOk P w K mg base CX0 1 a.f_Reader_take_row a.fd_Reader_take_row ["self"] sp_Reader_take_row) {cdv : Value} {A : Around} {outer : List Env} {s : Shared} {H : Hp} {E : XK} (hr : Room 4 (A.deeper (envOfC "call_hints" (defScope s_call_hints) s.heap.objs.size a.f_call_hints cdv))) :
    { t : TS // PSs (cxOf CX0 P w K mg base ["board", "reader"] "call_hints" (defScope s_call_hints) a.f_call_hints cdv A outer s H E).nox (defBody s_call_hints) t } :=
  ⟨_, (pss_one (ps_ret (pe_meth (pv 0) T.c_Board T.m_Board_hints G_Board_hints (hr.mono (by decide)) T.b_Board_hints .nil pass0 (pa_cons (pe_meth0 (pv 1) T.c_Reader T.m_Reader_take_row G_Reader_take_row (hr.mono (by decide)) T.b_Reader_take_row .nil pass0) pa_nil))))⟩
noncomputable def d_call_hidden (T : Txt K mg a) {sp_Board_hidden : Sp} (G_Board_hidden : FnOk P w K mg base CX0 6 a.f_Board_hidden a.fd_Board_hidden ["self"] sp_Board_hidden) {cdv : Value} {A : Around} {outer : List Env} {s : Shared} {H : Hp} {E : XK} (hr : Room 6 (A.deeper (envOfC "call_hidden" (defScope s_call_hidden) s.heap.objs.size a.f_call_hidden cdv))) :
    { t : TS // PSs (cxOf CX0 P w K mg base ["board", "reader"] "call_hidden" (defScope s_call_hidden) a.f_call_hidden cdv A outer s H E).nox (defBody s_call_hidden) t } :=
  ⟨_, (pss_one (ps_ret (pe_meth0 (pv 0) T.c_Board T.m_Board_hidden G_Board_hidden (hr.mono (by decide)) T.b_Board_hidden .nil pass0)))⟩
noncomputable def d_call_would (T : Txt K mg a) {sp_Board_would : Sp} (G_Board_would : FnOk P w K mg base CX0 8 a.f_Board_would a.fd_Board_would ["self", "keys"] sp_Board_would) {sp_Reader_take_row : Sp} (G_Reader_take_row : FnOk P w K mg base CX0 1 a.f_Reader_take_row a.fd_Reader_take_row ["self"] sp_Reader_take_row) {cdv : Value} {A : Around} {outer : List Env} {s : Shared} {H : Hp} {E : XK} (hr : Room 8 (A.deeper (envOfC "call_would" (defScope s_call_would) s.heap.objs.size a.f_call_would cdv))) :
    { t : TS // PSs (cxOf CX0 P w K mg base ["board", "reader"] "call_would" (defScope s_call_would) a.f_call_would cdv A outer s H E).nox (defBody s_call_would) t } :=
  ⟨_, (pss_one (ps_ret (pe_meth (pv 0) T.c_Board T.m_Board_would G_Board_would (hr.mono (by decide)) T.b_Board_would .nil pass0 (pa_cons (pe_meth0 (pv 1) T.c_Reader T.m_Reader_take_row G_Reader_take_row (hr.mono (by decide)) T.b_Reader_take_row .nil pass0) pa_nil))))⟩
noncomputable def d_call_rings (T : Txt K mg a) {sp_Board_rings : Sp} (G_Board_rings : FnOk P w K mg base CX0 8 a.f_Board_rings a.fd_Board_rings ["self"] sp_Board_rings) {cdv : Value} {A : Around} {outer : List Env} {s : Shared} {H : Hp} {E : XK} (hr : Room 8 (A.deeper (envOfC "call_rings" (defScope s_call_rings) s.heap.objs.size a.f_call_rings cdv))) :
    { t : TS // PSs (cxOf CX0 P w K mg base ["board", "reader"] "call_rings" (defScope s_call_rings) a.f_call_rings cdv A outer s H E).nox (defBody s_call_rings) t } :=
  ⟨_, (pss_one (ps_ret (pe_meth0 (pv 0) T.c_Board T.m_Board_rings G_Board_rings (hr.mono (by decide)) T.b_Board_rings .nil pass0)))⟩
noncomputable def d_answers (T : Txt K mg a) {sp_Reader_has_more : Sp} (G_Reader_has_more : FnOk P w K mg base CX0 1 a.f_Reader_has_more a.fd_Reader_has_more ["self"] sp_Reader_has_more) {sp_Reader_take_number : Sp} (G_Reader_take_number : FnOk P w K mg base CX0 1 a.f_Reader_take_number a.fd_Reader_take_number ["self"] sp_Reader_take_number) {sp_Board_init : Sp} (G_Board_init : FnOk P w K mg base CX0 3 a.f_Board_init a.fd_Board_init ["self"] sp_Board_init) {sp_Reader_init : Sp} (G_Reader_init : FnOk P w K mg base CX0 1 a.f_Reader_init a.fd_Reader_init ["self", "numbers"] sp_Reader_init) {S_calls : Addr → Option Sp} (A_calls : ∀ f sp, S_calls f = some sp → Held P w K mg base 9 f sp) {cdv : Value} {A : Around} {outer : List Env} {s : Shared} {H : Hp} {E : XK} (hr : Room 9 (A.deeper (envOfC "answers" (defScope s_answers) s.heap.objs.size a.f_answers cdv))) :
    { t : TS // PSs (cxOf CX0 P w K mg base ["calls", "reader", "board", "told", "call", "answer"] "answers" (defScope s_answers) a.f_answers cdv A outer s H E).nox (defBody s_answers) t } :=
  ⟨_, (pss_cons (ps_set (i := 1) sc_answers.nd rfl (Or.inl rfl) (pe_make T.mk_Reader G_Reader_init (hr.mono (by decide)) (by rfl) T.g_Reader T.b_Reader_init .nil pass0 (pa_cons (pv 0) pa_nil)))
    (pss_cons (ps_set (i := 2) sc_answers.nd rfl (Or.inl rfl) (pe_make0 T.mk_Board G_Board_init (hr.mono (by decide)) (by rfl) T.g_Board T.b_Board_init .nil pass0))
    (pss_cons (ps_set (i := 3) sc_answers.nd rfl (Or.inl rfl) (pe_lst pa_nil))
    (pss_cons (ps_while PassesOwn.never (pt_val (pe_meth0 (pv 1) T.c_Reader T.m_Reader_has_more G_Reader_has_more (hr.mono (by decide)) T.b_Reader_has_more .nil pass0))
      (pss_cons (ps_set (i := 4) sc_answers.nd rfl (Or.inl rfl) (pe_ix ix_tup (pe_glob (v := .ref a.A_CALLS) (by rfl) T.g_CALLS rfl) (pe_meth0 (pv 1) T.c_Reader T.m_Reader_take_number G_Reader_take_number (hr.mono (by decide)) T.b_Reader_take_number .nil pass0) (fun _ _ => rfl)))
    (pss_cons (ps_set (i := 5) sc_answers.nd rfl (Or.inl rfl) (pe_callA A_calls (hr.mono (by decide)) (i := 4) rfl (Or.inl rfl) (pa_cons (pv 2) (pa_cons (pv 1) pa_nil))))
    (pss_cons (ps_expr (pe_bm PySem.F.plainAttrs_list PySem.F.slot_list_append PySem.F.type_list_append mt_append (pv 3) (pa_cons (pe_callB call_len_seq (by rfl) T.n_len PySem.boot_len (pa_cons (pv 5) pa_nil)) pa_nil)))
    (pss_one (ps_expr (pe_bm PySem.F.plainAttrs_list PySem.F.slot_list_extend PySem.F.type_list_extend mt_extend (pv 3) (pa_cons (pv 5) pa_nil))))))))
    (pss_one (ps_ret (pv 3)))))))⟩
end
end Km

namespace Km
open PySem PySem.Spec PyProof.Rows L2

/-! ### how the data lies in the heap -/
/-- keys as values; as a dict's key -/
def iv (l : List Nat) : List V := l.map fun (n : Nat) => V.int (n : Int)
def kOf (s : List Nat) : List L2.Key := s.map fun (n : Nat) => Sum.inl (n : Int)
theorem iv_len (l : List Nat) : (iv l).length = l.length := List.length_map ..
theorem iv_app (l m : List Nat) : iv (l ++ m) = iv l ++ iv m := List.map_append ..
theorem iv_get (l : List Nat) (i : Nat) : (iv l)[i]? = l[i]?.map fun (n : Nat) => V.int (n : Int) := List.getElem?_map ..
theorem kOf_kV (s : List Nat) : (kOf s).map kV = iv s := by
  simp only [kOf, iv, List.map_map]; rfl
theorem kOf_inj : ∀ {s t : List Nat}, kOf s = kOf t → s = t
  | [], [], _ => rfl
  | [], _ :: _, h => by simp [kOf] at h
  | _ :: _, [], h => by simp [kOf] at h
  | x :: s, y :: t, h => by
    simp only [kOf, List.map_cons, List.cons.injEq, Sum.inl.injEq] at h
    have e : x = y := by omega
    rw [e, kOf_inj (s := s) (t := t) h.2]
theorem iv_inj {s t : List Nat} (h : iv s = iv t) : s = t := by
  have : ∀ {s t : List Nat}, iv s = iv t → s = t := by
    intro s
    induction s with
    | nil => intro t h; cases t with
      | nil => rfl
      | cons _ _ => simp [iv] at h
    | cons x s ih => intro t h; cases t with
      | nil => simp [iv] at h
      | cons y t =>
        simp only [iv, List.map_cons, List.cons.injEq, V.int.injEq] at h
        rw [show x = y by omega, ih h.2]
  exact this h
def b2 (b : Bool) : V := .int (if b = true then 1 else 0)
def code : Ue09.Target → Int
  | .command _ => 0
  | .keys _ => 1
  | .plain _ => 2
  | .push _ => 3
  | .pop => 4
  | .turn _ => 5
  | .nothing => 6
def dets : Ue09.Target → List Nat
  | .command n => [n]
  | .keys l => l
  | .plain l => l
  | .push m => [m]
  | .pop => []
  | .turn m => [m]
  | .nothing => []
def BindAt (a : Ad) (H : Hp) (p : Addr) (b : Ue09.Binding) : Prop := ∃ dx dp sq, H p = some (.ins a.C_Binding dx (fl_Binding (b2 b.now) (.int (code b.target)) (.ref dp) (.ref sq))) ∧
  H dp = some (.lst (iv (dets b.target))) ∧ H sq = some (.tup (iv b.seq))
theorem BindAt.same {a : Ad} {H H' : Hp} {p : Addr} {b : Ue09.Binding} (h : BindAt a H p b) (s : Same H H') : BindAt a H' p b := by
  obtain ⟨dx, dp, sq, h1, h2, h3⟩ := h
  exact ⟨dx, dp, sq, s _ _ h1, s _ _ h2, s _ _ h3⟩
def KvAt (a : Ad) (H : Hp) : (List L2.Key × V) → Ue09.Binding → Prop := fun kv b => kv.1 = kOf b.seq ∧ ∃ q, kv.2 = .ref q ∧ BindAt a H q b
theorem Paired.imp {α β : Type} {R S : α → β → Prop} (h : ∀ x y, R x y → S x y) : ∀ {l : List α} {m : List β}, Paired R l m → Paired S l m
  | _, _, .nil => .nil
  | _, _, .cons r t => .cons (h _ _ r) (Paired.imp h t)
theorem Paired.getl {α β : Type} {R : α → β → Prop} : ∀ {l : List α} {m : List β} {i : Nat} {x : α}, Paired R l m → l[i]? = some x → ∃ y, m[i]? = some y ∧ R x y
  | _, _, _, _, .nil, e => by simp at e
  | _, _, 0, _, .cons r _, e => by simp at e; subst e; exact ⟨_, rfl, r⟩
  | _, _, i + 1, x, .cons _ t, e => by
    obtain ⟨y, h1, h2⟩ := Paired.getl (i := i) (x := x) t (by simpa using e)
    exact ⟨y, by simpa using h1, h2⟩
theorem Paired.getr {α β : Type} {R : α → β → Prop} : ∀ {l : List α} {m : List β} {i : Nat} {y : β}, Paired R l m → m[i]? = some y → ∃ x, l[i]? = some x ∧ R x y
  | _, _, _, _, .nil, e => by simp at e
  | _, _, 0, _, .cons r _, e => by simp at e; subst e; exact ⟨_, rfl, r⟩
  | _, _, i + 1, x, .cons _ t, e => by
    obtain ⟨y, h1, h2⟩ := Paired.getr (i := i) (y := x) t (by simpa using e)
    exact ⟨y, by simpa using h1, h2⟩
theorem Paired.snoc {α β : Type} {R : α → β → Prop} {x : α} {y : β} : ∀ {l : List α} {m : List β}, Paired R l m → R x y → Paired R (l ++ [x]) (m ++ [y])
  | _, _, .nil, r => .cons r .nil
  | _, _, .cons q t, r => .cons q (Paired.snoc t r)
theorem Paired.setAt {α β : Type} {R : α → β → Prop} {x : α} {y : β} (r : R x y) : ∀ {l : List α} {m : List β} (i : Nat), Paired R l m → Paired R (l.set i x) (m.set i y)
  | _, _, _, .nil => .nil
  | _, _, 0, .cons _ t => .cons r t
  | _, _, i + 1, .cons q t => .cons q (Paired.setAt r i t)
/-- a map's object at p, its dict at d; its number -/
def MapAt (a : Ad) (H : Hp) (p d : Addr) (n : Nat) (m : Ue09.Map_) : Prop := ∃ dx kvs, H p = some (.ins a.C_KeyMap dx (fl_KeyMap (.int (n : Int)) (b2 m.shut) (.ref d))) ∧ H d = some (.dT kvs) ∧ Paired (KvAt a H) kvs m.bindings
theorem KvAt.same {a : Ad} {H H' : Hp} {kv : List L2.Key × V} {b : Ue09.Binding} (h : KvAt a H kv b) (s : Same H H') : KvAt a H' kv b := by
  obtain ⟨h1, q, h2, h3⟩ := h
  exact ⟨h1, q, h2, h3.same s⟩
theorem MapAt.same {a : Ad} {H H' : Hp} {p d : Addr} {n : Nat} {m : Ue09.Map_} (h : MapAt a H p d n m) (s : Same H H') : MapAt a H' p d n m := by
  obtain ⟨dx, kvs, h1, h2, h3⟩ := h
  exact ⟨dx, kvs, s _ _ h1, s _ _ h2, Paired.imp (fun _ _ x => x.same s) h3⟩
/-- what the dict holds at a sequence is what the map has for it -/
theorem val_of {a : Ad} {H : Hp} {s : Ue09.Keys} : ∀ {kvs : List (List L2.Key × V)} {bs : List Ue09.Binding}, Paired (KvAt a H) kvs bs →
    (∀ b, bs.find? (fun b => b.seq == s) = some b → ∃ q, valV kvs (kOf s) = some (.ref q) ∧ BindAt a H q b) ∧ (bs.find? (fun b => b.seq == s) = none → valV kvs (kOf s) = none)
  | _, _, .nil => ⟨fun _ h => by simp at h, fun _ => rfl⟩
  | _, _, .cons (a := kv) (b := b) (l₁ := kvs) (l₂ := bs) h t => by
    obtain ⟨i1, i2⟩ := val_of (s := s) t
    obtain ⟨e, q, e2, hb⟩ := h
    by_cases c : b.seq = s
    · have c' : (b.seq == s) = true := by simp [c]
      refine ⟨fun b' hb' => ?_, fun hn => ?_⟩
      · rw [List.find?_cons_of_pos (by exact c')] at hb'
        cases hb'
        exact ⟨q, by rw [valV_pos (by rw [e, c])]; rw [e2], hb⟩
      · rw [List.find?_cons_of_pos (by exact c')] at hn
        cases hn
    · have c' : ¬ (b.seq == s) = true := by simp [c]
      have k : ¬ kv.1 = kOf s := fun z => c (kOf_inj (e.symm.trans z))
      rw [List.find?_cons_of_neg (by exact c'), valV_neg k]
      exact ⟨i1, i2⟩
/-- the maps: the list at L, their objects, their dicts -/
structure MapsAt (a : Ad) (H : Hp) (L : Addr) (ps ds : List Addr) (ms : List Ue09.Map_) : Prop where
  l : H L = some (.lst (ps.map V.ref))
  lp : ps.length = ms.length
  ld : ds.length = ms.length
  m : ∀ (i : Nat) (p d : Addr) (x : Ue09.Map_), ps[i]? = some p → ds[i]? = some d → ms[i]? = some x → MapAt a H p d i x
theorem MapsAt.same {a : Ad} {H H' : Hp} {L : Addr} {ps ds : List Addr} {ms : List Ue09.Map_} (h : MapsAt a H L ps ds ms) (s : Same H H') : MapsAt a H' L ps ds ms :=
  ⟨s _ _ h.l, h.lp, h.ld, fun i p d x h1 h2 h3 => (h.m i p d x h1 h2 h3).same s⟩
/-- the map of a number -/
theorem MapsAt.at_ {a : Ad} {H : Hp} {L : Addr} {ps ds : List Addr} {m : Ue09.Maps} {n : Nat} (h : MapsAt a H L ps ds m.all) (hn : n < m.all.length) : ∃ p d, ps[n]? = some p ∧ ds[n]? = some d ∧ MapAt a H p d n (Ue09.mapAt m n) := by
  have h1 : n < ps.length := by rw [h.lp]; exact hn
  have h2 : n < ds.length := by rw [h.ld]; exact hn
  refine ⟨ps[n], ds[n], List.getElem?_eq_getElem h1, List.getElem?_eq_getElem h2, ?_⟩
  have e3 : Ue09.mapAt m n = m.all[n] := by simp [Ue09.mapAt, List.getElem?_eq_getElem hn]
  rw [e3]
  exact h.m n _ _ _ (List.getElem?_eq_getElem h1) (List.getElem?_eq_getElem h2) (List.getElem?_eq_getElem hn)

/-! ### frames -/
/-- the heap without some addresses -/
def without (H : Hp) (l : List Addr) : Hp := fun b => if b ∈ l then none else H b
theorem without_in {H : Hp} {l : List Addr} {b : Addr} (h : b ∈ l) : without H l b = none := if_pos h
theorem without_out {H : Hp} {l : List Addr} {b : Addr} (h : b ∉ l) : without H l b = H b := if_neg h
theorem without_same {H : Hp} {l : List Addr} : Same (without H l) H := fun b o e => by
  by_cases h : b ∈ l
  · rw [without_in h] at e; cases e
  · rw [without_out h] at e; exact e
theorem same_new {H : Hp} {p : Addr} {o : HO} (h : H p = none) : Same H (upd H p o) := fun b u e => by
  rw [upd_ne (ne_of_none e h)]; exact e
/-- a frame stays under a change outside of it -/
theorem same_out {G H : Hp} {p : Addr} {o : HO} (s : Same G H) (h : G p = none) : Same G (upd H p o) := fun b u e => by
  rw [upd_ne (ne_of_none e h)]; exact s b u e
theorem same_none {G H : Hp} {p : Addr} (s : Same G H) (h : H p = none) : G p = none := by
  cases e : G p with
  | none => rfl
  | some o => rw [s p o e] at h; cases h

/-- the heap but what a frame holds -/
def minus (H F : Hp) : Hp := fun b => if (F b).isSome = true then none else H b
theorem minus_get {H F : Hp} {b : Addr} (h : F b = none) : minus H F b = H b := by
  unfold minus; rw [h]; exact if_neg (by simp)
theorem minus_some {H F : Hp} {b : Addr} {o : HO} (h : minus H F b = some o) : F b = none ∧ H b = some o := by
  cases e : F b with
  | none => rw [minus_get e] at h; exact ⟨rfl, h⟩
  | some u => unfold minus at h; rw [e] at h; simp at h
theorem minus_same {H F : Hp} : Same (minus H F) H := fun b o e => (minus_some e).2

/-! ### the stream -/
structure SR where
  dx : Addr
  U : Addr
  O : Addr
  D : Addr
  T : Addr
  E : Addr
  ts : List Addr
def EvAt (H : Hp) (t : Addr) (e : Ue09.Event) : Prop := H t = some (.tup [.int (e.kind : Int), .int (e.value : Int), .int (e.count : Int), .int (e.used : Int)])
def sFl (L : Addr) (x : SR) (left : Nat) : List (Str × V) := fl_KeyStream (.ref L) (.ref x.U) (.ref x.O) (.ref x.D) (.ref x.T) (.int (50 - (left : Int))) (.ref x.E)
/-- a stream at S over the maps at L; what is not its own is the frame G's -/
structure SAt (a : Ad) (G H : Hp) (S L : Addr) (x : SR) (r : Ue09.Run) : Prop where
  ob : H S = some (.ins a.C_KeyStream x.dx (sFl L x r.left))
  u : H x.U = some (.lst (iv r.maps.use))
  o : H x.O = some (.lst (iv r.open_))
  d : H x.D = some (.lst (iv r.digits))
  t : H x.T = some (.lst (iv r.queue))
  e : H x.E = some (.lst (x.ts.map V.ref))
  ev : Paired (EvAt H) x.ts r.events
  nd : [x.U, x.O, x.D, x.T, x.E].Nodup
  fr : ∀ y ∈ [S, x.U, x.O, x.D, x.T, x.E], G y = none
  sub : Same G H
def EvKeep (H H' : Hp) : Prop := ∀ b xs, H b = some (.tup xs) → H' b = some (.tup xs)
theorem ev_keep {H H' : Hp} (k : EvKeep H H') {ts : List Addr} {es : List Ue09.Event} (h : Paired (EvAt H) ts es) : Paired (EvAt H') ts es := Paired.imp (fun t e x => k t _ x) h
theorem evk_upd {H : Hp} {p : Addr} {o u : HO} (h : H p = some u) (hu : ∀ xs, u ≠ .tup xs) : EvKeep H (upd H p o) := fun b xs e => by
  rw [upd_ne (ne_of e h fun z => hu xs z.symm)]; exact e
theorem evk_new {H : Hp} {p : Addr} {o : HO} (h : H p = none) : EvKeep H (upd H p o) := fun b xs e => by
  rw [upd_ne (ne_of_none e h)]; exact e

section
variable {a : Ad} {G H : Hp} {S L : Addr} {x : SR} {r : Ue09.Run}
/-- something new beside it -/
theorem SAt.new (h : SAt a G H S L x r) {p : Addr} {o : HO} (np : H p = none) : SAt a G (upd H p o) S L x r := by
  have s : Same H (upd H p o) := same_new np
  exact ⟨s _ _ h.ob, s _ _ h.u, s _ _ h.o, s _ _ h.d, s _ _ h.t, s _ _ h.e, ev_keep (evk_new np) h.ev, h.nd, h.fr, fun b u e => s b u (h.sub b u e)⟩
theorem SAt.grow (h : SAt a G H S L x r) {H' : Hp} (s : Same H H') : SAt a G H' S L x r :=
  ⟨s _ _ h.ob, s _ _ h.u, s _ _ h.o, s _ _ h.d, s _ _ h.t, s _ _ h.e, Paired.imp (fun t e q => s _ _ q) h.ev, h.nd, h.fr, h.sub.trans s⟩
theorem SAt.neS (h : SAt a G H S L x r) : S ≠ x.U ∧ S ≠ x.O ∧ S ≠ x.D ∧ S ≠ x.T ∧ S ≠ x.E :=
  ⟨ne_of h.ob h.u (fun z => nomatch z), ne_of h.ob h.o (fun z => nomatch z), ne_of h.ob h.d (fun z => nomatch z), ne_of h.ob h.t (fun z => nomatch z), ne_of h.ob h.e (fun z => nomatch z)⟩
theorem SAt.nds (h : SAt a G H S L x r) : (x.U ≠ x.O ∧ x.U ≠ x.D ∧ x.U ≠ x.T ∧ x.U ≠ x.E) ∧ (x.O ≠ x.D ∧ x.O ≠ x.T ∧ x.O ≠ x.E) ∧ (x.D ≠ x.T ∧ x.D ≠ x.E) ∧ x.T ≠ x.E := by
  have n := h.nd
  simp only [List.nodup_cons, List.mem_cons, List.not_mem_nil, or_false, not_or, not_false_eq_true, List.nodup_nil, and_true] at n
  exact n
/-- in place: the maps in use -/
theorem SAt.putU (h : SAt a G H S L x r) (l : List Nat) : SAt a G (upd H x.U (.lst (iv l))) S L x { r with maps := { r.maps with use := l } } := by
  obtain ⟨⟨n1, n2, n3, n4⟩, ⟨n5, n6, n7⟩, ⟨n8, n9⟩, n10⟩ := h.nds
  obtain ⟨s1, s2, s3, s4, s5⟩ := h.neS
  refine ⟨by rw [upd_ne s1]; exact h.ob, upd_same, by rw [upd_ne n1.symm]; exact h.o, by rw [upd_ne n2.symm]; exact h.d, by rw [upd_ne n3.symm]; exact h.t, by rw [upd_ne n4.symm]; exact h.e, ev_keep (evk_upd h.u (fun _ z => nomatch z)) h.ev, h.nd, h.fr, same_out h.sub (h.fr _ (by simp))⟩
theorem SAt.putO (h : SAt a G H S L x r) (l : List Nat) : SAt a G (upd H x.O (.lst (iv l))) S L x { r with open_ := l } := by
  obtain ⟨⟨n1, n2, n3, n4⟩, ⟨n5, n6, n7⟩, ⟨n8, n9⟩, n10⟩ := h.nds
  obtain ⟨s1, s2, s3, s4, s5⟩ := h.neS
  refine ⟨by rw [upd_ne s2]; exact h.ob, by rw [upd_ne n1]; exact h.u, upd_same, by rw [upd_ne n5.symm]; exact h.d, by rw [upd_ne n6.symm]; exact h.t, by rw [upd_ne n7.symm]; exact h.e, ev_keep (evk_upd h.o (fun _ z => nomatch z)) h.ev, h.nd, h.fr, same_out h.sub (h.fr _ (by simp))⟩
theorem SAt.putD (h : SAt a G H S L x r) (l : List Nat) : SAt a G (upd H x.D (.lst (iv l))) S L x { r with digits := l } := by
  obtain ⟨⟨n1, n2, n3, n4⟩, ⟨n5, n6, n7⟩, ⟨n8, n9⟩, n10⟩ := h.nds
  obtain ⟨s1, s2, s3, s4, s5⟩ := h.neS
  refine ⟨by rw [upd_ne s3]; exact h.ob, by rw [upd_ne n2]; exact h.u, by rw [upd_ne n5]; exact h.o, upd_same, by rw [upd_ne n8.symm]; exact h.t, by rw [upd_ne n9.symm]; exact h.e, ev_keep (evk_upd h.d (fun _ z => nomatch z)) h.ev, h.nd, h.fr, same_out h.sub (h.fr _ (by simp))⟩
theorem SAt.putT (h : SAt a G H S L x r) (l : List Nat) : SAt a G (upd H x.T (.lst (iv l))) S L x { r with queue := l } := by
  obtain ⟨⟨n1, n2, n3, n4⟩, ⟨n5, n6, n7⟩, ⟨n8, n9⟩, n10⟩ := h.nds
  obtain ⟨s1, s2, s3, s4, s5⟩ := h.neS
  refine ⟨by rw [upd_ne s4]; exact h.ob, by rw [upd_ne n3]; exact h.u, by rw [upd_ne n6]; exact h.o, by rw [upd_ne n8]; exact h.d, upd_same, by rw [upd_ne n10.symm]; exact h.e, ev_keep (evk_upd h.t (fun _ z => nomatch z)) h.ev, h.nd, h.fr, same_out h.sub (h.fr _ (by simp))⟩
/-- one event more, its tuple at t -/
theorem SAt.addE (h : SAt a G H S L x r) {t : Addr} {e : Ue09.Event} (ht : EvAt H t e) : SAt a G (upd H x.E (.lst ((x.ts ++ [t]).map V.ref))) S L { x with ts := x.ts ++ [t] } { r with events := r.events ++ [e] } := by
  obtain ⟨⟨n1, n2, n3, n4⟩, ⟨n5, n6, n7⟩, ⟨n8, n9⟩, n10⟩ := h.nds
  obtain ⟨s1, s2, s3, s4, s5⟩ := h.neS
  have k : EvKeep H (upd H x.E (.lst ((x.ts ++ [t]).map V.ref))) := evk_upd h.e (fun _ z => nomatch z)
  exact ⟨by rw [upd_ne s5]; exact h.ob, by rw [upd_ne n4]; exact h.u, by rw [upd_ne n7]; exact h.o, by rw [upd_ne n9]; exact h.d, by rw [upd_ne n10]; exact h.t, upd_same, Paired.snoc (ev_keep k h.ev) (k _ _ ht), h.nd, h.fr, same_out h.sub (h.fr _ (by simp))⟩
/-- the number of times -/
theorem SAt.putL (h : SAt a G H S L x r) (n : Nat) {z : Int} (hz : z = 50 - (n : Int)) : SAt a G (upd H S (.ins a.C_KeyStream x.dx (putF "times_put" (.int z) (sFl L x r.left)))) S L x { r with left := n } := by
  obtain ⟨s1, s2, s3, s4, s5⟩ := h.neS
  subst hz
  refine ⟨?_, by rw [upd_ne s1.symm]; exact h.u, by rw [upd_ne s2.symm]; exact h.o, by rw [upd_ne s3.symm]; exact h.d, by rw [upd_ne s4.symm]; exact h.t, by rw [upd_ne s5.symm]; exact h.e, ev_keep (evk_upd h.ob (fun _ z => nomatch z)) h.ev, h.nd, h.fr, same_out h.sub (h.fr _ (by simp))⟩
  rw [upd_same]
  exact congrArg (fun q => some (HO.ins a.C_KeyStream x.dx q)) pt_KeyStream_times_put
/-- another list in a field -/
theorem SAt.newO (h : SAt a G H S L x r) {p : Addr} {l : List Nat} (hp : H p = some (.lst (iv l))) (n : p ≠ x.U ∧ p ≠ x.D ∧ p ≠ x.T ∧ p ≠ x.E) (g : G p = none) :
    SAt a G (upd H S (.ins a.C_KeyStream x.dx (putF "open_keys" (.ref p) (sFl L x r.left)))) S L { x with O := p } { r with open_ := l } := by
  obtain ⟨s1, s2, s3, s4, s5⟩ := h.neS
  obtain ⟨⟨n1, n2, n3, n4⟩, ⟨n5, n6, n7⟩, ⟨n8, n9⟩, n10⟩ := h.nds
  have sp : S ≠ p := ne_of h.ob hp (fun z => nomatch z)
  refine ⟨?_, by rw [upd_ne s1.symm]; exact h.u, by rw [upd_ne sp.symm]; exact hp, by rw [upd_ne s3.symm]; exact h.d, by rw [upd_ne s4.symm]; exact h.t, by rw [upd_ne s5.symm]; exact h.e, ev_keep (evk_upd h.ob (fun _ z => nomatch z)) h.ev, ?_, fun y hy => ?_, same_out h.sub (h.fr _ (by simp))⟩
  · rw [upd_same]
    exact congrArg (fun q => some (HO.ins a.C_KeyStream x.dx q)) pt_KeyStream_open_keys
  · simp only [List.nodup_cons, List.mem_cons, List.not_mem_nil, or_false, not_or, not_false_eq_true, List.nodup_nil, and_true]
    exact ⟨⟨n.1.symm, n2, n3, n4⟩, ⟨n.2.1, n.2.2.1, n.2.2.2⟩, ⟨n8, n9⟩, n10⟩
  · have f := h.fr
    simp only [List.mem_cons, List.not_mem_nil, or_false] at hy f
    rcases hy with e | e | e | e | e | e <;> subst e
    all_goals first | exact g | exact f _ (by simp)
theorem SAt.newD (h : SAt a G H S L x r) {p : Addr} {l : List Nat} (hp : H p = some (.lst (iv l))) (n : p ≠ x.U ∧ p ≠ x.O ∧ p ≠ x.T ∧ p ≠ x.E) (g : G p = none) :
    SAt a G (upd H S (.ins a.C_KeyStream x.dx (putF "digits" (.ref p) (sFl L x r.left)))) S L { x with D := p } { r with digits := l } := by
  obtain ⟨s1, s2, s3, s4, s5⟩ := h.neS
  obtain ⟨⟨n1, n2, n3, n4⟩, ⟨n5, n6, n7⟩, ⟨n8, n9⟩, n10⟩ := h.nds
  have sp : S ≠ p := ne_of h.ob hp (fun z => nomatch z)
  refine ⟨?_, by rw [upd_ne s1.symm]; exact h.u, by rw [upd_ne s2.symm]; exact h.o, by rw [upd_ne sp.symm]; exact hp, by rw [upd_ne s4.symm]; exact h.t, by rw [upd_ne s5.symm]; exact h.e, ev_keep (evk_upd h.ob (fun _ z => nomatch z)) h.ev, ?_, fun y hy => ?_, same_out h.sub (h.fr _ (by simp))⟩
  · rw [upd_same]
    exact congrArg (fun q => some (HO.ins a.C_KeyStream x.dx q)) pt_KeyStream_digits
  · simp only [List.nodup_cons, List.mem_cons, List.not_mem_nil, or_false, not_or, not_false_eq_true, List.nodup_nil, and_true]
    exact ⟨⟨n1, n.1.symm, n3, n4⟩, ⟨n.2.1.symm, n6, n7⟩, ⟨n.2.2.1, n.2.2.2⟩, n10⟩
  · have f := h.fr
    simp only [List.mem_cons, List.not_mem_nil, or_false] at hy f
    rcases hy with e | e | e | e | e | e <;> subst e
    all_goals first | exact g | exact f _ (by simp)
theorem SAt.newT (h : SAt a G H S L x r) {p : Addr} {l : List Nat} (hp : H p = some (.lst (iv l))) (n : p ≠ x.U ∧ p ≠ x.O ∧ p ≠ x.D ∧ p ≠ x.E) (g : G p = none) :
    SAt a G (upd H S (.ins a.C_KeyStream x.dx (putF "to_come" (.ref p) (sFl L x r.left)))) S L { x with T := p } { r with queue := l } := by
  obtain ⟨s1, s2, s3, s4, s5⟩ := h.neS
  obtain ⟨⟨n1, n2, n3, n4⟩, ⟨n5, n6, n7⟩, ⟨n8, n9⟩, n10⟩ := h.nds
  have sp : S ≠ p := ne_of h.ob hp (fun z => nomatch z)
  refine ⟨?_, by rw [upd_ne s1.symm]; exact h.u, by rw [upd_ne s2.symm]; exact h.o, by rw [upd_ne s3.symm]; exact h.d, by rw [upd_ne sp.symm]; exact hp, by rw [upd_ne s5.symm]; exact h.e, ev_keep (evk_upd h.ob (fun _ z => nomatch z)) h.ev, ?_, fun y hy => ?_, same_out h.sub (h.fr _ (by simp))⟩
  · rw [upd_same]
    exact congrArg (fun q => some (HO.ins a.C_KeyStream x.dx q)) pt_KeyStream_to_come
  · simp only [List.nodup_cons, List.mem_cons, List.not_mem_nil, or_false, not_or, not_false_eq_true, List.nodup_nil, and_true]
    exact ⟨⟨n1, n2, n.1.symm, n4⟩, ⟨n5, n.2.1.symm, n7⟩, ⟨n.2.2.1.symm, n9⟩, n.2.2.2⟩
  · have f := h.fr
    simp only [List.mem_cons, List.not_mem_nil, or_false] at hy f
    rcases hy with e | e | e | e | e | e <;> subst e
    all_goals first | exact g | exact f _ (by simp)
theorem SAt.newU (h : SAt a G H S L x r) {p : Addr} {l : List Nat} (hp : H p = some (.lst (iv l))) (n : p ≠ x.O ∧ p ≠ x.D ∧ p ≠ x.T ∧ p ≠ x.E) (g : G p = none) :
    SAt a G (upd H S (.ins a.C_KeyStream x.dx (putF "in_use" (.ref p) (sFl L x r.left)))) S L { x with U := p } { r with maps := { r.maps with use := l } } := by
  obtain ⟨s1, s2, s3, s4, s5⟩ := h.neS
  obtain ⟨⟨n1, n2, n3, n4⟩, ⟨n5, n6, n7⟩, ⟨n8, n9⟩, n10⟩ := h.nds
  have sp : S ≠ p := ne_of h.ob hp (fun z => nomatch z)
  refine ⟨?_, by rw [upd_ne sp.symm]; exact hp, by rw [upd_ne s2.symm]; exact h.o, by rw [upd_ne s3.symm]; exact h.d, by rw [upd_ne s4.symm]; exact h.t, by rw [upd_ne s5.symm]; exact h.e, ev_keep (evk_upd h.ob (fun _ z => nomatch z)) h.ev, ?_, fun y hy => ?_, same_out h.sub (h.fr _ (by simp))⟩
  · rw [upd_same]
    exact congrArg (fun q => some (HO.ins a.C_KeyStream x.dx q)) pt_KeyStream_in_use
  · simp only [List.nodup_cons, List.mem_cons, List.not_mem_nil, or_false, not_or, not_false_eq_true, List.nodup_nil, and_true]
    exact ⟨⟨n.1, n.2.1, n.2.2.1, n.2.2.2⟩, ⟨n5, n6, n7⟩, ⟨n8, n9⟩, n10⟩
  · have f := h.fr
    simp only [List.mem_cons, List.not_mem_nil, or_false] at hy f
    rcases hy with e | e | e | e | e | e <;> subst e
    all_goals first | exact g | exact f _ (by simp)
theorem SAt.newE (h : SAt a G H S L x r) {p : Addr} (hp : H p = some (.lst [])) (n : p ≠ x.U ∧ p ≠ x.O ∧ p ≠ x.D ∧ p ≠ x.T) (g : G p = none) :
    SAt a G (upd H S (.ins a.C_KeyStream x.dx (putF "events" (.ref p) (sFl L x r.left)))) S L { x with E := p, ts := [] } { r with events := [] } := by
  obtain ⟨s1, s2, s3, s4, s5⟩ := h.neS
  obtain ⟨⟨n1, n2, n3, n4⟩, ⟨n5, n6, n7⟩, ⟨n8, n9⟩, n10⟩ := h.nds
  have sp : S ≠ p := ne_of h.ob hp (fun z => nomatch z)
  refine ⟨?_, by rw [upd_ne s1.symm]; exact h.u, by rw [upd_ne s2.symm]; exact h.o, by rw [upd_ne s3.symm]; exact h.d, by rw [upd_ne s4.symm]; exact h.t, by rw [upd_ne sp.symm]; exact hp, .nil, ?_, fun y hy => ?_, same_out h.sub (h.fr _ (by simp))⟩
  · rw [upd_same]
    exact congrArg (fun q => some (HO.ins a.C_KeyStream x.dx q)) pt_KeyStream_events
  · simp only [List.nodup_cons, List.mem_cons, List.not_mem_nil, or_false, not_or, not_false_eq_true, List.nodup_nil, and_true]
    exact ⟨⟨n1, n2, n3, n.1.symm⟩, ⟨n5, n6, n.2.1.symm⟩, ⟨n8, n.2.2.1.symm⟩, n.2.2.2.symm⟩
  · have f := h.fr
    simp only [List.mem_cons, List.not_mem_nil, or_false] at hy f
    rcases hy with e | e | e | e | e | e <;> subst e
    all_goals first | exact g | exact f _ (by simp)
/-- a new address is none of its own -/
theorem SAt.ne_new (h : SAt a G H S L x r) {p : Addr} (np : H p = none) : p ≠ x.U ∧ p ≠ x.O ∧ p ≠ x.D ∧ p ≠ x.T ∧ p ≠ x.E ∧ p ≠ S :=
  ⟨(ne_of_none h.u np).symm, (ne_of_none h.o np).symm, (ne_of_none h.d np).symm, (ne_of_none h.t np).symm, (ne_of_none h.e np).symm, (ne_of_none h.ob np).symm⟩
end
end Km

namespace Km
open PySem PySem.Spec PyProof.Rows L2
open Ue09 (Maps Map_ Binding mapAt counted isHead goesOn waits longest distinct)

/-- a list of maps, by their numbers -/
def CAt (a : Ad) (G H : Hp) (c : Addr) (m : Maps) (ns : List Nat) : Prop := ∃ xs : List (Addr × Addr), H c = some (.lst (xs.map fun y => V.ref y.1)) ∧ Paired (fun (y : Addr × Addr) n => MapAt a G y.1 y.2 n (mapAt m n)) xs ns
theorem CAt.grow {a : Ad} {G H H' : Hp} {c : Addr} {m : Maps} {ns : List Nat} (h : CAt a G H c m ns) (s : Same H H') : CAt a G H' c m ns := by
  obtain ⟨xs, h1, h2⟩ := h
  exact ⟨xs, s _ _ h1, h2⟩
theorem Paired.take {α β : Type} {R : α → β → Prop} : ∀ {l : List α} {m : List β} (i : Nat), Paired R l m → Paired R (l.take i) (m.take i)
  | _, _, 0, _ => by rw [List.take_zero, List.take_zero]; exact .nil
  | _, _, _ + 1, .nil => .nil
  | _, _, i + 1, .cons r t => .cons r (Paired.take i t)
theorem iv_flat : ∀ l : List Nat, (iv l).all flatV = true
  | [] => rfl
  | _ :: l => iv_flat l
theorem iv_in (n : Nat) : ∀ l : List Nat, inV (V.int (n : Int)) (iv l) = decide (n ∈ l)
  | [] => rfl
  | k :: l => by
    have ih := iv_in n l
    have e : inV (V.int (n : Int)) (iv (k :: l)) = (eqV (V.int (k : Int)) (V.int (n : Int)) || inV (V.int (n : Int)) (iv l)) := rfl
    rw [e, ih]
    by_cases h : k = n
    · subst h
      simp [eqV]
    · have h2 : ¬ n = k := fun z => h z.symm
      have h3 : eqV (V.int (k : Int)) (V.int (n : Int)) = false := by
        simp only [eqV]
        simp; omega
      rw [h3, Bool.false_or]
      simp [h2]
/-- the frame as it was, but that a dict may be walked just then -/
def Dry (G H : Hp) : Prop := ∀ b o, G b = some o → H b = some o ∨ ∃ kvs od, o = .dT kvs ∧ H b = some (.frz od (.dT kvs))
theorem Dry.of {G H : Hp} (s : Same G H) : Dry G H := fun b o e => .inl (s b o e)
theorem Dry.trans {G H H' : Hp} (d : Dry G H) (s : Same H H') : Dry G H' := fun b o e => by
  rcases d b o e with h | ⟨kvs, od, h1, h2⟩
  · exact .inl (s _ _ h)
  · exact .inr ⟨kvs, od, h1, s _ _ h2⟩
theorem Dry.ins {G H : Hp} (d : Dry G H) {p C dx : Addr} {fs : List (Str × V)} (e : G p = some (.ins C dx fs)) : H p = some (.ins C dx fs) := by
  rcases d _ _ e with h | ⟨kvs, od, h1, h2⟩
  · exact h
  · cases h1
theorem Dry.tup {G H : Hp} (d : Dry G H) {p : Addr} {xs : List V} (e : G p = some (.tup xs)) : H p = some (.tup xs) := by
  rcases d _ _ e with h | ⟨kvs, od, h1, h2⟩
  · exact h
  · cases h1
theorem Dry.dict {G H : Hp} (d : Dry G H) {p : Addr} {kvs : List (List L2.Key × V)} (e : G p = some (.dT kvs)) : L2.Rd H p (.dT kvs) := by
  rcases d _ _ e with h | ⟨kvs', od, h1, h2⟩
  · exact .inl h
  · cases h1
    exact .inr ⟨od, h2⟩
theorem Dry.lock {G H H2 : Hp} {d : Addr} {kvs : List (List L2.Key × V)} {od : Obj} (s : Same G H) (kp : ∀ b o, H b = some o → b ≠ d → H2 b = some o) (hd : H d = some (.dT kvs)) (hd2 : H2 d = some (.frz od (.dT kvs))) : Dry G H2 := fun b o e => by
  by_cases hb : b = d
  · subst hb
    have e2 := s _ _ e
    rw [hd] at e2
    cases e2
    exact .inr ⟨kvs, od, rfl, hd2⟩
  · exact .inl (kp _ _ (s _ _ e) hb)
theorem DGet.tR {H : Hp} {a b : Addr} {kvs : List (List L2.Key × V)} {k : List L2.Key} (e : L2.Rd H a (.dT kvs)) (eb : H b = some (.tup (k.map kV))) : DGet H a (.ref b) (valV kvs k) := .inr ⟨kvs, k, b, e, rfl, eb, rfl⟩
def spInUse (a : Ad) : Sp := fun vs H Q _ => ∃ (G : Hp) (L U : Addr) (ps ds : List Addr) (m : Maps), vs = [.ref L, .ref U] ∧ Same G H ∧ MapsAt a G L ps ds m.all ∧ H U = some (.lst (iv m.use)) ∧ (∀ n ∈ m.use, n < m.all.length) ∧ m.use.length ≤ 6 ∧
  ∀ H' c, Same H H' → H c = none → CAt a G H' c m (distinct m.use) → Q (.ref c) H'
def spCounting (a : Ad) : Sp := fun vs H Q _ => ∃ (G : Hp) (L U : Addr) (ps ds : List Addr) (m : Maps), vs = [.ref L, .ref U] ∧ Same G H ∧ MapsAt a G L ps ds m.all ∧ H U = some (.lst (iv m.use)) ∧ (∀ n ∈ m.use, n < m.all.length) ∧ m.use.length ≤ 6 ∧
  ∀ H' c, Same H H' → H c = none → CAt a G H' c m (cn m) → Q (.ref c) H'
def spBMap (a : Ad) : Sp := fun vs H Q _ => ∃ (G : Hp) (c q : Addr) (m : Maps) (ns : List Nat) (s : Ue09.Keys), vs = [.ref c, .ref q] ∧ Dry G H ∧ CAt a G H c m ns ∧ H q = some (.tup (iv s)) ∧
  (bnd m ns s = none → Q .non H) ∧ (∀ n b p d, bnd m ns s = some (n, b) → MapAt a G p d n (mapAt m n) → Q (.ref p) H)
def spBound (a : Ad) : Sp := fun vs H Q _ => ∃ (G : Hp) (c q : Addr) (m : Maps) (ns : List Nat) (s : Ue09.Keys), vs = [.ref c, .ref q] ∧ Dry G H ∧ CAt a G H c m ns ∧ H q = some (.tup (iv s)) ∧
  (bnd m ns s = none → Q .non H) ∧ (∀ n b p, bnd m ns s = some (n, b) → BindAt a G p b → Q (.ref p) H)
def spOnce (a : Ad) : Sp := fun vs H Q _ => ∃ (G : Hp) (c q : Addr) (m : Maps) (ns : List Nat) (s : Ue09.Keys), vs = [.ref c, .ref q] ∧ Dry G H ∧ CAt a G H c m ns ∧ H q = some (.tup (iv s)) ∧
  Q (.bl ((bnd m ns s).any fun x => x.2.now)) H
def spGoes (a : Ad) : Sp := fun vs H Q _ => ∃ (G : Hp) (c q : Addr) (m : Maps) (ns : List Nat) (s : Ue09.Keys), vs = [.ref c, .ref q] ∧ Same G H ∧ CAt a G H c m ns ∧ H q = some (.tup (iv s)) ∧ s.length ≤ 4 ∧ OkM m ∧
  ∀ H', Same H H' → Q (.bl (goe m ns s)) H'
def spLongest (a : Ad) : Sp := fun vs H Q _ => ∃ (G : Hp) (c q : Addr) (m : Maps) (ns : List Nat) (p : Ue09.Keys), vs = [.ref c, .ref q] ∧ Same G H ∧ CAt a G H c m ns ∧ H q = some (.lst (iv p)) ∧ p.length ≤ 1000 ∧
  ∀ H', Same H H' → (lng m ns p p.length = none → Q .non H') ∧ (∀ b o, lng m ns p p.length = some b → BindAt a G o b → Q (.ref o) H')
theorem drop_at {α : Type} {l : List α} {i : Nat} {x : α} (h : l[i]? = some x) : l.drop i = x :: l.drop (i + 1) := by
  have hi := (List.getElem?_eq_some_iff.mp h).1
  rw [List.drop_eq_getElem_cons hi]
  rw [List.getElem?_eq_getElem hi] at h
  rw [Option.some.inj h]
theorem take_at {α : Type} {l : List α} {i : Nat} {x : α} (h : l[i]? = some x) : l.take (i + 1) = l.take i ++ [x] := by
  rw [List.take_add_one, h]; rfl
section
variable {P : Program} {w : World} {K : PySem.W.Frag} {mg : Str → Option Value} {base : Heap} {a : Ad}
theorem ok_inUse (T : Txt K mg a) : FnOk P w K mg base CX0 1 a.f_maps_in_use a.fd_maps_in_use ["maps", "in_use"] (spInUse a) := by
  refine T.F_maps_in_use.ok sc_maps_in_use (fun vs H Q E h => ?_) (fun cdv A outer s H vs Q E hr h => ⟨(d_maps_in_use T hr).1, (d_maps_in_use T hr).2, ?_⟩)
  · obtain ⟨_, _, _, _, _, _, rfl, _⟩ := h
    rfl
  obtain ⟨G, L, U, ps, ds, m, rfl, sG, hM, hU, hlt, h6, q⟩ := h
  -- numbers = []
  refine ⟨(by show 0 ≤ sizeLine; decide), fun c hc => ?_⟩
  have nUc : U ≠ c := ne_of_none hU hc
  refine ⟨_, rfl, U, rfl, ⟨_, SqL.of (by rw [upd_ne nUc]; exact hU)⟩, ?_⟩
  refine for_list (K := K) (a := U) (xs := iv m.use) (fun i σ H' => ∃ o : Option V, σ = [some (.ref L), some (.ref U), some (.ref c), o] ∧ Same H H' ∧ H' c = some (.lst (iv ((m.use.take i).foldl addN []))))
    ⟨none, rfl, same_new hc, upd_same⟩ (fun i σ H' _ ⟨_, _, s1, _⟩ => SqL.of (s1 _ _ hU)) ?_ ?_
  · rintro i y σ H' hi ⟨o, rfl, s1, hc1⟩
    rw [iv_get] at hi
    obtain ⟨n, hn, rfl⟩ := Option.map_eq_some_iff.mp hi
    have etake := take_at hn
    have hi6 : i < m.use.length := (List.getElem?_eq_some_iff.mp hn).1
    have hl6 : ((m.use.take i).foldl addN []).length ≤ 6 := by
      have := fold_len (m.use.take i) []
      rw [List.length_take, List.length_nil] at this
      omega
    -- if number not in numbers
    refine ⟨_, rfl, _, rfl, c, _, rfl, .inl (SqL.of hc1), rfl, iv_flat _, _, rfl, ?_⟩
    rw [iv_in]
    by_cases hm : n ∈ (m.use.take i).foldl addN []
    · rw [decide_eq_true hm]
      refine iteF ⟨_, rfl, s1, ?_⟩
      rw [etake, List.foldl_append]
      show H' c = some (.lst (iv (addN _ n)))
      rw [addN_in hm]; exact hc1
    · rw [decide_eq_false hm]
      refine iteT ?_
      refine ⟨_, rfl, .inl ⟨rfl, _, SqL.of hc1⟩, _, rfl, c, _, _, rfl, rfl, hc1, (by rw [iv_len]; exact Nat.lt_of_le_of_lt hl6 (by decide)), ?_⟩
      refine ⟨_, rfl, same_out s1 hc, ?_⟩
      rw [etake, List.foldl_append, upd_same]
      show _ = some (HO.lst (iv (addN _ n)))
      rw [addN_out hm, iv_app]; rfl
  · rintro σ H1 ⟨o, rfl, s1, hc1⟩
    rw [iv_len, List.take_length] at hc1
    have hc1 : H1 c = some (.lst (iv (distinct m.use))) := hc1
    have hl6 : (distinct m.use).length ≤ 6 := Nat.le_trans (distinct_len _) h6
    have hlt2 : ∀ n ∈ distinct m.use, n < m.all.length := fun n hn => by
      rw [distinct_eq, fold_mem] at hn
      rcases hn with z | z
      · cases z
      · exact hlt n z
    -- [maps[number] for number in numbers]
    refine ⟨_, rfl, c, rfl, ⟨_, SqL.of hc1⟩, fun D hD => ?_⟩
    have ncD : c ≠ D := ne_of_none hc1 hD
    refine lc_list (K := K) (a := c) (xs := iv (distinct m.use)) (fun i H' => (∀ b o, H1 b = some o → H' b = some o) ∧ ∃ xs : List (Addr × Addr), H' D = some (.lst (xs.map fun y => V.ref y.1)) ∧ Paired (fun (y : Addr × Addr) n => MapAt a G y.1 y.2 n (mapAt m n)) xs ((distinct m.use).take i))
      ⟨same_new hD, [], upd_same, .nil⟩ (fun i H' _ ⟨s2, _⟩ => SqL.of (s2 _ _ hc1)) ?_ ?_
    · rintro i y H2 hi ⟨s2, xs, hD2, hp⟩
      rw [iv_get] at hi
      obtain ⟨n, hn, rfl⟩ := Option.map_eq_some_iff.mp hi
      obtain ⟨p, d, e1, e2, hmap⟩ := hM.at_ (hlt2 n (List.mem_of_getElem? hn))
      have eL : (ps.map V.ref)[n]? = some (V.ref p) := by rw [List.getElem?_map, e1]; rfl
      have hi6 : i < (distinct m.use).length := (List.getElem?_eq_some_iff.mp hn).1
      have hlx : xs.length = i := by
        rw [Paired.length hp, List.length_take]; omega
      refine ⟨rfl, ?_⟩
      unfold tYes
      refine (if_pos (c := true = true) rfl).mpr ?_
      refine ⟨_, rfl, _, rfl, L, _, _, _, rfl, rfl, SqL.of (s2 _ _ (s1 _ _ (sG _ _ hM.l))), atI_nat eL, ?_⟩
      refine ⟨_, hD2, (by rw [List.length_map, hlx]; exact Nat.lt_of_lt_of_le hi6 (Nat.le_trans hl6 (by decide))), same_out s2 hD, xs ++ [(p, d)], ?_, ?_⟩
      · rw [upd_same, List.map_append]; rfl
      · rw [take_at hn]
        exact Paired.snoc hp hmap
    · rintro H2 ⟨s2, xs, hD2, hp⟩
      rw [iv_len, List.take_length] at hp
      exact q _ D (s1.trans s2) (same_none s1 hD) ⟨xs, hD2, hp⟩
theorem ok_counting (T : Txt K mg a) : FnOk P w K mg base CX0 2 a.f_counting_maps a.fd_counting_maps ["maps", "in_use"] (spCounting a) := by
  refine T.F_counting_maps.ok sc_counting_maps (fun vs H Q E h => ?_) (fun cdv A outer s H vs Q E hr h => ⟨(d_counting_maps T (ok_inUse T) hr).1, (d_counting_maps T (ok_inUse T) hr).2, ?_⟩)
  · obtain ⟨_, _, _, _, _, _, rfl, _⟩ := h
    rfl
  obtain ⟨G, L, U, ps, ds, m, rfl, sG, hM, hU, hlt, h6, q⟩ := h
  -- counting = []
  refine ⟨(by show 0 ≤ sizeLine; decide), fun c hc => ?_⟩
  have s0 : Same H (upd H c (.lst [])) := same_new hc
  -- for key_map in maps_in_use(maps, in_use)
  refine ⟨_, rfl, _, rfl, G, L, U, ps, ds, m, rfl, sG.trans s0, hM, s0 _ _ hU, hlt, h6, fun H1 u s1 nu ⟨xs, hu, hp⟩ => ?_⟩
  have hc1 : H1 c = some (.lst []) := s1 _ _ upd_same
  have hl6 : (distinct m.use).length ≤ 6 := Nat.le_trans (distinct_len _) h6
  have hlx : xs.length = (distinct m.use).length := Paired.length hp
  have nuc : u ≠ c := (ne_of_none upd_same nu).symm
  refine ⟨u, rfl, ⟨_, SqL.of hu⟩, ?_⟩
  refine for_list (K := K) (a := u) (xs := xs.map fun y => V.ref y.1) (fun i σ H' => ∃ o : Option V, σ = [some (.ref L), some (.ref U), some (.ref c), o] ∧ Same H H' ∧ H' u = some (.lst (xs.map fun y => V.ref y.1)) ∧
      H' c = some (.lst ((xs.take i).map fun y => V.ref y.1)) ∧ cn m = (distinct m.use).take i ++ counted m ((distinct m.use).drop i))
    ⟨none, rfl, s0.trans s1, hu, by rw [List.take_zero]; exact hc1, by rw [List.take_zero, List.drop_zero]; rfl⟩ (fun i σ H' _ ⟨_, _, _, z, _⟩ => SqL.of z) ?_ ?_
  · rintro i y σ H' hi ⟨o, rfl, s2, hu2, hc2, hcnt⟩
    rw [List.getElem?_map] at hi
    obtain ⟨⟨p, d⟩, hx, rfl⟩ := Option.map_eq_some_iff.mp hi
    obtain ⟨n, hn, hmap⟩ := Paired.getl hp hx
    obtain ⟨dx, kvs, h1, h2, h3⟩ := id hmap
    have hi6 : i < xs.length := (List.getElem?_eq_some_iff.mp hx).1
    have edrop := drop_at hn
    have etake := take_at hn
    -- counting.append(key_map)
    refine ⟨_, rfl, .inl ⟨rfl, _, SqL.of hc2⟩, _, rfl, c, _, _, rfl, rfl, hc2, (by rw [List.length_map, List.length_take]; exact Nat.lt_of_le_of_lt (show _ ≤ 6 by omega) (by decide)), ?_⟩
    have s3 : Same H (upd H' c (.lst ((xs.take i).map (fun y => V.ref y.1) ++ [V.ref p]))) := same_out s2 hc
    have hl2 : (upd H' c (.lst ((xs.take i).map (fun y => V.ref y.1) ++ [V.ref p]))) c = some (.lst ((xs.take (i + 1)).map fun y => V.ref y.1)) := by
      rw [upd_same, take_at hx, List.map_append]; rfl
    have hu3 : (upd H' c (.lst ((xs.take i).map (fun y => V.ref y.1) ++ [V.ref p]))) u = some (.lst (xs.map fun y => V.ref y.1)) := by rw [upd_ne nuc]; exact hu2
    -- if key_map.shut == 1: break
    refine ⟨_, rfl, p, a.C_KeyMap, dx, _, _, rfl, s3 _ _ (sG _ _ h1), T.c_KeyMap, T.no_KeyMap_shut, lk_KeyMap_shut, rfl, _, rfl, ?_⟩
    refine ite2 (fun hd => ?_) (fun hd => ?_)
    · have hsh : (mapAt m n).shut = true := by
        cases e : (mapAt m n).shut with
        | true => rfl
        | false => rw [e] at hd; exact absurd (of_decide_eq_true hd) (by intro z; cases z)
      refine ⟨_, rfl, q _ c s3 hc ⟨xs.take (i + 1), hl2, ?_⟩⟩
      have ec : cn m = (distinct m.use).take (i + 1) := by
        rw [hcnt, edrop, etake]
        show _ ++ (if (mapAt m n).shut = true then [n] else _) = _
        rw [if_pos hsh]
      rw [ec]
      exact Paired.take _ hp
    · have hsh : ¬ (mapAt m n).shut = true := fun e => hd (by rw [e]; exact decide_eq_true rfl)
      refine ⟨some (.ref p), rfl, s3, hu3, hl2, ?_⟩
      rw [hcnt, edrop, etake]
      show _ ++ (if (mapAt m n).shut = true then [n] else n :: counted m ((distinct m.use).drop (i + 1))) = _
      rw [if_neg hsh, List.append_assoc]
      rfl
  · rintro σ H' ⟨o, rfl, s2, hu2, hc2, hcnt⟩
    rw [List.length_map, List.take_length] at hc2
    rw [List.length_map, hlx, List.take_length, List.drop_length] at hcnt
    refine ⟨_, rfl, q _ c s2 hc ⟨xs, hc2, ?_⟩⟩
    have ec : cn m = distinct m.use := by rw [hcnt]; show _ ++ [] = _; rw [List.append_nil]
    rw [ec]
    exact hp
theorem ok_bMap (T : Txt K mg a) : FnOk P w K mg base CX0 1 a.f_binding_map a.fd_binding_map ["counting", "sequence"] (spBMap a) := by
  refine T.F_binding_map.ok sc_binding_map (fun vs H Q E h => ?_) (fun cdv A outer s H vs Q E hr h => ⟨(d_binding_map T hr).1, (d_binding_map T hr).2, ?_⟩)
  · obtain ⟨_, _, _, _, _, _, rfl, _⟩ := h
    rfl
  obtain ⟨G, c, q, m, ns, s, rfl, sG, ⟨xs, hc, hp⟩, hq, q0, q1⟩ := h
  refine ⟨_, rfl, c, rfl, ⟨_, SqL.of hc⟩, ?_⟩
  refine for_list (K := K) (a := c) (xs := xs.map fun y => V.ref y.1) (fun i σ H' => H' = H ∧ ∃ o1 : Option V, σ = [some (.ref c), some (.ref q), o1] ∧ bnd m ns s = bnd m (ns.drop i) s)
    ⟨rfl, none, rfl, rfl⟩ (fun i σ H' _ ⟨z, _⟩ => by subst z; exact SqL.of hc) ?_ ?_
  · rintro i y σ H' hi ⟨rfl, o1, rfl, hh⟩
    rw [List.getElem?_map] at hi
    obtain ⟨⟨p, d⟩, hx, rfl⟩ := Option.map_eq_some_iff.mp hi
    obtain ⟨n, hn, hmap⟩ := Paired.getl hp hx
    obtain ⟨dx, kvs, h1, h2, h3⟩ := id hmap
    rw [drop_at hn, bnd_cons] at hh
    obtain ⟨v1, v2⟩ := val_of (s := s) h3
    have hq' : H' q = some (.tup ((kOf s).map kV)) := by rw [kOf_kV]; exact hq
    -- if sequence in key_map.bindings
    refine ⟨_, rfl, _, rfl, p, a.C_KeyMap, dx, _, _, rfl, sG.ins h1, T.c_KeyMap, T.no_KeyMap_bindings, lk_KeyMap_bindings, d, _, rfl, DGet.tR (sG.dict h2) hq', _, rfl, ?_⟩
    cases e : has m n s with
    | none =>
      rw [v2 e]
      rw [e] at hh
      exact iteF ⟨rfl, _, rfl, hh⟩
    | some b =>
      obtain ⟨o, eo, hb⟩ := v1 b e
      rw [eo]
      rw [e] at hh
      exact iteT ⟨_, rfl, q1 n b p d hh hmap⟩
  · rintro σ H' ⟨rfl, o1, rfl, hh⟩
    rw [List.length_map, Paired.length hp, List.drop_length] at hh
    exact q0 hh
theorem ok_bound (T : Txt K mg a) : FnOk P w K mg base CX0 2 a.f_bound a.fd_bound ["counting", "sequence"] (spBound a) := by
  refine T.F_bound.ok sc_bound (fun vs H Q E h => ?_) (fun cdv A outer s H vs Q E hr h => ⟨(d_bound T (ok_bMap T) hr).1, (d_bound T (ok_bMap T) hr).2, ?_⟩)
  · obtain ⟨_, _, _, _, _, _, rfl, _⟩ := h
    rfl
  obtain ⟨G, c, q, m, ns, s, rfl, sG, hc, hq, q0, q1⟩ := h
  refine ⟨_, rfl, _, rfl, G, c, q, m, ns, s, rfl, sG, hc, hq, fun e => ?_, fun n b p d e hmap => ?_⟩
  · exact ⟨_, rfl, rfl, _, rfl, iteT (q0 e)⟩
  · obtain ⟨dx, kvs, h1, h2, h3⟩ := id hmap
    obtain ⟨v1, v2⟩ := val_of (s := s) h3
    have hq' : H q = some (.tup ((kOf s).map kV)) := by rw [kOf_kV]; exact hq
    obtain ⟨o, eo, hb⟩ := v1 b (bnd_mem e).2.2.2
    refine ⟨_, rfl, rfl, _, rfl, iteF ?_⟩
    refine ⟨_, rfl, p, a.C_KeyMap, dx, _, _, rfl, sG.ins h1, T.c_KeyMap, T.no_KeyMap_bindings, lk_KeyMap_bindings, _, rfl, d, _, rfl, (by rw [← eo]; exact DGet.tR (sG.dict h2) hq'), ?_⟩
    exact q1 n b o e hb
theorem ok_once (T : Txt K mg a) : FnOk P w K mg base CX0 3 a.f_bound_at_once a.fd_bound_at_once ["counting", "sequence"] (spOnce a) := by
  refine T.F_bound_at_once.ok sc_bound_at_once (fun vs H Q E h => ?_) (fun cdv A outer s H vs Q E hr h => ⟨(d_bound_at_once T (ok_bound T) hr).1, (d_bound_at_once T (ok_bound T) hr).2, ?_⟩)
  · obtain ⟨_, _, _, _, _, _, rfl, _⟩ := h
    rfl
  obtain ⟨G, c, q, m, ns, s, rfl, sG, hc, hq, qk⟩ := h
  refine ⟨_, rfl, _, rfl, G, c, q, m, ns, s, rfl, sG, hc, hq, fun e => ?_, fun n b p e hB => ?_⟩
  · rw [e] at qk
    exact ⟨_, rfl, rfl, _, rfl, iteF qk⟩
  · obtain ⟨dx, dp, sq, b1, b2', b3⟩ := id hB
    rw [e] at qk
    refine ⟨_, rfl, rfl, _, rfl, iteT ?_⟩
    refine ⟨_, rfl, p, a.C_Binding, dx, _, _, rfl, sG.ins b1, T.c_Binding, T.no_Binding_at_once, lk_Binding_at_once, rfl, ?_⟩
    have e2 : decide (b2 b.now = V.int 1) = b.now := by
      cases b.now <;> rfl
    show Q (.bl (decide (b2 b.now = V.int 1))) H
    rw [e2]
    exact qk
end
end Km

namespace Km
open PySem PySem.Spec PyProof.Rows L2
open Ue09 (Maps Map_ Binding mapAt counted isHead goesOn waits longest)

/-! ### tuples of keys compared -/
def pdt (l : List Nat) : List PyData := l.map fun (n : Nat) => PyData.int (n : Int)
theorem dpAll {K : PySem.W.Frag} {H : Hp} : ∀ l : List Nat, DpAll K H (iv l) (pdt l)
  | [] => .nil
  | _ :: l => .cons (.int _) (dpAll l)
theorem pd_eqv : ∀ l m : List Nat, PyData.eqvAll (pdt l) (pdt m) = decide (l = m)
  | [], [] => by simp [pdt, PyData.eqvAll]
  | [], _ :: _ => by simp [pdt, PyData.eqvAll]
  | _ :: _, [] => by simp [pdt, PyData.eqvAll]
  | x :: l, y :: m => by
    have ih := pd_eqv l m
    simp only [pdt, List.map_cons] at ih ⊢
    rw [PyData.eqvAll, ih, PyData.eqv]
    by_cases h : x = y
    · subst h; simp
    · have : ¬ (x : Int) = (y : Int) := by omega
      simp [h, this]
theorem pd_lay : ∀ l : List Nat, PyData.canLayAll0 (pdt l) = true
  | [] => rfl
  | _ :: l => by
    have ih := pd_lay l
    simp only [pdt, List.map_cons] at ih ⊢
    rw [PyData.canLayAll0, ih]; rfl
theorem pd_shaped (l : List Nat) : SeqAt.shaped (.tuple (pdt l)) = true := by
  have h1 : PyData.canLay0 (.tuple (pdt l)) = true := by rw [PyData.canLay0]; exact pd_lay l
  have h2 : (PyData.tuple (pdt l)).depth ≤ 64 := by
    have : ∀ l : List Nat, PyData.depthAll (pdt l) ≤ 1 := by
      intro l
      induction l with
      | nil => simp [pdt, PyData.depthAll]
      | cons x l ih =>
        simp only [pdt, List.map_cons, PyData.depthAll, PyData.depth] at ih ⊢
        omega
    have := this l
    simp only [PyData.depth]
    omega
  rw [SeqAt.shaped, h1]
  simp [h2]
theorem cut_to (l : List V) (n : Nat) (h : n ≤ l.length) : cutV l none (some (n : Int)) = l.take n := by
  unfold cutV
  rw [HT.sIx_none, HT.sIx_nat, List.drop_zero, Nat.min_eq_left h, Nat.sub_zero]
theorem cut_from (l : List V) (n : Nat) (h : n ≤ l.length) : cutV l (some (n : Int)) none = l.drop n := by
  unfold cutV
  rw [HT.sIx_none, HT.sIx_nat, Nat.min_eq_left h, List.take_of_length_le (by rw [List.length_drop]; omega)]
theorem iv_take (l : List Nat) (n : Nat) : (iv l).take n = iv (l.take n) := List.map_take.symm
theorem iv_drop (l : List Nat) (n : Nat) : (iv l).drop n = iv (l.drop n) := List.map_drop.symm
section
variable {P : Program} {w : World} {K : PySem.W.Frag} {mg : Str → Option Value} {base : Heap} {a : Ad}
theorem ok_goes (T : Txt K mg a) : FnOk P w K mg base CX0 1 a.f_goes_on a.fd_goes_on ["counting", "sequence"] (spGoes a) := by
  refine T.F_goes_on.ok sc_goes_on (fun vs H Q E h => ?_) (fun cdv A outer s H vs Q E hr h => ⟨(d_goes_on T hr).1, (d_goes_on T hr).2, ?_⟩)
  · obtain ⟨_, _, _, _, _, _, rfl, _⟩ := h
    rfl
  obtain ⟨G, c, q, M, ns, s, rfl, sG, ⟨xs, hc, hpG⟩, hq, hs4, okM, qk⟩ := h
  have hp : Paired (fun (y : Addr × Addr) n => MapAt a H y.1 y.2 n (mapAt M n)) xs ns := Paired.imp (fun _ _ z => z.same sG) hpG
  -- length = len(sequence)
  refine ⟨_, rfl, q, _, rfl, .inr (SqT.of hq), ?_⟩
  rw [iv_len]
  refine ⟨_, rfl, c, rfl, ⟨_, SqL.of hc⟩, ?_⟩
  refine for_list (K := K) (a := c) (xs := xs.map fun y => V.ref y.1) (fun i σ H' => Same H H' ∧ ∃ o1 o2 : Option V, σ = [some (.ref c), some (.ref q), some (.int (s.length : Int)), o1, o2] ∧ goe M ns s = goe M (ns.drop i) s)
    ⟨Same.refl H, none, none, rfl, rfl⟩ (fun i σ H' _ ⟨z, _⟩ => SqL.of (z _ _ hc)) ?_ ?_
  · rintro i y σ H1 hi ⟨s1, o1, o2, rfl, hh⟩
    rw [List.getElem?_map] at hi
    obtain ⟨⟨p, d⟩, hx, rfl⟩ := Option.map_eq_some_iff.mp hi
    obtain ⟨n, hm, dx, kvs, h1, h2, h3⟩ := Paired.getl hp hx
    have edrop := drop_at hm
    have hg : goe M (ns.drop i) s = (((mapAt M n).bindings.any fun b => isHead s b.seq) || goe M (ns.drop (i + 1)) s) := by
      rw [edrop, goe, List.any_cons]; rfl
    have npd : p ≠ d := ne_of h1 h2 (fun z => nomatch z)
    -- for longer in key_map.bindings, locked
    refine ⟨d, .dT kvs, s1 _ _ h2, trivial, fun od => ?_⟩
    refine ⟨_, rfl, p, a.C_KeyMap, dx, _, _, rfl, (by rw [upd_ne npd]; exact s1 _ _ h1), T.c_KeyMap, T.no_KeyMap_bindings, lk_KeyMap_bindings, d, od, rfl, .inr ⟨kvs, upd_same, ?_⟩⟩
    refine for_it walk_keysT (fun j σ H' => (∀ b o, H b = some o → b ≠ d → H' b = some o) ∧ H' d = some (.frz od (.dT kvs)) ∧ ∃ o2 : Option V, σ = [some (.ref c), some (.ref q), some (.int (s.length : Int)), some (.ref p), o2] ∧
        ((mapAt M n).bindings.any fun b => isHead s b.seq) = (((mapAt M n).bindings.drop j).any fun b => isHead s b.seq))
      ⟨fun b o e nb => by rw [upd_ne nb]; exact s1 _ _ e, upd_same, o2, rfl, rfl⟩ (fun j σ H' _ z => z.2.1) ?_ ?_
    · rintro j y σ H2 H2' hj ⟨kp, hd2, o3, rfl, hany⟩ ⟨rfl, k, v, qk2, hk, rfl, hqk⟩
      obtain ⟨b, hb, ek, o4, e4, hB⟩ := Paired.getl h3 hk
      have ek : k = kOf b.seq := ek
      subst ek
      rw [kOf_kV] at hqk
      have bdrop := drop_at hb
      have hl4 := (seqOk_len (okM.all n b (List.mem_of_getElem? hb)).seq).2
      have hany2 : (((mapAt M n).bindings.drop j).any fun b => isHead s b.seq) = (isHead s b.seq || ((mapAt M n).bindings.drop (j + 1)).any fun b => isHead s b.seq) := by
        rw [bdrop, List.any_cons]
      have hq2 : H2' q = some (.tup (iv s)) := kp _ _ hq (ne_of hq h2 (fun z => nomatch z))
      -- if len(longer) > length and longer[:length] == sequence
      refine ⟨_, rfl, qk2, _, rfl, .inr (SqT.of hqk), _, rfl, _, _, rfl, rfl, _, rfl, ?_⟩
      rw [iv_len]
      refine ite2 (fun hd => ?_) (fun hd => ?_)
      · have hlt : s.length < b.seq.length := by
          have := of_decide_eq_true hd
          omega
        refine ⟨_, rfl, _, rfl, _, rfl, qk2, _, rfl, SqT.of hqk, fun z => ?_, fun _ pn hpn => ?_⟩
        · exfalso
          have z2 := z.2
          rw [iv_len, HT.sIx_nat] at z2
          omega
        · rw [cut_to _ _ (by rw [iv_len]; omega), iv_take]
          have s3 : Same H2' (upd H2' pn (.tup (iv (b.seq.take s.length)))) := same_new hpn
          refine ⟨_, rfl, .tuple (pdt (b.seq.take s.length)), .tuple (pdt s), .tup (SqT.of upd_same) (dpAll _), .tup (SqT.of (s3 _ _ hq2)) (dpAll _), pd_shaped _, pd_shaped _, _, rfl, ?_⟩
          have kp3 : ∀ b' o, H b' = some o → b' ≠ d → (upd H2' pn (.tup (iv (b.seq.take s.length)))) b' = some o := fun b' o e nb => s3 _ _ (kp _ _ e nb)
          have ehead : isHead s b.seq = PyData.eqv (.tuple (pdt (b.seq.take s.length))) (.tuple (pdt s)) := by
            rw [PyData.eqv, pd_eqv, isHead, decide_eq_true hlt, Bool.true_and]
            by_cases z : b.seq.take s.length = s
            · rw [z]; simp
            · simp [z]
          cases ev : PyData.eqv (.tuple (pdt (b.seq.take s.length))) (.tuple (pdt s)) with
          | true =>
            refine iteT ?_
            refine ⟨s3 _ _ hd2, ?_⟩
            have er : goe M ns s = true := by rw [hh, hg, hany, hany2, ehead, ev]; rfl
            rw [← er]
            refine qk _ fun b' o e => ?_
            by_cases nb : b' = d
            · subst nb
              rw [upd_same, ← h2, e]
            · rw [upd_ne nb]
              exact kp3 _ _ e nb
          | false =>
            refine iteF ?_
            refine ⟨kp3, s3 _ _ hd2, _, rfl, ?_⟩
            rw [hany, hany2, ehead, ev, Bool.false_or]
      · have hlt : ¬ s.length < b.seq.length := fun z => hd (decide_eq_true (by omega))
        refine iteF ?_
        refine ⟨kp, hd2, _, rfl, ?_⟩
        rw [hany, hany2, isHead, decide_eq_false hlt, Bool.false_and, Bool.false_or]
    · rintro σ H2 ⟨kp, hd2, o3, rfl, hany⟩
      rw [Paired.length h3, List.drop_length] at hany
      refine ⟨hd2, fun b' o e => ?_, _, _, rfl, ?_⟩
      · by_cases nb : b' = d
        · subst nb
          rw [upd_same, ← h2, e]
        · rw [upd_ne nb]
          exact kp _ _ e nb
      · rw [hh, hg, hany]; rfl
  · rintro σ H1 ⟨s1, o1, o2, rfl, hh⟩
    rw [List.length_map, Paired.length hp, List.drop_length] at hh
    have er : goe M ns s = false := hh
    rw [← er]
    exact qk _ s1
theorem ok_longest (T : Txt K mg a) (GB : FnOk P w K mg base CX0 2 a.f_bound a.fd_bound ["counting", "sequence"] (spBound a)) : FnOk P w K mg base CX0 3 a.f_longest_bound a.fd_longest_bound ["counting", "keys"] (spLongest a) := by
  refine T.F_longest_bound.ok sc_longest_bound (fun vs H Q E h => ?_) (fun cdv A outer s H vs Q E hr h => ⟨(d_longest_bound T GB hr).1, (d_longest_bound T GB hr).2, ?_⟩)
  · obtain ⟨_, _, _, _, _, _, rfl, _⟩ := h
    rfl
  obtain ⟨G, c, q, M, ns, p, rfl, sG, hc, hq, hl, qk⟩ := h
  -- for length in range(len(keys), 0, -1)
  refine ⟨_, rfl, q, _, rfl, .inl (SqL.of hq), _, rfl, _, _, _, p.length, rfl, ?_, ?_⟩
  · rw [iv_len]
    have z := RgC.neg (i := (p.length : Int)) (j := 0) (by omega) (by omega) (by omega) (by omega)
    have z2 : ((p.length : Int) - 0).toNat = p.length := by omega
    rw [z2] at z
    exact z
  rw [iv_len]
  refine for_rangeC (lo := (p.length : Int)) (c := -1) (n := p.length) (fun i σ H' => Same H H' ∧ ∃ o1 o2 : Option V, σ = [some (.ref c), some (.ref q), o1, o2] ∧ lng M ns p p.length = lng M ns p (p.length - i))
    ⟨Same.refl H, none, none, rfl, rfl⟩ ?_ ?_
  · rintro i σ H1 hi ⟨s1, o1, o2, rfl, hh⟩
    obtain ⟨n, hn⟩ : ∃ n, p.length - i = n + 1 := ⟨p.length - i - 1, by omega⟩
    have en : (p.length : Int) + (i : Nat) * (-1) = ((n + 1 : Nat) : Int) := by omega
    rw [hn] at hh
    -- binding = bound(counting, tuple(keys[:length]))
    refine ⟨_, rfl, _, rfl, _, rfl, _, rfl, q, _, rfl, SqL.of (s1 _ _ hq), fun l1 hl1 => ?_⟩
    rw [en, cut_to _ _ (by rw [iv_len]; omega), iv_take]
    refine ⟨l1, _, rfl, .inl ⟨SqL.of upd_same, fun t1 ht1 => ?_⟩⟩
    have s2 : Same H1 (upd (upd H1 l1 (.lst (iv (p.take (n + 1))))) t1 (.tup (iv (p.take (n + 1))))) := (same_new hl1).trans (same_new ht1)
    have s3 := s1.trans s2
    refine ⟨G, c, t1, M, ns, p.take (n + 1), rfl, Dry.of (sG.trans s3), hc.grow s3, upd_same, fun e => ?_, fun k b o e hb => ?_⟩
    · refine ⟨_, rfl, rfl, _, rfl, ?_⟩
      refine iteF ⟨s3, _, _, rfl, ?_⟩
      have e2 : p.length - (i + 1) = n := by omega
      rw [e2, hh, lng, e]; rfl
    · refine ⟨_, rfl, rfl, _, rfl, ?_⟩
      refine iteT ⟨_, rfl, (qk _ s3).2 b o ?_ hb⟩
      rw [hh, lng, e]; rfl
  · rintro σ H1 ⟨s1, o1, o2, rfl, hh⟩
    refine (qk _ s1).1 ?_
    rw [hh, Nat.sub_self]; rfl
end
end Km

namespace Km
open PySem PySem.Spec PyProof.Rows L2
open Ue09 (Maps Map_ Binding mapAt counted isHead goesOn waits longest distinct)

/-! ### what the maps say of their sequences -/
def codeN (m : Maps) (ns : List Nat) (s : Ue09.Keys) : Nat := (if (bnd m ns s).isSome = true then 1 else 0) + if goe m ns s = true then 2 else 0
def spState (a : Ad) : Sp := fun vs H Q _ => ∃ (G : Hp) (c q : Addr) (m : Maps) (ns : List Nat) (s : Ue09.Keys), vs = [.ref c, .ref q] ∧ Same G H ∧ CAt a G H c m ns ∧ H q = some (.tup (iv s)) ∧ s.length ≤ 4 ∧ OkM m ∧
  ∀ H', Same H H' → Q (.int (codeN m ns s : Nat)) H'
def spCut (a : Ad) : Sp := fun vs H Q _ => ∃ (G : Hp) (c q : Addr) (m : Maps) (ns : List Nat) (s : Ue09.Keys), vs = [.ref c, .ref q] ∧ Dry G H ∧ CAt a G H c m ns ∧ H q = some (.tup (iv s)) ∧ s.length ≤ 4 ∧
  ∀ H', Same H H' → Q (.bl (cut m ns s)) H'
def spBy (a : Ad) : Sp := fun vs H Q _ => ∃ (G : Hp) (c p0 d0 q : Addr) (m : Maps) (ns : List Nat) (n0 : Nat) (x0 : Map_) (s : Ue09.Keys), vs = [.ref c, .ref p0, .ref q] ∧ Dry G H ∧ CAt a G H c m ns ∧ MapAt a G p0 d0 n0 x0 ∧ H q = some (.tup (iv s)) ∧
  Q (.bl (bby m ns n0 s)) H
section
variable {P : Program} {w : World} {K : PySem.W.Frag} {mg : Str → Option Value} {base : Heap} {a : Ad}
theorem ok_state (T : Txt K mg a) : FnOk P w K mg base CX0 2 a.f_sequence_state a.fd_sequence_state ["counting", "sequence"] (spState a) := by
  refine T.F_sequence_state.ok sc_sequence_state (fun vs H Q E h => ?_) (fun cdv A outer s H vs Q E hr h => ⟨(d_sequence_state T (ok_goes T) (ok_bMap T) hr).1, (d_sequence_state T (ok_goes T) (ok_bMap T) hr).2, ?_⟩)
  · obtain ⟨_, _, _, _, _, _, rfl, _⟩ := h
    rfl
  obtain ⟨G, c, q, m, ns, s, rfl, sG, hc, hq, hs4, ok, qk⟩ := h
  have fin : ∀ b : Bool, (bnd m ns s).isSome = b → ∀ z : Int, z = (if b = true then 1 else 0) → ∀ H', Same H H' → (goe m ns s = true → Q (.int (z + 2)) H') ∧ (goe m ns s = false → Q (.int z) H') := fun b e z hz H' s' => by
    have q1 := qk H' s'
    unfold codeN at q1
    rw [e] at q1
    refine ⟨fun g => ?_, fun g => ?_⟩
    · rw [g] at q1
      have e1 : z + 2 = (((if b = true then 1 else 0) + (if (true : Bool) = true then 2 else 0) : Nat) : Int) := by
        subst hz; cases b <;> rfl
      rw [e1]; exact q1
    · rw [g] at q1
      have e1 : z = (((if b = true then 1 else 0) + (if (false : Bool) = true then 2 else 0) : Nat) : Int) := by
        subst hz; cases b <;> rfl
      rw [e1]; exact q1
  refine ⟨_, rfl, _, rfl, G, c, q, m, ns, s, rfl, Dry.of sG, hc, hq, fun e => ?_, fun n b p d e hmap => ?_⟩
  · refine ⟨rfl, _, rfl, iteF ?_⟩
    refine ⟨_, rfl, _, rfl, G, c, q, m, ns, s, rfl, sG, hc, hq, hs4, ok, fun H' s' => ⟨_, rfl, ?_⟩⟩
    have f := fin false (by rw [e]; rfl) 0 rfl H' s'
    cases eg : goe m ns s with
    | true => exact iteT ⟨_, rfl, _, _, rfl, rfl, _, rfl, f.1 eg⟩
    | false => exact iteF ⟨_, rfl, f.2 eg⟩
  · refine ⟨rfl, _, rfl, iteT ?_⟩
    refine ⟨_, rfl, _, _, rfl, rfl, ?_⟩
    refine ⟨_, rfl, _, rfl, G, c, q, m, ns, s, rfl, sG, hc, hq, hs4, ok, fun H' s' => ⟨_, rfl, ?_⟩⟩
    have f := fin true (by rw [e]; rfl) 1 rfl H' s'
    cases eg : goe m ns s with
    | true => exact iteT ⟨_, rfl, _, _, rfl, rfl, _, rfl, f.1 eg⟩
    | false => exact iteF ⟨_, rfl, f.2 eg⟩
theorem ok_by (T : Txt K mg a) : FnOk P w K mg base CX0 2 a.f_bound_by a.fd_bound_by ["counting", "key_map", "sequence"] (spBy a) := by
  refine T.F_bound_by.ok sc_bound_by (fun vs H Q E h => ?_) (fun cdv A outer s H vs Q E hr h => ⟨(d_bound_by T (ok_bMap T) hr).1, (d_bound_by T (ok_bMap T) hr).2, ?_⟩)
  · obtain ⟨_, _, _, _, _, _, _, _, _, _, rfl, _⟩ := h
    rfl
  obtain ⟨G, c, p0, d0, q, m, ns, n0, x0, s, rfl, sG, hc, hm0, hq, qk⟩ := h
  obtain ⟨dx0, kv0, g1, g2, g3⟩ := id hm0
  unfold bby at qk
  refine ⟨_, rfl, _, rfl, G, c, q, m, ns, s, rfl, sG, hc, hq, fun e => ?_, fun n b p d e hmap => ?_⟩
  · rw [e] at qk
    exact ⟨_, rfl, rfl, _, rfl, iteF qk⟩
  · obtain ⟨dx, kvs, h1, h2, h3⟩ := id hmap
    rw [e] at qk
    refine ⟨_, rfl, rfl, _, rfl, iteT ?_⟩
    refine ⟨_, rfl, p, a.C_KeyMap, dx, _, _, rfl, sG.ins h1, T.c_KeyMap, T.no_KeyMap_number, lk_KeyMap_number, _, rfl, p0, a.C_KeyMap, dx0, _, _, rfl, sG.ins g1, T.c_KeyMap, T.no_KeyMap_number, lk_KeyMap_number, rfl, ?_⟩
    have e2 : decide (V.int (n : Int) = V.int (n0 : Int)) = (n == n0) := by
      by_cases z : n = n0
      · subst z; simp
      · rw [decide_eq_false (fun y => z (by injection y with y; omega))]; simp [z]
    show Q (.bl (decide (V.int (n : Int) = V.int (n0 : Int)))) H
    rw [e2]
    exact qk
theorem ok_cut (T : Txt K mg a) : FnOk P w K mg base CX0 4 a.f_cut_short a.fd_cut_short ["counting", "sequence"] (spCut a) := by
  refine T.F_cut_short.ok sc_cut_short (fun vs H Q E h => ?_) (fun cdv A outer s H vs Q E hr h => ⟨(d_cut_short T (ok_once T) hr).1, (d_cut_short T (ok_once T) hr).2, ?_⟩)
  · obtain ⟨_, _, _, _, _, _, rfl, _⟩ := h
    rfl
  obtain ⟨G, c, q, m, ns, s, rfl, sG, hc, hq, hs4, qk⟩ := h
  unfold cut at qk
  refine ⟨_, rfl, q, _, rfl, .inr (SqT.of hq), 1, _, rfl, ⟨by decide, by decide, by rw [iv_len]; omega, by rw [iv_len]; omega⟩, ?_⟩
  rw [iv_len]
  have en : ((s.length : Int) - 1).toNat = s.length - 1 := by omega
  rw [en]
  refine for_range (lo := 1) (n := s.length - 1) (fun i σ H' => Same H H' ∧ ∃ o : Option V, σ = [some (.ref c), some (.ref q), o] ∧ ((List.range i).any fun i => (bnd m ns (s.take (i + 1))).any fun x => x.2.now) = false)
    ⟨Same.refl H, none, rfl, rfl⟩ ?_ ?_
  · rintro i σ H1 hi ⟨s1, o, rfl, hany⟩
    have ei : (1 : Int) + (i : Int) = ((i + 1 : Nat) : Int) := by omega
    rw [ei]
    -- if bound_at_once(counting, sequence[:length])
    refine ⟨_, rfl, _, rfl, _, rfl, _, rfl, q, _, rfl, SqT.of (s1 _ _ hq), fun z => ?_, fun _ pn hpn => ?_⟩
    · exfalso
      have z2 := z.2
      rw [iv_len, HT.sIx_nat] at z2
      omega
    · rw [cut_to _ _ (by rw [iv_len]; omega), iv_take]
      have s2 : Same H1 (upd H1 pn (.tup (iv (s.take (i + 1))))) := same_new hpn
      have s3 := s1.trans s2
      refine ⟨G, c, pn, m, ns, s.take (i + 1), rfl, sG.trans s3, hc.grow s3, upd_same, _, rfl, ?_⟩
      cases e : ((bnd m ns (s.take (i + 1))).any fun x => x.2.now) with
      | true =>
        refine iteT ?_
        have er : ((List.range (s.length - 1)).any fun i => (bnd m ns (s.take (i + 1))).any fun x => x.2.now) = true := List.any_eq_true.mpr ⟨i, List.mem_range.mpr hi, e⟩
        rw [er] at qk
        exact qk _ s3
      | false =>
        refine iteF ⟨s3, _, rfl, ?_⟩
        rw [List.range_succ, List.any_append, hany, List.any_cons, e]; rfl
  · rintro σ H1 ⟨s1, o, rfl, hany⟩
    rw [hany] at qk
    exact qk _ s1
end
end Km

namespace Km
open PySem PySem.Spec PyProof.Rows L2
open Ue09 (Maps Map_ Binding mapAt counted isHead goesOn waits longest distinct)

theorem nk_yes {s p : List Nat} {k0 : Nat} (ht : s.take p.length = p) (hk : s[p.length]? = some k0) (k : Nat) : (s.take (p.length + 1) == p ++ [k]) = decide (k = k0) := by
  rw [take_at hk, ht]
  by_cases e : k = k0
  · subst e; simp
  · have : ¬ k0 = k := fun z => e z.symm
    simp [e, this]
theorem nk_no {s p : List Nat} (h : ¬ (p.length < s.length ∧ s.take p.length = p)) (k : Nat) : (s.take (p.length + 1) == p ++ [k]) = false := by
  rw [Bool.eq_false_iff]
  intro z
  have e : s.take (p.length + 1) = p ++ [k] := eq_of_beq z
  refine h ⟨?_, ?_⟩
  · have := congrArg List.length e
    rw [List.length_take, List.length_append, List.length_singleton] at this
    omega
  · have := congrArg (List.take p.length) e
    rw [List.take_take, List.take_left, Nat.min_eq_left (Nat.le_succ _)] at this
    exact this
def kI (k : Nat) : L2.Key := Sum.inl (k : Int)
theorem kI_inj {k j : Nat} (h : kI k = kI j) : k = j := by
  unfold kI at h
  injection h with h
  omega
theorem put_keys {kvs : List (L2.Key × V)} {ks : List Nat} (k : Nat) (v : V) (h : kvs.map (·.1) = ks.map kI) : (putK kvs (kI k) v).map (·.1) = (addN ks k).map kI := by
  have e : (kvs.any fun kv => decide (kv.1 = kI k)) = decide (k ∈ ks) := by
    have e1 : (kvs.any fun kv => decide (kv.1 = kI k)) = (kvs.map (·.1)).any fun x => decide (x = kI k) := by rw [List.any_map]; rfl
    rw [e1, h, List.any_map]
    by_cases c : k ∈ ks
    · rw [decide_eq_true c]
      exact List.any_eq_true.mpr ⟨k, c, by simp⟩
    · rw [decide_eq_false c]
      rw [List.any_eq_false]
      intro j hj
      have : ¬ kI j = kI k := fun z => c (kI_inj z ▸ hj)
      simp [this]
  unfold putK
  rw [e]
  by_cases c : k ∈ ks
  · rw [decide_eq_true c, if_pos rfl, addN_in c, ← h, List.map_map]
    refine List.map_congr_left fun kv _ => ?_
    show (if kv.1 = kI k then (kv.1, v) else kv).1 = kv.1
    split <;> rfl
  · rw [decide_eq_false c, if_neg (by decide), addN_out c, List.map_append, List.map_append, h]; rfl
def spNext (a : Ad) : Sp := fun vs H Q _ => ∃ (G : Hp) (c q : Addr) (m : Maps) (ns : List Nat) (p : Ue09.Keys), vs = [.ref c, .ref q] ∧ Same G H ∧ CAt a G H c m ns ∧ H q = some (.tup (iv p)) ∧ p.length ≤ 3 ∧ OkM m ∧ ns.length ≤ 6 ∧
  ∀ H' r l, Same H H' → H' r = some (.lst (iv l)) → l.Pairwise (· ≤ ·) → l.Nodup → (∀ k, k ∈ l ↔ nxt m ns p k = true) → Q (.ref r) H'
theorem nxt_app (m : Maps) (ns : List Nat) (n : Nat) (p : Ue09.Keys) (k : Nat) : nxt m (ns ++ [n]) p k = (nxt m ns p k || (mapAt m n).bindings.any fun b => b.seq.take (p.length + 1) == p ++ [k]) := by
  unfold nxt
  rw [List.any_append, List.any_cons, List.any_nil, Bool.or_false]
section
variable {P : Program} {w : World} {K : PySem.W.Frag} {mg : Str → Option Value} {base : Heap} {a : Ad}
theorem ok_next (T : Txt K mg a) : FnOk P w K mg base CX0 1 a.f_next_keys a.fd_next_keys ["counting", "beginning"] (spNext a) := by
  refine T.F_next_keys.ok sc_next_keys (fun vs H Q E h => ?_) (fun cdv A outer s H vs Q E hr h => ⟨(d_next_keys T hr).1, (d_next_keys T hr).2, ?_⟩)
  · obtain ⟨_, _, _, _, _, _, rfl, _⟩ := h
    rfl
  obtain ⟨G, c, q, M, ns, p, rfl, sG, ⟨xs, hc, hpG⟩, hq, hp3, okM, hn6, qk⟩ := h
  have hp : Paired (fun (y : Addr × Addr) n => MapAt a H y.1 y.2 n (mapAt M n)) xs ns := Paired.imp (fun _ _ z => z.same sG) hpG
  -- length = len(beginning)
  refine ⟨_, rfl, q, _, rfl, .inr (SqT.of hq), ?_⟩
  rw [iv_len]
  -- found = {}
  intro f hf
  have s0 : Same H (upd H f (.dK [])) := same_new hf
  refine ⟨_, rfl, c, rfl, ⟨_, SqL.of (s0 _ _ hc)⟩, ?_⟩
  refine for_list (K := K) (a := c) (xs := xs.map fun y => V.ref y.1) (fun i σ H' => Same H H' ∧ ∃ (o1 o2 : Option V) (kvs : List (L2.Key × V)) (ks : List Nat), σ = [some (.ref c), some (.ref q), some (.int (p.length : Int)), some (.ref f), o1, o2] ∧
      H' f = some (.dK kvs) ∧ kvs.map (·.1) = ks.map kI ∧ ks.Nodup ∧ (∀ k, k ∈ ks ↔ nxt M (ns.take i) p k = true) ∧ ks.length ≤ 20 * i)
    ⟨s0, none, none, [], [], rfl, upd_same, rfl, List.nodup_nil, fun k => ⟨fun z => (nomatch z), fun z => (by rw [List.take_zero] at z; cases z)⟩, Nat.zero_le _⟩ (fun i σ H' _ ⟨z, _⟩ => SqL.of (z _ _ hc)) ?_ ?_
  · rintro i y σ H1 hi ⟨s1, o1, o2, kvf, ks, rfl, hf1, hks, hnd, hmem, hlen⟩
    rw [List.getElem?_map] at hi
    obtain ⟨⟨pm, d⟩, hx, rfl⟩ := Option.map_eq_some_iff.mp hi
    obtain ⟨n, hm, dx, kvs, h1, h2, h3⟩ := Paired.getl hp hx
    have hi6 : i < ns.length := (List.getElem?_eq_some_iff.mp hm).1
    have npd : pm ≠ d := ne_of h1 h2 (fun z => nomatch z)
    have nfd : f ≠ d := (ne_of_none h2 hf).symm
    -- for sequence in key_map.bindings, locked
    refine ⟨d, .dT kvs, s1 _ _ h2, trivial, fun od => ?_⟩
    refine ⟨_, rfl, pm, a.C_KeyMap, dx, _, _, rfl, (by rw [upd_ne npd]; exact s1 _ _ h1), T.c_KeyMap, T.no_KeyMap_bindings, lk_KeyMap_bindings, d, od, rfl, .inr ⟨kvs, upd_same, ?_⟩⟩
    refine for_it walk_keysT (fun j σ H' => (∀ b o, H b = some o → b ≠ d → H' b = some o) ∧ H' d = some (.frz od (.dT kvs)) ∧ ∃ (o2 : Option V) (kvf : List (L2.Key × V)) (ks : List Nat), σ = [some (.ref c), some (.ref q), some (.int (p.length : Int)), some (.ref f), some (.ref pm), o2] ∧
        H' f = some (.dK kvf) ∧ kvf.map (·.1) = ks.map kI ∧ ks.Nodup ∧ (∀ k, k ∈ ks ↔ (nxt M (ns.take i) p k || ((mapAt M n).bindings.take j).any fun b => b.seq.take (p.length + 1) == p ++ [k]) = true) ∧ ks.length ≤ 20 * i + j)
      ⟨fun b o e nb => by rw [upd_ne nb]; exact s1 _ _ e, upd_same, o2, kvf, ks, rfl, by rw [upd_ne nfd]; exact hf1, hks, hnd, fun k => by rw [List.take_zero, List.any_nil, Bool.or_false]; exact hmem k, hlen⟩ (fun j σ H' _ z => z.2.1) ?_ ?_
    · rintro j y σ H2 H2' hj ⟨kp, hd2, o3, kvf, ks, rfl, hf2, hks, hnd, hmem, hlen⟩ ⟨rfl, k, v, qk2, hk, rfl, hqk⟩
      obtain ⟨b, hb, ek, o4, e4, hB⟩ := Paired.getl h3 hk
      have ek : k = kOf b.seq := ek
      subst ek
      rw [kOf_kV] at hqk
      have hj20 : j < 20 := Nat.lt_of_lt_of_le (List.getElem?_eq_some_iff.mp hb).1 (okM.many n)
      have hl4 := (seqOk_len (okM.all n b (List.mem_of_getElem? hb)).seq).2
      have hq2 : H2' q = some (.tup (iv p)) := kp _ _ hq (ne_of hq h2 (fun z => nomatch z))
      have btake := take_at hb
      have hno : ¬ (p.length < b.seq.length ∧ b.seq.take p.length = p) → ∀ k, k ∈ ks ↔ (nxt M (ns.take i) p k || ((mapAt M n).bindings.take (j + 1)).any fun b => b.seq.take (p.length + 1) == p ++ [k]) = true := fun z k => by
        rw [btake, List.any_append, List.any_cons, nk_no z, hmem k]; simp
      -- if len(sequence) > length and sequence[:length] == beginning
      refine ⟨_, rfl, qk2, _, rfl, .inr (SqT.of hqk), _, rfl, _, _, rfl, rfl, _, rfl, ?_⟩
      rw [iv_len]
      refine ite2 (fun hd => ?_) (fun hd => ?_)
      · have hlt : p.length < b.seq.length := by
          have := of_decide_eq_true hd
          omega
        refine ⟨_, rfl, _, rfl, _, rfl, qk2, _, rfl, SqT.of hqk, fun z => ?_, fun _ pn hpn => ?_⟩
        · exfalso
          have z2 := z.2
          rw [iv_len, HT.sIx_nat] at z2
          omega
        · rw [cut_to _ _ (by rw [iv_len]; omega), iv_take]
          have s3 : Same H2' (upd H2' pn (.tup (iv (b.seq.take p.length)))) := same_new hpn
          refine ⟨_, rfl, .tuple (pdt (b.seq.take p.length)), .tuple (pdt p), .tup (SqT.of upd_same) (dpAll _), .tup (SqT.of (s3 _ _ hq2)) (dpAll _), pd_shaped _, pd_shaped _, _, rfl, ?_⟩
          have kp3 : ∀ b' o, H b' = some o → b' ≠ d → (upd H2' pn (.tup (iv (b.seq.take p.length)))) b' = some o := fun b' o e nb => s3 _ _ (kp _ _ e nb)
          have ehead : PyData.eqv (.tuple (pdt (b.seq.take p.length))) (.tuple (pdt p)) = decide (b.seq.take p.length = p) := by
            rw [PyData.eqv, pd_eqv]
          rw [ehead]
          by_cases c2 : b.seq.take p.length = p
          · rw [decide_eq_true c2]
            refine iteT ?_
            obtain ⟨k0, hk0⟩ : ∃ k0, b.seq[p.length]? = some k0 := ⟨b.seq[p.length], List.getElem?_eq_getElem hlt⟩
            have ik0 : (iv b.seq)[p.length]? = some (.int (k0 : Int)) := by rw [iv_get, hk0]; rfl
            have hf3 := s3 _ _ hf2
            -- found[sequence[length]] = True
            refine ⟨_, rfl, _, rfl, _, rfl, qk2, _, _, _, rfl, rfl, SqT.of (s3 _ _ hqk), atI_nat ik0, ?_⟩
            have hkl : kvf.length = ks.length := by
              have := congrArg List.length hks
              rw [List.length_map, List.length_map] at this
              exact this
            refine ⟨f, _, rfl, DPut.k (k := kI k0) hf3 (by rw [hkl]; exact Nat.lt_of_le_of_lt (show _ ≤ 200 by omega) (by decide)), ?_⟩
            refine ⟨fun b' o e nb => ?_, ?_, _, _, addN ks k0, rfl, upd_same, put_keys k0 _ hks, ?_, fun k => ?_, ?_⟩
            · rw [upd_ne (ne_of_none e hf)]; exact kp3 _ _ e nb
            · rw [upd_ne nfd.symm]; exact s3 _ _ hd2
            · have := fold_nodup [k0] ks hnd
              exact this
            · have e1 := fold_mem [k0] ks k
              have e2 : (k ∈ addN ks k0 ↔ k ∈ ks ∨ k ∈ [k0]) := e1
              rw [e2, hmem k, btake, List.any_append, List.any_cons, List.any_nil, nk_yes c2 hk0]
              simp [or_assoc]
            · have := fold_len [k0] ks
              have e2 : (addN ks k0).length ≤ ks.length + 1 := this
              omega
          · rw [decide_eq_false c2]
            refine iteF ?_
            exact ⟨kp3, s3 _ _ hd2, _, kvf, ks, rfl, s3 _ _ hf2, hks, hnd, hno (fun z => c2 z.2), by omega⟩
      · have hlt : ¬ p.length < b.seq.length := fun z => hd (decide_eq_true (by omega))
        refine iteF ?_
        exact ⟨kp, hd2, _, kvf, ks, rfl, hf2, hks, hnd, hno (fun z => hlt z.1), by omega⟩
    · rintro σ H2 ⟨kp, hd2, o3, kvf, ks, rfl, hf2, hks, hnd, hmem, hlen⟩
      have hbl : kvs.length = (mapAt M n).bindings.length := Paired.length h3
      have h20 := okM.many n
      refine ⟨hd2, fun b' o e => ?_, _, _, kvf, ks, rfl, by rw [upd_ne nfd]; exact hf2, hks, hnd, fun k => ?_, by omega⟩
      · by_cases nb : b' = d
        · subst nb
          rw [upd_same, ← h2, e]
        · rw [upd_ne nb]
          exact kp _ _ e nb
      · rw [hmem k, take_at hm, nxt_app, hbl, List.take_length]
  · rintro σ H1 ⟨s1, o1, o2, kvf, ks, rfl, hf1, hks, hnd, hmem, hlen⟩
    have hxl : xs.length = ns.length := Paired.length hp
    rw [List.length_map, hxl, List.take_length] at hmem
    -- return sorted(found)
    refine ⟨_, rfl, f, kvf, ks.map fun (n : Nat) => (n : Int), rfl, hf1, (by rw [hks, List.map_map]; rfl), fun ys r perm rise nr => ?_⟩
    have hys : ∀ y ∈ ys, ∃ k : Nat, k ∈ ks ∧ y = (k : Int) := fun y hy => by
      obtain ⟨k, hk, e⟩ := List.mem_map.mp (perm.mem_iff.mp hy)
      exact ⟨k, hk, e.symm⟩
    have ey : ys.map V.int = iv (ys.map Int.toNat) := by
      unfold iv
      rw [List.map_map]
      refine List.map_congr_left fun y hy => ?_
      obtain ⟨k, _, e⟩ := hys y hy
      subst e
      rfl
    rw [ey]
    have hback : (ys.map Int.toNat).Perm ks := by
      have := perm.map Int.toNat
      rw [List.map_map] at this
      have e2 : ks.map (Int.toNat ∘ fun (n : Nat) => (n : Int)) = ks := by
        have : (Int.toNat ∘ fun (n : Nat) => (n : Int)) = id := by funext x; exact Int.toNat_natCast x
        rw [this, List.map_id]
      rw [e2] at this
      exact this
    refine qk _ r _ (s1.trans (same_new nr)) upd_same ?_ ?_ fun k => ?_
    · exact List.pairwise_map.mpr (rise.imp fun {x y} h => Int.toNat_le_toNat h)
    · exact hback.nodup_iff.mpr hnd
    · rw [hback.mem_iff]; exact hmem k
end
end Km

namespace Km
open PySem PySem.Spec PyProof.Rows L2
open Ue09 (Maps Map_ Binding mapAt counted isHead goesOn waits longest distinct)

def SeqT (H : Hp) (t : Addr) (s : Ue09.Keys) : Prop := H t = some (.tup (iv s))
def PairAt (H : Hp) (t : Addr) (x : Nat × Ue09.Keys) : Prop := ∃ q, H t = some (.tup [.int (x.1 : Int), .ref q]) ∧ H q = some (.tup (iv x.2))
theorem same_evk {H H' : Hp} (s : Same H H') : EvKeep H H' := fun b _ e => s b _ e
theorem seqT_keep {H H' : Hp} (k : EvKeep H H') {ts : List Addr} {l : List Ue09.Keys} (h : Paired (SeqT H) ts l) : Paired (SeqT H') ts l := Paired.imp (fun t _ x => k t _ x) h
theorem pairAt_keep {H H' : Hp} (k : EvKeep H H') {ts : List Addr} {l : List (Nat × Ue09.Keys)} (h : Paired (PairAt H) ts l) : Paired (PairAt H') ts l :=
  Paired.imp (fun t _ ⟨q, h1, h2⟩ => ⟨q, k t _ h1, k q _ h2⟩) h
/-- the sequences of some maps that these bind -/
def part (m : Maps) (ns as : List Nat) : List Ue09.Keys := as.flatMap fun n => ((mapAt m n).bindings.filter fun b => bby m ns n b.seq).map fun b => b.seq
def partH (m : Maps) (ns as : List Nat) : List (Nat × Ue09.Keys) := as.flatMap fun n => ((mapAt m n).bindings.filter fun b => hid m ns n b.seq).map fun b => (n, b.seq)
theorem part_app (m : Maps) (ns as : List Nat) (n : Nat) : part m ns (as ++ [n]) = part m ns as ++ ((mapAt m n).bindings.filter fun b => bby m ns n b.seq).map fun b => b.seq := by
  unfold part
  rw [List.flatMap_append, List.flatMap_cons, List.flatMap_nil, List.append_nil]
theorem partH_app (m : Maps) (ns as : List Nat) (n : Nat) : partH m ns (as ++ [n]) = partH m ns as ++ ((mapAt m n).bindings.filter fun b => hid m ns n b.seq).map fun b => (n, b.seq) := by
  unfold partH
  rw [List.flatMap_append, List.flatMap_cons, List.flatMap_nil, List.append_nil]
def spSeqs (a : Ad) : Sp := fun vs H Q _ => ∃ (G : Hp) (c : Addr) (m : Maps) (ns : List Nat), vs = [.ref c] ∧ Same G H ∧ CAt a G H c m ns ∧ OkM m ∧ ns.length ≤ 6 ∧
  ∀ H' r ts, Same H H' → H r = none → H' r = some (.lst (ts.map V.ref)) → Paired (SeqT H') ts (seqs m ns) → (seqs m ns).length ≤ 200 → Q (.ref r) H'
def spHiddenS (a : Ad) : Sp := fun vs H Q _ => ∃ (G : Hp) (L U : Addr) (ps ds : List Addr) (m : Maps), vs = [.ref L, .ref U] ∧ Same G H ∧ MapsAt a G L ps ds m.all ∧ H U = some (.lst (iv m.use)) ∧ OkM m ∧
  ∀ H' r ts, Same H H' → H' r = some (.lst (ts.map V.ref)) → Paired (PairAt H') ts (Ue09.hiddenOf m) → (Ue09.hiddenOf m).length ≤ 200 → Q (.ref r) H'
section
variable {P : Program} {w : World} {K : PySem.W.Frag} {mg : Str → Option Value} {base : Heap} {a : Ad}
theorem ok_seqs (T : Txt K mg a) : FnOk P w K mg base CX0 3 a.f_bound_sequences a.fd_bound_sequences ["counting"] (spSeqs a) := by
  refine T.F_bound_sequences.ok sc_bound_sequences (fun vs H Q E h => ?_) (fun cdv A outer s H vs Q E hr h => ⟨(d_bound_sequences T (ok_by T) hr).1, (d_bound_sequences T (ok_by T) hr).2, ?_⟩)
  · obtain ⟨_, _, _, _, rfl, _⟩ := h
    rfl
  obtain ⟨G, c, M, ns, rfl, sG, hC, okM, hn6, qk⟩ := h
  obtain ⟨xs, hc, hpG⟩ := id hC
  have hp : Paired (fun (y : Addr × Addr) n => MapAt a H y.1 y.2 n (mapAt M n)) xs ns := Paired.imp (fun _ _ z => z.same sG) hpG
  -- sequences = []
  refine ⟨(by show 0 ≤ sizeLine; decide), fun f hf => ?_⟩
  have s0 : Same H (upd H f (.lst [])) := same_new hf
  refine ⟨_, rfl, c, rfl, ⟨_, SqL.of (s0 _ _ hc)⟩, ?_⟩
  refine for_list (K := K) (a := c) (xs := xs.map fun y => V.ref y.1) (fun i σ H' => Same H H' ∧ ∃ (o1 o2 : Option V) (ts : List Addr), σ = [some (.ref c), some (.ref f), o1, o2] ∧
      H' f = some (.lst (ts.map V.ref)) ∧ Paired (SeqT H') ts (part M ns (ns.take i)) ∧ ts.length ≤ 20 * i)
    ⟨s0, none, none, [], rfl, upd_same, by rw [List.take_zero]; exact .nil, Nat.zero_le _⟩ (fun i σ H' _ ⟨z, _⟩ => SqL.of (z _ _ hc)) ?_ ?_
  · rintro i y σ H1 hi ⟨s1, o1, o2, ts, rfl, hf1, hts, hlen⟩
    rw [List.getElem?_map] at hi
    obtain ⟨⟨pm, d⟩, hx, rfl⟩ := Option.map_eq_some_iff.mp hi
    obtain ⟨n, hm, dx, kvs, h1, h2, h3⟩ := Paired.getl hp hx
    obtain ⟨n', hm', hmapG⟩ := Paired.getl hpG hx
    have en : n' = n := by rw [hm] at hm'; exact (Option.some.inj hm').symm
    subst en
    have hi6 : i < ns.length := (List.getElem?_eq_some_iff.mp hm).1
    have npd : pm ≠ d := ne_of h1 h2 (fun z => nomatch z)
    have nfd : f ≠ d := (ne_of_none h2 hf).symm
    -- for sequence in key_map.bindings, locked
    refine ⟨d, .dT kvs, s1 _ _ h2, trivial, fun od => ?_⟩
    refine ⟨_, rfl, pm, a.C_KeyMap, dx, _, _, rfl, (by rw [upd_ne npd]; exact s1 _ _ h1), T.c_KeyMap, T.no_KeyMap_bindings, lk_KeyMap_bindings, d, od, rfl, .inr ⟨kvs, upd_same, ?_⟩⟩
    refine for_it walk_keysT (fun j σ H' => (∀ b o, H b = some o → b ≠ d → H' b = some o) ∧ H' d = some (.frz od (.dT kvs)) ∧ ∃ (o2 : Option V) (ts : List Addr), σ = [some (.ref c), some (.ref f), some (.ref pm), o2] ∧
        H' f = some (.lst (ts.map V.ref)) ∧ Paired (SeqT H') ts (part M ns (ns.take i) ++ (((mapAt M n').bindings.take j).filter fun b => bby M ns n' b.seq).map fun b => b.seq) ∧ ts.length ≤ 20 * i + j)
      ⟨fun b o e nb => by rw [upd_ne nb]; exact s1 _ _ e, upd_same, o2, ts, rfl, by rw [upd_ne nfd]; exact hf1, by rw [List.take_zero, List.filter_nil, List.map_nil, List.append_nil]; exact seqT_keep (evk_upd (s1 _ _ h2) (fun _ z => nomatch z)) hts, hlen⟩ (fun j σ H' _ z => z.2.1) ?_ ?_
    · rintro j y σ H2 H2' hj ⟨kp, hd2, o3, ts, rfl, hf2, hts, hlen⟩ ⟨rfl, k, v, qk2, hk, rfl, hqk⟩
      obtain ⟨b, hb, ek, o4, e4, hB⟩ := Paired.getl h3 hk
      have ek : k = kOf b.seq := ek
      subst ek
      rw [kOf_kV] at hqk
      have hj20 : j < 20 := Nat.lt_of_lt_of_le (List.getElem?_eq_some_iff.mp hb).1 (okM.many n')
      have btake := take_at hb
      have hcL : CAt a G H2' c M ns := ⟨xs, kp _ _ hc (ne_of hc h2 (fun z => nomatch z)), hpG⟩
      -- if bound_by(counting, key_map, sequence)
      refine ⟨_, rfl, _, rfl, _, rfl, G, c, pm, d, qk2, M, ns, n', _, b.seq, rfl, Dry.lock sG kp h2 hd2, hcL, hmapG, hqk, _, rfl, ?_⟩
      cases e : bby M ns n' b.seq with
      | true =>
        refine iteT ?_
        refine ⟨_, rfl, .inl ⟨rfl, _, SqL.of hf2⟩, _, rfl, f, _, _, rfl, rfl, hf2, (by rw [List.length_map]; exact Nat.lt_of_le_of_lt (show _ ≤ 200 by omega) (by decide)), ?_⟩
        have kE : EvKeep H2' (upd H2' f (.lst (ts.map V.ref ++ [V.ref qk2]))) := evk_upd hf2 (fun _ z => nomatch z)
        refine ⟨fun b' o e nb => ?_, ?_, _, ts ++ [qk2], rfl, ?_, ?_, ?_⟩
        · rw [upd_ne (ne_of_none e hf)]; exact kp _ _ e nb
        · rw [upd_ne nfd.symm]; exact hd2
        · rw [upd_same, List.map_append]; rfl
        · rw [btake, List.filter_append, List.map_append, ← List.append_assoc, List.filter_cons_of_pos (by exact e)]
          exact Paired.snoc (seqT_keep kE hts) (kE _ _ hqk)
        · rw [List.length_append, List.length_singleton]; omega
      | false =>
        refine iteF ?_
        refine ⟨kp, hd2, _, ts, rfl, hf2, ?_, by omega⟩
        rw [btake, List.filter_append, List.filter_cons_of_neg (by rw [e]; decide), List.filter_nil, List.append_nil]
        exact hts
    · rintro σ H2 ⟨kp, hd2, o3, ts, rfl, hf2, hts, hlen⟩
      have hbl : kvs.length = (mapAt M n').bindings.length := Paired.length h3
      have h20 := okM.many n'
      refine ⟨hd2, fun b' o e => ?_, _, _, ts, rfl, by rw [upd_ne nfd]; exact hf2, ?_, by omega⟩
      · by_cases nb : b' = d
        · subst nb
          rw [upd_same, ← h2, e]
        · rw [upd_ne nb]
          exact kp _ _ e nb
      · rw [take_at hm, part_app]
        rw [hbl, List.take_length] at hts
        exact seqT_keep (evk_upd hd2 (fun _ z => nomatch z)) hts
  · rintro σ H1 ⟨s1, o1, o2, ts, rfl, hf1, hts, hlen⟩
    have hxl : xs.length = ns.length := Paired.length hp
    rw [List.length_map, hxl, List.take_length] at hts
    have hts : Paired (SeqT H1) ts (seqs M ns) := hts
    rw [List.length_map, hxl] at hlen
    exact ⟨_, rfl, qk _ f ts s1 hf hf1 hts (by rw [← Paired.length hts]; omega)⟩
theorem ok_hiddenS (T : Txt K mg a) : FnOk P w K mg base CX0 5 a.f_hidden_sequences a.fd_hidden_sequences ["maps", "in_use"] (spHiddenS a) := by
  refine T.F_hidden_sequences.ok sc_hidden_sequences (fun vs H Q E h => ?_) (fun cdv A outer s H vs Q E hr h => ⟨(d_hidden_sequences T (ok_inUse T) (ok_cut T) (ok_by T) (ok_counting T) hr).1, (d_hidden_sequences T (ok_inUse T) (ok_cut T) (ok_by T) (ok_counting T) hr).2, ?_⟩)
  · obtain ⟨_, _, _, _, _, _, rfl, _⟩ := h
    rfl
  obtain ⟨G, L, U, ps, ds, M, rfl, sG, hM, hU, okM, qk⟩ := h
  have hlt : ∀ n ∈ M.use, n < M.all.length := fun n hn => by rw [okM.len]; exact okM.use n hn
  rw [hidden_cn okM] at qk
  have qk : ∀ H' r ts, Same H H' → H' r = some (.lst (ts.map V.ref)) → Paired (PairAt H') ts (partH M (cn M) (distinct M.use)) → (partH M (cn M) (distinct M.use)).length ≤ 200 → Q (.ref r) H' := qk
  -- counting = counting_maps(maps, in_use)
  refine ⟨_, rfl, _, rfl, G, L, U, ps, ds, M, rfl, sG, hM, hU, hlt, okM.use6, fun Ha c sa nc hC => ?_⟩
  -- found = []
  refine ⟨(by show 0 ≤ sizeLine; decide), fun f hf => ?_⟩
  have sb : Same Ha (upd Ha f (.lst [])) := same_new hf
  have sab := sa.trans sb
  -- for key_map in maps_in_use(maps, in_use)
  refine ⟨_, rfl, _, rfl, G, L, U, ps, ds, M, rfl, sG.trans sab, hM, sab _ _ hU, hlt, okM.use6, fun Hb u s2 nu ⟨xs, hu, hpG⟩ => ?_⟩
  have hCb := hC.grow (sb.trans s2)
  obtain ⟨ys, hcb, hyG⟩ := id hCb
  have hfb : Hb f = some (.lst []) := s2 _ _ upd_same
  have nuf : u ≠ f := (ne_of_none upd_same nu).symm
  have hfG : G f = none := same_none (sG.trans sa) hf
  have sGb : Same G Hb := (sG.trans sab).trans s2
  have hsHb : Same H Hb := sab.trans s2
  have hfH : H f = none := same_none sa hf
  have hcf : c ≠ f := ne_of_none hC.choose_spec.1 hf
  have hp : Paired (fun (y : Addr × Addr) n => MapAt a Hb y.1 y.2 n (mapAt M n)) xs (distinct M.use) := Paired.imp (fun _ _ z => z.same sGb) hpG
  -- all but found stays
  let KpB : Hp → Prop := fun H' => ∀ b o, Hb b = some o → b ≠ f → H' b = some o
  refine ⟨u, rfl, ⟨_, SqL.of hu⟩, ?_⟩
  refine for_list (K := K) (a := u) (xs := xs.map fun y => V.ref y.1) (fun i σ H' => (∀ b o, Hb b = some o → b ≠ f → H' b = some o) ∧ ∃ (o1 o2 : Option V) (ts : List Addr), σ = [some (.ref L), some (.ref U), some (.ref c), some (.ref f), o1, o2] ∧
      H' f = some (.lst (ts.map V.ref)) ∧ Paired (PairAt H') ts (partH M (cn M) ((distinct M.use).take i)) ∧ ts.length ≤ 20 * i)
    ⟨fun b o e _ => e, none, none, [], rfl, hfb, by rw [List.take_zero]; exact .nil, Nat.zero_le _⟩ (fun i σ H' _ ⟨z, _⟩ => SqL.of (z _ _ hu nuf)) ?_ ?_
  · rintro i y σ H1 hi ⟨s1, o1, o2, ts, rfl, hf1, hts, hlen⟩
    rw [List.getElem?_map] at hi
    obtain ⟨⟨pm, d⟩, hx, rfl⟩ := Option.map_eq_some_iff.mp hi
    obtain ⟨n, hm, dx, kvs, h1, h2, h3⟩ := Paired.getl hp hx
    obtain ⟨n', hm', hmapG⟩ := Paired.getl hpG hx
    have en : n' = n := by rw [hm] at hm'; exact (Option.some.inj hm').symm
    subst en
    have hi6 : i < (distinct M.use).length := (List.getElem?_eq_some_iff.mp hm).1
    have hd6 : (distinct M.use).length ≤ 6 := Nat.le_trans (distinct_len _) okM.use6
    have npd : pm ≠ d := ne_of h1 h2 (fun z => nomatch z)
    have npf : pm ≠ f := ne_of h1 hfb (fun z => nomatch z)
    have nfd : f ≠ d := ne_of hfb h2 (fun z => nomatch z)
    have g2 : H1 d = some (.dT kvs) := s1 _ _ h2 nfd.symm
    have g1 := s1 _ _ h1 npf
    -- for sequence in key_map.bindings, locked
    refine ⟨d, .dT kvs, g2, trivial, fun od => ?_⟩
    refine ⟨_, rfl, pm, a.C_KeyMap, dx, _, _, rfl, (by rw [upd_ne npd]; exact g1), T.c_KeyMap, T.no_KeyMap_bindings, lk_KeyMap_bindings, d, od, rfl, .inr ⟨kvs, upd_same, ?_⟩⟩
    refine for_it walk_keysT (fun j σ H' => (∀ b o, Hb b = some o → b ≠ f → b ≠ d → H' b = some o) ∧ H' d = some (.frz od (.dT kvs)) ∧ ∃ (o2 : Option V) (ts : List Addr), σ = [some (.ref L), some (.ref U), some (.ref c), some (.ref f), some (.ref pm), o2] ∧
        H' f = some (.lst (ts.map V.ref)) ∧ Paired (PairAt H') ts (partH M (cn M) ((distinct M.use).take i) ++ (((mapAt M n').bindings.take j).filter fun b => hid M (cn M) n' b.seq).map fun b => (n', b.seq)) ∧ ts.length ≤ 20 * i + j)
      ⟨fun b o e nf nb => by rw [upd_ne nb]; exact s1 _ _ e nf, upd_same, o2, ts, rfl, by rw [upd_ne nfd]; exact hf1, by rw [List.take_zero, List.filter_nil, List.map_nil, List.append_nil]; exact pairAt_keep (evk_upd g2 (fun _ z => nomatch z)) hts, hlen⟩ (fun j σ H' _ z => z.2.1) ?_ ?_
    · rintro j y σ H2 H2' hj ⟨kp, hd2, o3, ts, rfl, hf2, hts, hlen⟩ ⟨rfl, k, v, qk2, hk, rfl, hqk⟩
      obtain ⟨b, hb, ek, o4, e4, hB⟩ := Paired.getl h3 hk
      have ek : k = kOf b.seq := ek
      subst ek
      rw [kOf_kV] at hqk
      have hj20 : j < 20 := Nat.lt_of_lt_of_le (List.getElem?_eq_some_iff.mp hb).1 (okM.many n')
      have hl4 := (seqOk_len (okM.all n' b (List.mem_of_getElem? hb)).seq).2
      have btake := take_at hb
      have dry : Dry G H2' := fun b' o e => by
        have nbf : b' ≠ f := fun z => by rw [z, hfG] at e; cases e
        by_cases nb : b' = d
        · subst nb
          have e2 := sGb _ _ e
          rw [h2] at e2
          cases e2
          exact .inr ⟨kvs, od, rfl, hd2⟩
        · exact .inl (kp _ _ (sGb _ _ e) nbf nb)
      have hcL : CAt a G H2' c M (cn M) := ⟨ys, kp _ _ hcb hcf (ne_of hcb h2 (fun z => nomatch z)), hyG⟩
      have hpm2 : ∀ H3, Same H2' H3 → H3 pm = some (.ins a.C_KeyMap dx (fl_KeyMap (.int (n' : Int)) (b2 (mapAt M n').shut) (.ref d))) := fun H3 s3 => s3 _ _ (kp _ _ h1 npf npd)
      -- the pair told
      have fin : ∀ H3, Same H2' H3 → hid M (cn M) n' b.seq = true → ∀ t, H3 t = none →
          let H4 := upd (upd H3 t (.tup [.int (n' : Int), .ref qk2])) f (.lst (ts.map V.ref ++ [V.ref t]))
          (∀ b o, Hb b = some o → b ≠ f → b ≠ d → H4 b = some o) ∧ H4 d = some (.frz od (.dT kvs)) ∧ ∃ (o2 : Option V) (ts : List Addr), [some (V.ref L), some (.ref U), some (.ref c), some (.ref f), some (.ref pm), some (.ref qk2)] = [some (V.ref L), some (.ref U), some (.ref c), some (.ref f), some (.ref pm), o2] ∧
            H4 f = some (.lst (ts.map V.ref)) ∧ Paired (PairAt H4) ts (partH M (cn M) ((distinct M.use).take i) ++ (((mapAt M n').bindings.take (j + 1)).filter fun b => hid M (cn M) n' b.seq).map fun b => (n', b.seq)) ∧ ts.length ≤ 20 * i + (j + 1) := by
        intro H3 s3 e t nt
        have f3 : (upd H3 t (.tup [.int (n' : Int), .ref qk2])) f = some (.lst (ts.map V.ref)) := same_new nt _ _ (s3 _ _ hf2)
        have kE : EvKeep H2' (upd (upd H3 t (.tup [.int (n' : Int), .ref qk2])) f (.lst (ts.map V.ref ++ [V.ref t]))) := fun b' xs e' => evk_upd f3 (fun _ z => nomatch z) _ _ (same_new nt _ _ (s3 _ _ e'))
        have ntf : t ≠ f := (ne_of_none (s3 _ _ hf2) nt).symm
        refine ⟨fun b' o e' nf nb => ?_, ?_, _, ts ++ [t], rfl, ?_, ?_, ?_⟩
        · rw [upd_ne nf]; exact same_new nt _ _ (s3 _ _ (kp _ _ e' nf nb))
        · rw [upd_ne nfd.symm]; exact same_new nt _ _ (s3 _ _ hd2)
        · rw [upd_same, List.map_append]; rfl
        · rw [btake, List.filter_append, List.map_append, ← List.append_assoc, List.filter_cons_of_pos (by exact e)]
          exact Paired.snoc (pairAt_keep kE hts) ⟨qk2, by rw [upd_ne ntf]; exact upd_same, kE _ _ hqk⟩
        · rw [List.length_append, List.length_singleton]; omega
      have hlf : (ts.map V.ref).length < sizeLine := by rw [List.length_map]; exact Nat.lt_of_le_of_lt (show _ ≤ 200 by omega) (by decide)
      -- if not bound_by(counting, key_map, sequence) or cut_short(counting, sequence)
      refine ⟨_, rfl, _, rfl, _, rfl, G, c, pm, d, qk2, M, cn M, n', _, b.seq, rfl, dry, hcL, hmapG, hqk, _, rfl, ?_⟩
      cases e : bby M (cn M) n' b.seq with
      | false =>
        refine iteT ?_
        refine ⟨_, rfl, .inl ⟨rfl, _, SqL.of hf2⟩, _, rfl, pm, a.C_KeyMap, dx, _, _, rfl, hpm2 _ (Same.refl _), T.c_KeyMap, T.no_KeyMap_number, lk_KeyMap_number, _, rfl, (by show 2 ≤ sizeLine; decide), fun t nt => ?_⟩
        refine ⟨f, _, _, rfl, rfl, same_new nt _ _ hf2, hlf, ?_⟩
        exact fin _ (Same.refl _) (by unfold hid; rw [e]; rfl) t nt
      | true =>
        refine iteF ?_
        refine ⟨_, rfl, _, rfl, G, c, qk2, M, cn M, b.seq, rfl, dry, hcL, hqk, hl4, fun H3 s3 => ⟨_, rfl, ?_⟩⟩
        cases e2 : cut M (cn M) b.seq with
        | true =>
          refine iteT ?_
          refine ⟨_, rfl, .inl ⟨rfl, _, SqL.of (s3 _ _ hf2)⟩, _, rfl, pm, a.C_KeyMap, dx, _, _, rfl, hpm2 _ s3, T.c_KeyMap, T.no_KeyMap_number, lk_KeyMap_number, _, rfl, (by show 2 ≤ sizeLine; decide), fun t nt => ?_⟩
          refine ⟨f, _, _, rfl, rfl, same_new nt _ _ (s3 _ _ hf2), hlf, ?_⟩
          exact fin _ s3 (by unfold hid; rw [e2]; simp) t nt
        | false =>
          refine iteF ?_
          refine ⟨fun b' o e' nf nb => s3 _ _ (kp _ _ e' nf nb), s3 _ _ hd2, _, ts, rfl, s3 _ _ hf2, ?_, by omega⟩
          have ef : hid M (cn M) n' b.seq = false := by unfold hid; rw [e, e2]; rfl
          rw [btake, List.filter_append, List.filter_cons_of_neg (by rw [ef]; decide), List.filter_nil, List.append_nil]
          exact pairAt_keep (same_evk s3) hts
    · rintro σ H2 ⟨kp, hd2, o3, ts, rfl, hf2, hts, hlen⟩
      have hbl : kvs.length = (mapAt M n').bindings.length := Paired.length h3
      have h20 := okM.many n'
      refine ⟨hd2, fun b' o e nf => ?_, _, _, ts, rfl, by rw [upd_ne nfd]; exact hf2, ?_, by omega⟩
      · by_cases nb : b' = d
        · subst nb
          rw [upd_same, ← h2, e]
        · rw [upd_ne nb]
          exact kp _ _ e nf nb
      · rw [take_at hm, partH_app]
        rw [hbl, List.take_length] at hts
        exact pairAt_keep (evk_upd hd2 (fun _ z => nomatch z)) hts
  · rintro σ H1 ⟨s1, o1, o2, ts, rfl, hf1, hts, hlen⟩
    have hxl : xs.length = (distinct M.use).length := Paired.length hp
    have hd6 : (distinct M.use).length ≤ 6 := Nat.le_trans (distinct_len _) okM.use6
    rw [List.length_map, hxl, List.take_length] at hts
    rw [List.length_map, hxl] at hlen
    refine ⟨_, rfl, qk _ f ts (fun b o e => s1 _ _ (hsHb _ _ e) (ne_of_none e hfH)) hf1 hts (by rw [← Paired.length hts]; omega)⟩
end
end Km

namespace Km
open PySem PySem.Spec PyProof.Rows L2
open Ue09 (emit countOf)

/-- emit: kind, number, keys used -/
def spTell (a : Ad) : Sp := fun vs H Q _ => ∃ (G : Hp) (S L : Addr) (x : SR) (r : Ue09.Run) (k v u : Nat), vs = [.ref S, .int (k : Int), .int (v : Int), .int (u : Int)] ∧ SAt a G H S L x r ∧ Dig r.digits ∧ r.events.length < many ∧
  ∀ H' x', SAt a G H' S L x' (emit r k v u) → Q .non H'
theorem count_more {l : List Nat} {i k : Nat} (h : l[i]? = some k) (hk : 48 ≤ k) : ((countOf (l.take (i + 1)) : Nat) : Int) = ((countOf (l.take i) : Nat) : Int) * 10 + (k : Int) - 48 := by
  have e : l.take (i + 1) = l.take i ++ [k] := by rw [List.take_add_one, h]; rfl
  rw [e, countOf, List.foldl_append]
  show ((10 * countOf (l.take i) + (k - 48) : Nat) : Int) = _
  omega
section
variable {P : Program} {w : World} {K : PySem.W.Frag} {mg : Str → Option Value} {base : Heap} {a : Ad}
theorem ok_tell (T : Txt K mg a) : FnOk P w K mg base CX0 1 a.f_KeyStream_tell a.fd_KeyStream_tell ["self", "kind", "number", "used"] (spTell a) := by
  refine T.F_KeyStream_tell.ok sc_KeyStream_tell (fun vs H Q E h => ?_) (fun cdv A outer s H vs Q E hr h => ⟨(d_KeyStream_tell T hr).1, (d_KeyStream_tell T hr).2, ?_⟩)
  · obtain ⟨_, _, _, _, _, _, _, _, rfl, _⟩ := h
    rfl
  obtain ⟨G, S, L, x, r, k, v, u, rfl, h, hd, he, q⟩ := h
  -- count = 0; for digit in self.digits
  refine ⟨_, rfl, S, a.C_KeyStream, x.dx, _, _, rfl, h.ob, T.c_KeyStream, T.no_KeyStream_digits, lk_KeyStream_digits, x.D, rfl, ⟨_, SqL.of h.d⟩, ?_⟩
  refine for_list (K := K) (a := x.D) (xs := iv r.digits) (fun i σ H' => H' = H ∧ ∃ o : Option V, σ = [some (.ref S), some (.int (k : Int)), some (.int (v : Int)), some (.int (u : Int)), some (.int ((countOf (r.digits.take i) : Nat) : Int)), o]) ⟨rfl, none, rfl⟩ (fun i σ H' _ ⟨z, _⟩ => by subst z; exact SqL.of h.d) ?_ ?_
  · rintro i y σ H' hi ⟨rfl, o, rfl⟩
    rw [iv_get] at hi
    obtain ⟨n, hn, rfl⟩ := Option.map_eq_some_iff.mp hi
    have hk := (hd.all n (List.mem_of_getElem? hn)).1
    refine ⟨_, rfl, _, _, rfl, rfl, .inr ⟨by decide, by decide⟩, _, rfl, _, _, rfl, rfl, _, _, rfl, rfl, rfl, some (.int (n : Int)), ?_⟩
    rw [count_more hn hk]
    rfl
  · rintro σ H' ⟨rfl, o, rfl⟩
    rw [iv_len, List.take_length]
    -- self.events.append((kind, number, count, used + len(self.digits)))
    refine ⟨_, rfl, S, a.C_KeyStream, x.dx, _, _, rfl, h.ob, T.c_KeyStream, T.no_KeyStream_events, lk_KeyStream_events, .inl ⟨rfl, _, SqL.of h.e⟩, ?_⟩
    refine ⟨_, rfl, _, rfl, _, rfl, _, rfl, _, rfl, S, a.C_KeyStream, x.dx, _, _, rfl, h.ob, T.c_KeyStream, T.no_KeyStream_digits, lk_KeyStream_digits, x.D, _, rfl, .inl (SqL.of h.d), _, _, rfl, rfl, (by show 4 ≤ sizeLine; decide), fun p hp => ?_⟩
    have h1 := h.new (o := .tup [.int (k : Int), .int (v : Int), .int ((countOf r.digits : Nat) : Int), .int ((u : Int) + ((iv r.digits).length : Int))]) hp
    have et : EvAt (upd H' p (.tup [.int (k : Int), .int (v : Int), .int ((countOf r.digits : Nat) : Int), .int ((u : Int) + ((iv r.digits).length : Int))])) p ⟨k, v, countOf r.digits, u + r.digits.length⟩ := by
      unfold EvAt
      rw [upd_same, iv_len]
      rfl
    have hl : x.ts.length = r.events.length := Paired.length h.ev
    refine ⟨x.E, _, _, rfl, rfl, h1.e, (by rw [List.length_map, hl]; exact Nat.lt_of_lt_of_le he (by decide)), ?_⟩
    have h2 := h1.addE et
    rw [List.map_append] at h2
    -- self.digits = []
    refine ⟨(by show 0 ≤ sizeLine; decide), fun p2 hp2 => ?_⟩
    have h3 := h2.new (o := .lst []) hp2
    have nn := h2.ne_new hp2
    refine ⟨_, rfl, S, a.C_KeyStream, x.dx, _, rfl, h3.ob, T.c_KeyStream, T.no_KeyStream_digits, (by show 7 < 1000; decide), ?_⟩
    exact q _ _ (h3.newD (l := []) upd_same ⟨nn.1, nn.2.1, nn.2.2.2.1, nn.2.2.2.2.1⟩ (same_none h2.sub hp2))
end
end Km

namespace Km
open PySem PySem.Spec PyProof.Rows L2
open Ue09 (emit countOf asIs doing isDigit)

def spDigit (a : Ad) : Sp := fun vs H Q _ => ∃ (G : Hp) (S L : Addr) (x : SR) (r : Ue09.Run) (k : Nat), vs = [.ref S, .int (k : Int)] ∧ SAt a G H S L x r ∧ Q (.bl (isDigit r.digits k)) H
def spAsIs (a : Ad) : Sp := fun vs H Q _ => ∃ (G : Hp) (S L : Addr) (x : SR) (r : Ue09.Run) (k : Nat), vs = [.ref S, .int (k : Int)] ∧ SAt a G H S L x r ∧ Dig r.digits ∧ r.events.length < many ∧
  ∀ H' x', SAt a G H' S L x' (asIs r k) → Q .non H'
/-- keys put for keys -/
def putK1 (r : Ue09.Run) (l : List Nat) (u : Nat) : Ue09.Run := if r.left = 0 then { emit r 2 0 u with queue := [] } else { r with queue := l ++ r.queue, left := r.left - 1 }
def spPutKeys (a : Ad) : Sp := fun vs H Q _ => ∃ (G : Hp) (S L : Addr) (x : SR) (r : Ue09.Run) (p : Addr) (l : List Nat) (u : Nat), vs = [.ref S, .ref p, .int (u : Int)] ∧ SAt a G H S L x r ∧ G p = some (.lst (iv l)) ∧ l.length ≤ 6 ∧
  Dig r.digits ∧ r.events.length < many ∧ r.queue.length < many ∧ ∀ H' x', SAt a G H' S L x' (putK1 r l u) → Q .non H'
/-- keys as they are -/
def plainK (r : Ue09.Run) (l : List Nat) (u : Nat) : Ue09.Run := match l with
  | [] => emit r 4 0 u
  | k :: m => m.foldl (fun s j => emit s 0 j 0) (emit r 0 k u)
def spTellKeys (a : Ad) : Sp := fun vs H Q _ => ∃ (G : Hp) (S L : Addr) (x : SR) (r : Ue09.Run) (p : Addr) (l : List Nat) (u : Nat), vs = [.ref S, .ref p, .int (u : Int)] ∧ SAt a G H S L x r ∧ G p = some (.lst (iv l)) ∧ l.length ≤ 6 ∧
  Dig r.digits ∧ r.events.length + 6 < many ∧ ∀ H' x', SAt a G H' S L x' (plainK r l u) → Q .non H'
def spChange (a : Ad) : Sp := fun vs H Q _ => ∃ (G : Hp) (S L : Addr) (x : SR) (r : Ue09.Run) (p : Addr) (b : Ue09.Binding), vs = [.ref S, .ref p] ∧ SAt a G H S L x r ∧ BindAt a G p b ∧ (code b.target = 3 ∨ code b.target = 4 ∨ code b.target = 5) ∧
  1 ≤ r.maps.use.length ∧ r.maps.use.length ≤ 6 ∧ ∀ H' x', SAt a G H' S L x' { r with maps := Ue09.used r.maps b.target } → Q .non H'
def spCarry (a : Ad) : Sp := fun vs H Q _ => ∃ (G : Hp) (S L : Addr) (x : SR) (r : Ue09.Run) (p : Addr) (b : Ue09.Binding), vs = [.ref S, .ref p, .int (b.seq.length : Int)] ∧ SAt a G H S L x r ∧ BindAt a G p b ∧ OkB b ∧
  1 ≤ r.maps.use.length ∧ r.maps.use.length ≤ 6 ∧ Dig r.digits ∧ r.events.length + 6 < many ∧ r.queue.length < many ∧ ∀ H' x', SAt a G H' S L x' (doing r b) → Q .non H'
theorem seq0 {n : Nat} (h : 0 < n) : seqIndex? 0 n = some 0 := by
  unfold seqIndex?
  simp
  omega
section
variable {P : Program} {w : World} {K : PySem.W.Frag} {mg : Str → Option Value} {base : Heap} {a : Ad}
theorem ok_digit (T : Txt K mg a) : FnOk P w K mg base CX0 1 a.f_KeyStream_is_count_digit a.fd_KeyStream_is_count_digit ["self", "key"] (spDigit a) := by
  refine T.F_KeyStream_is_count_digit.ok sc_KeyStream_is_count_digit (fun vs H Q E h => ?_) (fun cdv A outer s H vs Q E hr h => ⟨(d_KeyStream_is_count_digit T hr).1, (d_KeyStream_is_count_digit T hr).2, ?_⟩)
  · obtain ⟨_, _, _, _, _, _, rfl, _⟩ := h
    rfl
  obtain ⟨G, S, L, x, r, k, rfl, h, q⟩ := h
  refine ⟨_, rfl, S, a.C_KeyStream, x.dx, _, _, rfl, h.ob, T.c_KeyStream, T.no_KeyStream_digits, lk_KeyStream_digits, x.D, _, rfl, .inl (SqL.of h.d), _, _, rfl, rfl, _, rfl, ?_⟩
  rw [iv_len]
  refine ite2 (fun c => ?_) (fun c => ?_)
  · have c := of_decide_eq_true c
    have e : isDigit r.digits k = false := by unfold isDigit; rw [decide_eq_false (by omega : ¬ r.digits.length < 4), Bool.false_and]
    rw [e] at q
    exact q
  · have c : ¬ 4 ≤ r.digits.length := fun z => c (decide_eq_true (by omega))
    have e : isDigit r.digits k = ((decide (49 ≤ k) && decide (k ≤ 57)) || (k == 48 && !r.digits.isEmpty)) := by unfold isDigit; rw [decide_eq_true (by omega : r.digits.length < 4), Bool.true_and]
    rw [e] at q
    refine ⟨_, rfl, rfl, _, rfl, ?_⟩
    refine ite2 (fun c2 => ?_) (fun c2 => ?_)
    · have c2 : k = 48 := by
        have z := of_decide_eq_true c2
        injection z with z
        omega
      subst c2
      refine ⟨_, rfl, S, a.C_KeyStream, x.dx, _, _, rfl, h.ob, T.c_KeyStream, T.no_KeyStream_digits, lk_KeyStream_digits, x.D, _, rfl, .inl (SqL.of h.d), _, _, rfl, rfl, ?_⟩
      rw [iv_len]
      have e2 : decide ((0 : Int) < (r.digits.length : Int)) = !r.digits.isEmpty := by
        cases r.digits with
        | nil => rfl
        | cons _ _ => simp
      show Q (.bl (decide ((0 : Int) < (r.digits.length : Int)))) H
      rw [e2]
      simpa using q
    · have c2 : ¬ k = 48 := fun z => c2 (decide_eq_true (by rw [z]; rfl))
      have e2 : (k == 48) = false := by simp [c2]
      rw [e2, Bool.false_and, Bool.or_false] at q
      refine ⟨_, rfl, _, _, rfl, rfl, _, rfl, ?_⟩
      refine ite2 (fun c3 => ?_) (fun c3 => ?_)
      · have c3 := of_decide_eq_true c3
        refine ⟨_, _, rfl, rfl, ?_⟩
        rw [decide_eq_true (by omega : 49 ≤ k), Bool.true_and] at q
        have e3 : decide ((k : Int) ≤ 57) = decide (k ≤ 57) := by
          by_cases z : k ≤ 57
          · rw [decide_eq_true z, decide_eq_true (by omega)]
          · rw [decide_eq_false z, decide_eq_false (by omega)]
        show Q (.bl (decide ((k : Int) ≤ 57))) H
        rw [e3]
        exact q
      · have c3 : ¬ 49 ≤ k := fun z => c3 (decide_eq_true (by omega))
        rw [decide_eq_false c3, Bool.false_and] at q
        exact q
theorem ok_asIs (T : Txt K mg a) : FnOk P w K mg base CX0 2 a.f_KeyStream_take_as_it_is a.fd_KeyStream_take_as_it_is ["self", "key"] (spAsIs a) := by
  refine T.F_KeyStream_take_as_it_is.ok sc_KeyStream_take_as_it_is (fun vs H Q E h => ?_) (fun cdv A outer s H vs Q E hr h => ⟨(d_KeyStream_take_as_it_is T (ok_digit T) (ok_tell T) hr).1, (d_KeyStream_take_as_it_is T (ok_digit T) (ok_tell T) hr).2, ?_⟩)
  · obtain ⟨_, _, _, _, _, _, rfl, _⟩ := h
    rfl
  obtain ⟨G, S, L, x, r, k, rfl, h, hd, he, q⟩ := h
  refine ⟨_, rfl, S, x.dx, _, rfl, h.ob, nm_KeyStream_is_count_digit, _, rfl, G, S, L, x, r, k, rfl, h, _, rfl, ?_⟩
  unfold asIs at q
  cases e : isDigit r.digits k with
  | true =>
    rw [e] at q
    refine iteT ?_
    refine ⟨_, rfl, S, a.C_KeyStream, x.dx, _, _, rfl, h.ob, T.c_KeyStream, T.no_KeyStream_digits, lk_KeyStream_digits, .inl ⟨rfl, _, SqL.of h.d⟩, _, rfl, x.D, _, _, rfl, rfl, h.d, ?_, ?_⟩
    · rw [iv_len]; exact Nat.lt_of_le_of_lt hd.len (by decide)
    · have h2 := h.putD (r.digits ++ [k])
      rw [iv_app] at h2
      exact q _ _ h2
  | false =>
    rw [e] at q
    refine iteF ?_
    refine ⟨_, rfl, S, x.dx, _, rfl, h.ob, nm_KeyStream_tell, _, rfl, G, S, L, x, r, 0, k, 1, rfl, h, hd, he, fun H' x' h' => q _ _ h'⟩
theorem ok_putKeys (T : Txt K mg a) : FnOk P w K mg base CX0 2 a.f_KeyStream_put_keys a.fd_KeyStream_put_keys ["self", "keys", "used"] (spPutKeys a) := by
  refine T.F_KeyStream_put_keys.ok sc_KeyStream_put_keys (fun vs H Q E h => ?_) (fun cdv A outer s H vs Q E hr h => ⟨(d_KeyStream_put_keys T (ok_tell T) hr).1, (d_KeyStream_put_keys T (ok_tell T) hr).2, ?_⟩)
  · obtain ⟨_, _, _, _, _, _, _, _, rfl, _⟩ := h
    rfl
  obtain ⟨G, S, L, x, r, p, l, u, rfl, h, hp, hl6, hd, he, hq, q⟩ := h
  unfold putK1 at q
  refine ⟨_, rfl, S, a.C_KeyStream, x.dx, _, _, rfl, h.ob, T.c_KeyStream, T.no_KeyStream_times_put, lk_KeyStream_times_put, rfl, _, rfl, ?_⟩
  refine ite2 (fun c => ?_) (fun c => ?_)
  · have c : r.left = 0 := by
      have z := of_decide_eq_true c
      injection z with z
      omega
    rw [if_pos c] at q
    -- self.to_come = []
    refine ⟨(by show 0 ≤ sizeLine; decide), fun p2 hp2 => ?_⟩
    have h3 := h.new (o := .lst []) hp2
    have nn := h.ne_new hp2
    refine ⟨_, rfl, S, a.C_KeyStream, x.dx, _, rfl, h3.ob, T.c_KeyStream, T.no_KeyStream_to_come, (by show 7 < 1000; decide), ?_⟩
    have h4 := h3.newT (l := []) upd_same ⟨nn.1, nn.2.1, nn.2.2.1, nn.2.2.2.2.1⟩ (same_none h.sub hp2)
    refine ⟨_, rfl, S, x.dx, _, rfl, h4.ob, nm_KeyStream_tell, _, rfl, G, S, L, _, _, 2, 0, u, rfl, h4, hd, he, fun H' x' h' => q _ _ h'⟩
  · have c : ¬ r.left = 0 := fun z => c (decide_eq_true (by rw [z]; rfl))
    rw [if_neg c] at q
    -- self.times_put += 1
    refine ⟨_, rfl, S, a.C_KeyStream, x.dx, _, _, rfl, h.ob, T.c_KeyStream, T.no_KeyStream_times_put, lk_KeyStream_times_put, _, _, rfl, rfl, x.dx, _, h.ob, (by show 7 < 1000; decide), ?_⟩
    have h2 := h.putL (r.left - 1) (z := 50 - (r.left : Int) + 1) (by omega)
    have hp2 := h2.sub _ _ hp
    -- self.to_come = keys + self.to_come
    refine ⟨_, rfl, _, rfl, S, a.C_KeyStream, x.dx, _, _, rfl, h2.ob, T.c_KeyStream, T.no_KeyStream_to_come, lk_KeyStream_to_come, p, x.T, _, _, rfl, rfl, hp2, h2.t, ?_, fun p3 hp3 => ?_⟩
    · rw [iv_len, iv_len]
      exact Nat.le_trans (Nat.add_le_add hl6 (Nat.le_of_lt hq)) (by decide)
    have h3 := h2.new (o := .lst (iv l ++ iv r.queue)) hp3
    have nn := h2.ne_new hp3
    refine ⟨_, rfl, S, a.C_KeyStream, x.dx, _, rfl, h3.ob, T.c_KeyStream, T.no_KeyStream_to_come, (by show 7 < 1000; decide), ?_⟩
    exact q _ _ (h3.newT (l := l ++ r.queue) (by rw [iv_app]; exact upd_same) ⟨nn.1, nn.2.1, nn.2.2.1, nn.2.2.2.2.1⟩ (same_none h2.sub hp3))
theorem ok_tellKeys (T : Txt K mg a) : FnOk P w K mg base CX0 2 a.f_KeyStream_tell_keys a.fd_KeyStream_tell_keys ["self", "keys", "used"] (spTellKeys a) := by
  refine T.F_KeyStream_tell_keys.ok sc_KeyStream_tell_keys (fun vs H Q E h => ?_) (fun cdv A outer s H vs Q E hr h => ⟨(d_KeyStream_tell_keys T (ok_tell T) hr).1, (d_KeyStream_tell_keys T (ok_tell T) hr).2, ?_⟩)
  · obtain ⟨_, _, _, _, _, _, _, _, rfl, _⟩ := h
    rfl
  obtain ⟨G, S, L, x, r, p, l, u, rfl, h, hp, hl6, hd, he, q⟩ := h
  refine ⟨_, rfl, _, .inl ⟨_, SqL.of (h.sub _ _ hp), rfl⟩, ?_⟩
  by_cases hn : l = []
  · subst hn
    refine iteT ?_
    refine ⟨_, rfl, S, x.dx, _, rfl, h.ob, nm_KeyStream_tell, _, rfl, G, S, L, x, r, 4, 0, u, rfl, h, hd, Nat.lt_of_le_of_lt (Nat.le_add_right _ 6) he, fun H1 x1 h1 => ?_⟩
    refine ⟨_, rfl, p, _, rfl, SqL.of (h1.sub _ _ hp), ?_⟩
    refine for_it walk_enum (fun i σ H' => H' = H1) rfl (fun i σ H' _ z => by subst z; exact SqL.of (h1.sub _ _ hp)) ?_ ?_
    · intro i y σ H2 H2' hi
      exact absurd hi (Nat.not_lt_zero _)
    · rintro σ H2 rfl
      exact q _ x1 h1
  · have hb : (iv l).isEmpty = false := by
      cases l with
      | nil => exact absurd rfl hn
      | cons _ _ => rfl
    rw [hb]
    refine iteF ?_
    refine ⟨_, rfl, p, _, rfl, SqL.of (h.sub _ _ hp), ?_⟩
    refine for_it walk_enum (fun i σ H' => ∃ (x' : SR) (r' : Ue09.Run) (o1 o2 : Option V), σ = [some (.ref S), some (.ref p), some (.int (u : Int)), o1, o2] ∧ SAt a G H' S L x' r' ∧ Dig r'.digits ∧ r'.events.length ≤ r.events.length + i ∧
        (i = 0 → r' = r) ∧ (0 < i → r' = plainK r (l.take i) u))
      ⟨x, r, none, none, rfl, h, hd, Nat.le_refl _, fun _ => rfl, fun z2 => absurd z2 (by omega)⟩ (fun i σ H' _ ⟨x', r', o1, o2, _, h', _⟩ => SqL.of (h'.sub _ _ hp)) ?_ ?_
    · rintro i y σ H2 H2' hi ⟨x', r', o1, o2, rfl, h', hd', hev, e0, ec⟩ ⟨t, i1, k1, rfl, ht, rfl, ei, ek⟩
      rw [iv_len] at hi
      have ek : (iv l)[i]? = some k1 := ek
      rw [iv_get] at ek
      obtain ⟨k, hk, rfl⟩ := Option.map_eq_some_iff.mp ek
      cases ei
      have h3 := h'.new (o := .tup [.int (i : Int), .int (k : Int)]) ht
      refine ⟨t, _, rfl, SqT.of upd_same, rfl, _, _, rfl, _, _, rfl, rfl, ?_⟩
      -- self.tell(EVENT_KEY, key, used if place == 0 else 0)
      refine ⟨_, rfl, S, x'.dx, _, rfl, h3.ob, nm_KeyStream_tell, _, rfl, _, rfl, rfl, _, rfl, ?_⟩
      have hev2 : r'.events.length < many := by
        have : i < 6 := Nat.lt_of_lt_of_le hi hl6
        omega
      by_cases hi0 : i = 0
      · subst hi0
        refine iteT ?_
        refine ⟨_, rfl, G, S, L, x', r', 0, k, u, rfl, h3, hd', hev2, fun H4 x4 h4 => ?_⟩
        have er : r' = r := e0 rfl
        subst er
        refine ⟨x4, _, _, _, rfl, h4, dig_nil, ?_, fun z => absurd z (by omega), fun _ => ?_⟩
        · rw [emit_ev]; exact Nat.le_refl _
        · rw [take_at hk, List.take_zero]; rfl
      · have cz : decide (V.int (i : Int) = V.int 0) = false := decide_eq_false fun z => hi0 (by injection z with z; omega)
        rw [cz]
        refine iteF ?_
        refine ⟨G, S, L, x', r', 0, k, 0, rfl, h3, hd', hev2, fun H4 x4 h4 => ?_⟩
        have er : r' = plainK r (l.take i) u := ec (by omega)
        refine ⟨x4, _, _, _, rfl, h4, dig_nil, ?_, fun z => absurd z (by omega), fun _ => ?_⟩
        · rw [emit_ev]; omega
        · rw [take_at hk, er]
          obtain ⟨k0, m, e0⟩ : ∃ k0 m, l.take i = k0 :: m := by
            cases el : l.take i with
            | nil => rw [List.take_eq_nil_iff] at el; exact absurd el (by simp [hi0, hn])
            | cons k0 m => exact ⟨k0, m, rfl⟩
          rw [e0]
          show emit (m.foldl _ (emit r 0 k0 u)) 0 k 0 = (m ++ [k]).foldl _ (emit r 0 k0 u)
          rw [List.foldl_append]; rfl
    · rintro σ H2 ⟨x', r', o1, o2, rfl, h', hd', hev, e0, ec⟩
      refine q _ x' ?_
      have hpos : 0 < (iv l).length := by rw [iv_len]; exact List.length_pos_iff.mpr hn
      rw [ec hpos, iv_len, List.take_length] at h'
      exact h'
theorem ok_change (T : Txt K mg a) : FnOk P w K mg base CX0 1 a.f_KeyStream_change_maps a.fd_KeyStream_change_maps ["self", "binding"] (spChange a) := by
  refine T.F_KeyStream_change_maps.ok sc_KeyStream_change_maps (fun vs H Q E h => ?_) (fun cdv A outer s H vs Q E hr h => ⟨(d_KeyStream_change_maps T hr).1, (d_KeyStream_change_maps T hr).2, ?_⟩)
  · obtain ⟨_, _, _, _, _, _, _, rfl, _⟩ := h
    rfl
  obtain ⟨G, S, L, x, r, p, b, rfl, h, ⟨dx, dp, sq, b1, b2', b3⟩, hcode, u1, u6, q⟩ := h
  have g1 := h.sub _ _ b1
  have g2 := h.sub _ _ b2'
  -- purpose = binding.purpose
  refine ⟨_, rfl, p, a.C_Binding, dx, _, _, rfl, g1, T.c_Binding, T.no_Binding_purpose, lk_Binding_purpose, ?_⟩
  refine ⟨_, rfl, rfl, _, rfl, ?_⟩
  cases et : b.target with
  | push n =>
    rw [et] at q g2
    refine iteT ?_
    refine ⟨_, rfl, S, a.C_KeyStream, x.dx, _, _, rfl, h.ob, T.c_KeyStream, T.no_KeyStream_in_use, lk_KeyStream_in_use, x.U, _, rfl, .inl (SqL.of h.u), _, _, rfl, rfl, _, rfl, ?_⟩
    rw [iv_len]
    refine ite2 (fun c => ?_) (fun c => ?_)
    · have c := of_decide_eq_true c
      refine ⟨_, rfl, S, a.C_KeyStream, x.dx, _, _, rfl, h.ob, T.c_KeyStream, T.no_KeyStream_in_use, lk_KeyStream_in_use, .inl ⟨rfl, _, SqL.of h.u⟩, _, rfl, p, a.C_Binding, dx, _, _, rfl, g1, T.c_Binding, T.no_Binding_details, lk_Binding_details, dp, _, _, _, rfl, rfl, SqL.of g2, atI_nat (j := 0) rfl, ?_⟩
      refine ⟨x.U, _, 0, _, rfl, rfl, h.u, (by rw [iv_len]; exact Nat.lt_of_le_of_lt u6 (by decide)), by decide, by decide, ?_⟩
      refine q _ x ?_
      have h2 := h.putU (n :: r.maps.use)
      have e : Ue09.used r.maps (.push n) = { r.maps with use := n :: r.maps.use } := by
        show (if Ue09.MAPS ≤ r.maps.use.length then _ else _) = _
        rw [if_neg (by show ¬ 6 ≤ _; omega)]
      rw [e]
      exact h2
    · have c : ¬ r.maps.use.length < 6 := fun z => c (decide_eq_true (by omega))
      refine ⟨_, rfl, rfl, _, rfl, iteF ?_⟩
      refine ⟨_, rfl, rfl, _, rfl, iteF ?_⟩
      refine q _ x ?_
      have e : Ue09.used r.maps (.push n) = r.maps := by
        show (if Ue09.MAPS ≤ r.maps.use.length then _ else _) = _
        rw [if_pos (by show 6 ≤ _; omega)]
      rw [e]
      exact h
  | pop =>
    rw [et] at q
    refine iteF ?_
    refine ⟨_, rfl, rfl, _, rfl, iteT ?_⟩
    refine ⟨_, rfl, S, a.C_KeyStream, x.dx, _, _, rfl, h.ob, T.c_KeyStream, T.no_KeyStream_in_use, lk_KeyStream_in_use, x.U, _, rfl, .inl (SqL.of h.u), _, _, rfl, rfl, _, rfl, ?_⟩
    rw [iv_len]
    cases eu : r.maps.use with
    | nil => rw [eu] at u1; exact absurd u1 (by simp)
    | cons n0 rest =>
      have hu := h.u
      rw [eu] at hu
      cases rest with
      | nil =>
        refine iteF ?_
        refine ⟨_, rfl, rfl, _, rfl, iteF ?_⟩
        refine q _ x ?_
        have e : Ue09.used r.maps .pop = r.maps := by
          show (match r.maps.use with | _ :: a :: l => _ | _ => _) = _
          rw [eu]
        rw [e]
        exact h
      | cons n1 rest =>
        have c : decide ((1 : Int) < ((n0 :: n1 :: rest).length : Int)) = true := decide_eq_true (by simp only [List.length_cons]; omega)
        refine (if_pos c).mpr ?_
        refine ⟨_, rfl, S, a.C_KeyStream, x.dx, _, _, rfl, h.ob, T.c_KeyStream, T.no_KeyStream_in_use, lk_KeyStream_in_use, .inl ⟨rfl, _, SqL.of h.u⟩, x.U, _, 0, 0, _, rfl, rfl, hu, by decide, by decide, seq0 (by simp [iv]), rfl, ?_⟩
        refine q _ x ?_
        have h2 := h.putU (n1 :: rest)
        have e : Ue09.used r.maps .pop = { r.maps with use := n1 :: rest } := by
          show (match r.maps.use with | _ :: a :: l => _ | _ => _) = _
          rw [eu]
        rw [e]
        exact h2
  | turn n =>
    rw [et] at q g2
    refine iteF ?_
    refine ⟨_, rfl, rfl, _, rfl, iteF ?_⟩
    refine ⟨_, rfl, rfl, _, rfl, iteT ?_⟩
    cases eu : r.maps.use with
    | nil => rw [eu] at u1; exact absurd u1 (by simp)
    | cons n0 rest =>
      have hu := h.u
      rw [eu] at hu
      refine ⟨_, rfl, p, a.C_Binding, dx, _, _, rfl, g1, T.c_Binding, T.no_Binding_details, lk_Binding_details, dp, _, _, _, rfl, rfl, SqL.of g2, atI_nat (j := 0) rfl, ?_⟩
      refine ⟨_, rfl, S, a.C_KeyStream, x.dx, _, _, rfl, h.ob, T.c_KeyStream, T.no_KeyStream_in_use, lk_KeyStream_in_use, x.U, _, 0, 0, rfl, rfl, hu, ?_, ?_⟩
      · unfold ixN
        rw [if_pos (by decide), if_pos (by simp [iv])]
        rfl
      refine q _ x ?_
      have h2 := h.putU (n :: rest)
      have e : Ue09.used r.maps (.turn n) = { r.maps with use := n :: rest } := by
        show { r.maps with use := n :: r.maps.use.drop 1 } = _
        rw [eu]; rfl
      rw [e]
      exact h2
  | command n => rw [et] at hcode; simp [code] at hcode
  | keys n => rw [et] at hcode; simp [code] at hcode
  | plain n => rw [et] at hcode; simp [code] at hcode
  | nothing => rw [et] at hcode; simp [code] at hcode
theorem ok_carry (T : Txt K mg a) : FnOk P w K mg base CX0 3 a.f_KeyStream_carry_out a.fd_KeyStream_carry_out ["self", "binding", "used"] (spCarry a) := by
  refine T.F_KeyStream_carry_out.ok sc_KeyStream_carry_out (fun vs H Q E h => ?_) (fun cdv A outer s H vs Q E hr h => ⟨(d_KeyStream_carry_out T (ok_tell T) (ok_putKeys T) (ok_tellKeys T) (ok_change T) hr).1, (d_KeyStream_carry_out T (ok_tell T) (ok_putKeys T) (ok_tellKeys T) (ok_change T) hr).2, ?_⟩)
  · obtain ⟨_, _, _, _, _, _, _, rfl, _⟩ := h
    rfl
  obtain ⟨G, S, L, x, r, p, b, rfl, h, hB, okb, u1, u6, hd, he, hq, q⟩ := h
  obtain ⟨dx, dp, sq, b1, b2', b3⟩ := id hB
  have g1 := h.sub _ _ b1
  have g2 := h.sub _ _ b2'
  have he1 : r.events.length < many := Nat.lt_of_le_of_lt (Nat.le_add_right _ 6) he
  have htg := okb.tgt
  unfold doing at q
  refine ⟨_, rfl, p, a.C_Binding, dx, _, _, rfl, g1, T.c_Binding, T.no_Binding_purpose, lk_Binding_purpose, ?_⟩
  refine ⟨_, rfl, rfl, _, rfl, ?_⟩
  cases et : b.target with
  | command n =>
    rw [et] at q g2
    refine iteT ?_
    exact ⟨_, rfl, S, x.dx, _, rfl, h.ob, nm_KeyStream_tell, _, rfl, p, a.C_Binding, dx, _, _, rfl, g1, T.c_Binding, T.no_Binding_details, lk_Binding_details, dp, _, _, _, rfl, rfl, SqL.of g2, atI_nat (j := 0) rfl, _, rfl, G, S, L, x, r, 1, n, b.seq.length, rfl, h, hd, he1, fun H' x' h' => q _ _ h'⟩
  | keys l =>
    rw [et] at q b2' htg
    simp [Ue09.targetOk] at htg
    refine iteF ?_
    refine ⟨_, rfl, rfl, _, rfl, iteT ?_⟩
    exact ⟨_, rfl, S, x.dx, _, rfl, h.ob, nm_KeyStream_put_keys, _, rfl, p, a.C_Binding, dx, _, _, rfl, g1, T.c_Binding, T.no_Binding_details, lk_Binding_details, _, rfl, G, S, L, x, r, dp, l, b.seq.length, rfl, h, b2', htg.2.1, hd, he1, hq, fun H' x' h' => q _ _ h'⟩
  | plain l =>
    rw [et] at q b2' htg
    simp [Ue09.targetOk] at htg
    refine iteF ?_
    refine ⟨_, rfl, rfl, _, rfl, iteF ?_⟩
    refine ⟨_, rfl, rfl, _, rfl, iteT ?_⟩
    refine ⟨_, rfl, S, x.dx, _, rfl, h.ob, nm_KeyStream_tell_keys, _, rfl, p, a.C_Binding, dx, _, _, rfl, g1, T.c_Binding, T.no_Binding_details, lk_Binding_details, _, rfl, G, S, L, x, r, dp, l, b.seq.length, rfl, h, b2', htg.1, hd, he, fun H' x' h' => q _ x' ?_⟩
    cases l <;> exact h'
  | nothing =>
    rw [et] at q
    refine iteF ?_
    refine ⟨_, rfl, rfl, _, rfl, iteF ?_⟩
    refine ⟨_, rfl, rfl, _, rfl, iteF ?_⟩
    refine ⟨_, rfl, rfl, _, rfl, iteT ?_⟩
    exact ⟨_, rfl, S, x.dx, _, rfl, h.ob, nm_KeyStream_tell, _, rfl, G, S, L, x, r, 4, 0, b.seq.length, rfl, h, hd, he1, fun H' x' h' => q _ _ h'⟩
  | push n | pop | turn n =>
    have q' : ∀ H' x', SAt a G H' S L x' (emit { r with maps := Ue09.used r.maps b.target } 3 (Ue09.topOf (Ue09.used r.maps b.target)) b.seq.length) → Q .non H' := by
      rw [et] at q ⊢
      exact q
    refine iteF ?_
    refine ⟨_, rfl, rfl, _, rfl, iteF ?_⟩
    refine ⟨_, rfl, rfl, _, rfl, iteF ?_⟩
    refine ⟨_, rfl, rfl, _, rfl, iteF ?_⟩
    have okm : 1 ≤ (Ue09.used r.maps b.target).use.length := used_len1 u1
    refine ⟨_, rfl, S, x.dx, _, rfl, h.ob, nm_KeyStream_change_maps, _, rfl, G, S, L, x, r, p, b, rfl, h, hB, by rw [et]; simp [code], u1, u6, fun H' x' h' => ?_⟩
    obtain ⟨n0, rest, eu⟩ : ∃ n0 rest, (Ue09.used r.maps b.target).use = n0 :: rest := by
      cases eu : (Ue09.used r.maps b.target).use with
      | nil => rw [eu] at okm; exact absurd okm (by simp)
      | cons n0 rest => exact ⟨n0, rest, rfl⟩
    have hu : H' x'.U = some (.lst (iv (n0 :: rest))) := by
      have z := h'.u
      rw [← eu]
      exact z
    refine ⟨_, rfl, S, x'.dx, _, rfl, h'.ob, nm_KeyStream_tell, _, rfl, S, a.C_KeyStream, x'.dx, _, _, rfl, h'.ob, T.c_KeyStream, T.no_KeyStream_in_use, lk_KeyStream_in_use, x'.U, _, _, _, rfl, rfl, SqL.of hu, atI_nat (j := 0) rfl, _, rfl, G, S, L, x', _, 3, n0, b.seq.length, rfl, h', hd, he1, fun H2 x2 h2 => q' _ x2 ?_⟩
    have etop : Ue09.topOf (Ue09.used r.maps b.target) = n0 := by
      show (Ue09.used r.maps b.target).use.headD 0 = n0
      rw [eu]; rfl
    rw [etop]
    exact h2
end
end Km

namespace Km
open PySem PySem.Spec PyProof.Rows L2
open Ue09 (emit countOf asIs doing isDigit waits longest)

def spCnt (a : Ad) : Sp := fun vs H Q _ => ∃ (G : Hp) (S L : Addr) (x : SR) (r : Ue09.Run) (ps ds : List Addr), vs = [.ref S] ∧ SAt a G H S L x r ∧ MapsAt a G L ps ds r.maps.all ∧ OkM r.maps ∧
  ∀ H' c, Same H H' → CAt a G H' c r.maps (cn r.maps) → Q (.ref c) H'
def spMore (a : Ad) : Sp := fun vs H Q _ => ∃ (G : Hp) (S L : Addr) (x : SR) (r : Ue09.Run) (ps ds : List Addr), vs = [.ref S] ∧ SAt a G H S L x r ∧ MapsAt a G L ps ds r.maps.all ∧ OkM r.maps ∧ r.open_.length ≤ 4 ∧
  ∀ H', Same H H' → Q (.bl (waits r.maps r.open_)) H'
def spSettle (a : Ad) : Sp := fun vs H Q _ => ∃ (G : Hp) (S L : Addr) (x : SR) (r : Ue09.Run) (ps ds : List Addr), vs = [.ref S] ∧ SAt a G H S L x r ∧ MapsAt a G L ps ds r.maps.all ∧ OkM r.maps ∧ r.open_ ≠ [] ∧ r.open_.length ≤ 4 ∧
  Dig r.digits ∧ r.events.length + 6 < many ∧ r.queue.length + 6 < many ∧ ∀ H' x', SAt a G H' S L x' (Ue09.settle r) → Q .non H'
def spGo (a : Ad) : Sp := fun vs H Q _ => ∃ (G : Hp) (S L : Addr) (x : SR) (r : Ue09.Run) (ps ds : List Addr), vs = [.ref S] ∧ SAt a G H S L x r ∧ MapsAt a G L ps ds r.maps.all ∧ Rdy r ∧
  ∀ H' x', SAt a G H' S L x' (goA r) → Q .non H'
def spPress (a : Ad) : Sp := fun vs H Q _ => ∃ (G : Hp) (S L : Addr) (x : SR) (r : Ue09.Run) (ps ds : List Addr) (k : Nat), vs = [.ref S, .int (k : Int)] ∧ SAt a G H S L x r ∧ MapsAt a G L ps ds r.maps.all ∧ Rdy { r with queue := r.queue ++ [k], left := 50 } ∧
  ∀ H' x', SAt a G H' S L x' (pressA r k) → Q .non H'
def spWaitLong (a : Ad) : Sp := fun vs H Q _ => ∃ (G : Hp) (S L : Addr) (x : SR) (r : Ue09.Run) (ps ds : List Addr), vs = [.ref S] ∧ SAt a G H S L x r ∧ MapsAt a G L ps ds r.maps.all ∧ Rdy { r with left := 50 } ∧ r.queue = [] ∧
  ∀ H' x', SAt a G H' S L x' (flushA { r with left := 50 }) → Q .non H'
section
variable {P : Program} {w : World} {K : PySem.W.Frag} {mg : Str → Option Value} {base : Heap} {a : Ad}
theorem ok_cnt (T : Txt K mg a) : FnOk P w K mg base CX0 3 a.f_KeyStream_counting a.fd_KeyStream_counting ["self"] (spCnt a) := by
  refine T.F_KeyStream_counting.ok sc_KeyStream_counting (fun vs H Q E h => ?_) (fun cdv A outer s H vs Q E hr h => ⟨(d_KeyStream_counting T (ok_counting T) hr).1, (d_KeyStream_counting T (ok_counting T) hr).2, ?_⟩)
  · obtain ⟨_, _, _, _, _, _, _, rfl, _⟩ := h
    rfl
  obtain ⟨G, S, L, x, r, ps, ds, rfl, h, hM, ok, q⟩ := h
  exact ⟨_, rfl, S, a.C_KeyStream, x.dx, _, _, rfl, h.ob, T.c_KeyStream, T.no_KeyStream_maps, lk_KeyStream_maps, _, rfl, S, a.C_KeyStream, x.dx, _, _, rfl, h.ob, T.c_KeyStream, T.no_KeyStream_in_use, lk_KeyStream_in_use,
    G, L, x.U, ps, ds, r.maps, rfl, h.sub, hM, h.u, fun n hn => by rw [ok.len]; exact ok.use n hn, ok.use6, fun H' c s1 _ hc => q _ c s1 hc⟩
theorem ok_more (T : Txt K mg a) : FnOk P w K mg base CX0 4 a.f_KeyStream_more_may_come a.fd_KeyStream_more_may_come ["self"] (spMore a) := by
  refine T.F_KeyStream_more_may_come.ok sc_KeyStream_more_may_come (fun vs H Q E h => ?_) (fun cdv A outer s H vs Q E hr h => ⟨(d_KeyStream_more_may_come T (ok_once T) (ok_goes T) (ok_cnt T) hr).1, (d_KeyStream_more_may_come T (ok_once T) (ok_goes T) (ok_cnt T) hr).2, ?_⟩)
  · obtain ⟨_, _, _, _, _, _, _, rfl, _⟩ := h
    rfl
  obtain ⟨G, S, L, x, r, ps, ds, rfl, h, hM, ok, ho, q⟩ := h
  -- counting = self.counting()
  refine ⟨_, rfl, S, x.dx, _, rfl, h.ob, nm_KeyStream_counting, G, S, L, x, r, ps, ds, rfl, h, hM, ok, fun H1 c s1 hc => ?_⟩
  have h1 := h.grow s1
  -- sequence = tuple(self.open_keys)
  refine ⟨_, rfl, S, a.C_KeyStream, x.dx, _, _, rfl, h1.ob, T.c_KeyStream, T.no_KeyStream_open_keys, lk_KeyStream_open_keys, x.O, _, rfl, .inl ⟨SqL.of h1.o, fun t ht => ?_⟩⟩
  have s2 : Same H1 (upd H1 t (.tup (iv r.open_))) := same_new ht
  have h2 := h1.grow s2
  have hc2 := hc.grow s2
  have ew := waits_cn r.maps r.open_
  -- return goes_on(counting, sequence) and not bound_at_once(counting, sequence)
  refine ⟨_, rfl, _, rfl, G, c, t, r.maps, cn r.maps, r.open_, rfl, h2.sub, hc2, upd_same, ho, ok, fun H3 s3 => ⟨_, rfl, ?_⟩⟩
  have q3 := q H3 (s1.trans (s2.trans s3))
  cases e : goe r.maps (cn r.maps) r.open_ with
  | true =>
    refine iteT ?_
    refine ⟨_, rfl, _, rfl, G, c, t, r.maps, cn r.maps, r.open_, rfl, Dry.of (h2.sub.trans s3), hc2.grow s3, s3 _ _ upd_same, _, rfl, ?_⟩
    rw [e, Bool.true_and] at ew
    rw [ew] at q3
    exact q3
  | false =>
    refine iteF ?_
    rw [e, Bool.false_and] at ew
    rw [ew] at q3
    exact q3
theorem ok_settle (T : Txt K mg a) : FnOk P w K mg base CX0 4 a.f_KeyStream_settle a.fd_KeyStream_settle ["self"] (spSettle a) := by
  refine T.F_KeyStream_settle.ok sc_KeyStream_settle (fun vs H Q E h => ?_) (fun cdv A outer s H vs Q E hr h => ⟨(d_KeyStream_settle T (ok_asIs T) (ok_carry T) (ok_longest T (ok_bound T)) (ok_cnt T) hr).1, (d_KeyStream_settle T (ok_asIs T) (ok_carry T) (ok_longest T (ok_bound T)) (ok_cnt T) hr).2, ?_⟩)
  · obtain ⟨_, _, _, _, _, _, _, rfl, _⟩ := h
    rfl
  obtain ⟨G, S, L, x, r, ps, ds, rfl, h, hM, ok, hne, ho, hd, he, hq, q⟩ := h
  -- keys = self.open_keys; self.open_keys = []
  refine ⟨_, rfl, S, a.C_KeyStream, x.dx, _, _, rfl, h.ob, T.c_KeyStream, T.no_KeyStream_open_keys, lk_KeyStream_open_keys, ?_⟩
  refine ⟨(by show 0 ≤ sizeLine; decide), fun p1 hp1 => ?_⟩
  have hA := h.new (o := .lst []) hp1
  have nn := h.ne_new hp1
  refine ⟨_, rfl, S, a.C_KeyStream, x.dx, _, rfl, hA.ob, T.c_KeyStream, T.no_KeyStream_open_keys, (by show 7 < 1000; decide), ?_⟩
  have hB := hA.newO (l := []) upd_same ⟨nn.1, nn.2.2.1, nn.2.2.2.1, nn.2.2.2.2.1⟩ (same_none h.sub hp1)
  have nSO := hA.neS.2.1
  have hk := hA.o
  generalize hHB : upd (upd H p1 (.lst [])) S _ = HB at hB
  have hkB : HB x.O = some (.lst (iv r.open_)) := by rw [← hHB, upd_ne nSO.symm]; exact hk
  -- binding = longest_bound(self.counting(), keys)
  refine ⟨_, rfl, S, x.dx, _, rfl, hB.ob, nm_KeyStream_counting, G, S, L, _, _, ps, ds, rfl, hB, hM, ok, fun H1 c s1 hc => ?_⟩
  refine ⟨_, rfl, G, c, x.O, r.maps, cn r.maps, r.open_, rfl, hB.sub.trans s1, hc, s1 _ _ hkB, Nat.le_trans ho (by decide), fun H2 s2 => ?_⟩
  have s12 := s1.trans s2
  have h2 := hB.grow s12
  have hk2 := s12 _ _ hkB
  have eL := long_cn r.maps r.open_
  unfold Ue09.settle at q
  rw [eL] at q
  obtain ⟨k0, ks, ek⟩ : ∃ k ks, r.open_ = k :: ks := by
    cases e : r.open_ with
    | nil => exact absurd e hne
    | cons k ks => exact ⟨k, ks, rfl⟩
  have hql : ∀ n, (r.open_.drop n).length + r.queue.length ≤ sizeLine := fun n => by
    have : (r.open_.drop n).length ≤ 4 := by rw [List.length_drop]; omega
    exact Nat.le_trans (Nat.add_le_add this (Nat.le_of_lt (Nat.lt_of_le_of_lt (Nat.le_add_right _ 6) hq))) (by decide)
  have hqm : ∀ n, (r.open_.drop n ++ r.queue).length < many := fun n => by
    rw [List.length_append, List.length_drop]; omega
  refine ⟨fun e => ?_, fun b o e hBd => ?_⟩
  · rw [e] at q
    -- used = 1; self.to_come = keys[1:] + self.to_come
    refine ⟨_, rfl, rfl, _, rfl, iteT ?_⟩
    refine ⟨_, rfl, _, rfl, _, rfl, x.O, _, rfl, SqL.of hk2, fun p3 hp3 => ?_⟩
    have ec : cutV (iv r.open_) (some (1 : Int)) none = iv (r.open_.drop 1) := by
      rw [← iv_drop]; exact cut_from _ 1 (by rw [iv_len, ek]; simp)
    rw [ec]
    have h3 := h2.new (o := .lst (iv (r.open_.drop 1))) hp3
    refine ⟨_, rfl, S, a.C_KeyStream, x.dx, _, _, rfl, h3.ob, T.c_KeyStream, T.no_KeyStream_to_come, lk_KeyStream_to_come, p3, x.T, _, _, rfl, rfl, upd_same, h3.t, (by rw [iv_len, iv_len]; exact hql 1), fun p4 hp4 => ?_⟩
    have h4 := h3.new (o := .lst (iv (r.open_.drop 1) ++ iv r.queue)) hp4
    have n4 := h3.ne_new hp4
    refine ⟨_, rfl, S, a.C_KeyStream, x.dx, _, rfl, h4.ob, T.c_KeyStream, T.no_KeyStream_to_come, (by show 7 < 1000; decide), ?_⟩
    have h5 := h4.newT (l := r.open_.drop 1 ++ r.queue) (by rw [iv_app]; exact upd_same) ⟨n4.1, n4.2.1, n4.2.2.1, n4.2.2.2.2.1⟩ (same_none h3.sub hp4)
    have hk4 := same_new (o := .lst (iv (r.open_.drop 1) ++ iv r.queue)) hp4 _ _ (same_new (o := .lst (iv (r.open_.drop 1))) hp3 _ _ hk2)
    -- self.take_as_it_is(keys[0])
    refine ⟨_, rfl, rfl, _, rfl, iteT ?_⟩
    refine ⟨_, rfl, S, x.dx, _, rfl, h5.ob, nm_KeyStream_take_as_it_is, _, rfl, x.O, _, _, _, rfl, rfl, SqL.of (by rw [upd_ne nSO.symm]; exact hk4), atI_nat (j := 0) (v := .int (k0 : Int)) (by rw [ek]; rfl), ?_⟩
    refine ⟨G, S, L, _, _, k0, rfl, h5, hd, Nat.lt_of_le_of_lt (Nat.le_add_right _ 6) he, fun H' x' h' => q _ x' ?_⟩
    rw [ek] at h' ⊢
    exact h'
  · rw [e] at q
    have hmem : longest r.maps r.open_ = some b := eL.trans e
    obtain ⟨i, hi, es, n, hbd⟩ := longest_mem hmem
    have okb := ok.all n b (bound_mem hbd).2.1
    have hbl : b.seq.length ≤ r.open_.length := by rw [es, List.length_take]; omega
    obtain ⟨dx, dp, sq, b1, b2', b3⟩ := id hBd
    have g1 := h2.sub _ _ b1
    have g3 := h2.sub _ _ b3
    refine ⟨_, rfl, rfl, _, rfl, iteF ?_⟩
    refine ⟨_, rfl, o, a.C_Binding, dx, _, _, rfl, g1, T.c_Binding, T.no_Binding_sequence, lk_Binding_sequence, sq, _, rfl, .inr (SqT.of g3), ?_⟩
    rw [iv_len]
    refine ⟨_, rfl, _, rfl, _, rfl, x.O, _, rfl, SqL.of hk2, fun p3 hp3 => ?_⟩
    rw [cut_from _ b.seq.length (by rw [iv_len]; exact hbl), iv_drop]
    have h3 := h2.new (o := .lst (iv (r.open_.drop b.seq.length))) hp3
    refine ⟨_, rfl, S, a.C_KeyStream, x.dx, _, _, rfl, h3.ob, T.c_KeyStream, T.no_KeyStream_to_come, lk_KeyStream_to_come, p3, x.T, _, _, rfl, rfl, upd_same, h3.t, (by rw [iv_len, iv_len]; exact hql _), fun p4 hp4 => ?_⟩
    have h4 := h3.new (o := .lst (iv (r.open_.drop b.seq.length) ++ iv r.queue)) hp4
    have n4 := h3.ne_new hp4
    refine ⟨_, rfl, S, a.C_KeyStream, x.dx, _, rfl, h4.ob, T.c_KeyStream, T.no_KeyStream_to_come, (by show 7 < 1000; decide), ?_⟩
    have h5 := h4.newT (l := r.open_.drop b.seq.length ++ r.queue) (by rw [iv_app]; exact upd_same) ⟨n4.1, n4.2.1, n4.2.2.1, n4.2.2.2.2.1⟩ (same_none h3.sub hp4)
    refine ⟨_, rfl, rfl, _, rfl, iteF ?_⟩
    exact ⟨_, rfl, S, x.dx, _, rfl, h5.ob, nm_KeyStream_carry_out, _, rfl, _, rfl, G, S, L, _, _, o, b, rfl, h5, hBd, okb, ok.use1, ok.use6, hd, he, hqm _, fun H' x' h' => q _ x' h'⟩
theorem ok_go (T : Txt K mg a) : FnOk P w K mg base CX0 5 a.f_KeyStream_go_through a.fd_KeyStream_go_through ["self"] (spGo a) := by
  refine T.F_KeyStream_go_through.ok sc_KeyStream_go_through (fun vs H Q E h => ?_) (fun cdv A outer s H vs Q E hr h => ⟨(d_KeyStream_go_through T (ok_more T) (ok_settle T) hr).1, (d_KeyStream_go_through T (ok_more T) (ok_settle T) hr).2, ?_⟩)
  · obtain ⟨_, _, _, _, _, _, _, rfl, _⟩ := h
    rfl
  obtain ⟨G, S, L, x, r, ps, ds, rfl, h, hM, rdy, q⟩ := h
  refine ⟨fun m σ H' => ∃ x' r', m = mu r' ∧ σ = [some (.ref S)] ∧ SAt a G H' S L x' r' ∧ r'.maps.all = r.maps.all ∧ Rdy r' ∧ goA r' = goA r, ⟨_, x, r, rfl, rfl, h, rfl, rdy, rfl⟩, ?_⟩
  rintro m σ H1 ⟨x1, r1, rfl, rfl, h1, em, rd1, eg⟩
  -- while self.to_come
  refine ⟨_, rfl, S, a.C_KeyStream, x1.dx, _, _, rfl, h1.ob, T.c_KeyStream, T.no_KeyStream_to_come, lk_KeyStream_to_come, _, .inl ⟨_, SqL.of h1.t, rfl⟩, ?_⟩
  cases eq : r1.queue with
  | nil =>
    refine iteF ?_
    rw [← eg, goA_nil eq] at q
    exact q _ x1 h1
  | cons k ks =>
    refine iteT ?_
    have ht := h1.t
    rw [eq] at ht
    have hwt := rd1.wt
    simp only [wt, load, eq, List.length_cons] at hwt
    have hks : ks.length < many := by omega
    have hshort := rd1.ok.short
    refine ⟨fun σ' H' => ∃ x' r', mu r' < mu r1 ∧ σ' = [some (.ref S)] ∧ SAt a G H' S L x' r' ∧ r'.maps.all = r.maps.all ∧ Rdy r' ∧ goA r' = goA r, fun σ' H' ⟨x', r', h1, h2⟩ => ⟨_, h1, x', r', rfl, h2⟩, ?_⟩
    -- self.open_keys.append(self.to_come.pop(0))
    refine ⟨_, rfl, S, a.C_KeyStream, x1.dx, _, _, rfl, h1.ob, T.c_KeyStream, T.no_KeyStream_open_keys, lk_KeyStream_open_keys, .inl ⟨rfl, _, SqL.of h1.o⟩, ?_⟩
    refine ⟨_, rfl, S, a.C_KeyStream, x1.dx, _, _, rfl, h1.ob, T.c_KeyStream, T.no_KeyStream_to_come, lk_KeyStream_to_come, .inl ⟨rfl, _, SqL.of ht⟩, x1.T, _, 0, 0, _, rfl, rfl, ht, by decide, by decide, seq0 (by simp [iv]), rfl, ?_⟩
    have h2 := h1.putT ks
    refine ⟨x1.O, _, _, rfl, rfl, h2.o, (by rw [iv_len]; exact Nat.lt_of_le_of_lt hshort (by decide)), ?_⟩
    have h3 := h2.putO (r1.open_ ++ [k])
    rw [iv_app] at h3
    have e3 : SAt a G _ S L x1 (oneKey r1 k ks) := h3
    have hM3 : MapsAt a G L ps ds (oneKey r1 k ks).maps.all := by
      show MapsAt a G L ps ds r1.maps.all
      rw [em]; exact hM
    have ho4 : (oneKey r1 k ks).open_.length ≤ 4 := by
      show (r1.open_ ++ [k]).length ≤ 4
      rw [List.length_append, List.length_singleton]; omega
    -- if not self.more_may_come()
    refine ⟨_, rfl, S, x1.dx, _, rfl, e3.ob, nm_KeyStream_more_may_come, G, S, L, x1, oneKey r1 k ks, ps, ds, rfl, e3, hM3, rd1.ok.maps, ho4, fun H4 s4 => ⟨_, rfl, ?_⟩⟩
    have h4 := e3.grow s4
    cases ew : waits (oneKey r1 k ks).maps (oneKey r1 k ks).open_ with
    | true =>
      obtain ⟨ok2, hlt⟩ := wait_ok rd1.ok eq ew
      refine iteF ?_
      exact ⟨x1, oneKey r1 k ks, hlt, rfl, h4, em, ⟨ok2, rd1.dig, by rw [oneKey_wt eq]; exact rd1.wt⟩, (goA_wait rd1.ok eq ew).symm.trans eg⟩
    | false =>
      have ew' : ¬ waits r1.maps (r1.open_ ++ [k]) = true := by
        intro z
        have z2 : waits (oneKey r1 k ks).maps (oneKey r1 k ks).open_ = true := z
        rw [ew] at z2; cases z2
      obtain ⟨ok2, hlt⟩ := settle_ok rd1.ok eq
      refine iteT ?_
      refine ⟨_, rfl, S, x1.dx, _, rfl, h4.ob, nm_KeyStream_settle, G, S, L, x1, oneKey r1 k ks, ps, ds, rfl, h4, hM3, rd1.ok.maps, by simp [oneKey], ho4, rd1.dig, ?_, ?_, fun H5 x5 h5 => ?_⟩
      · show r1.events.length + 6 < many
        omega
      · show ks.length + 6 < many
        omega
      · refine ⟨x5, Ue09.settle (oneKey r1 k ks), hlt, rfl, h5, ?_, ⟨ok2, settle_dig rd1.dig, ?_⟩, (goA_settle rd1.ok eq ew').symm.trans eg⟩
        · rw [(settle_fields (r := oneKey r1 k ks) rd1.ok.maps (by simp [oneKey])).2.1]
          exact em
        · have := settle_wt4 (r := oneKey r1 k ks) rd1.ok.maps (by simp [oneKey])
          rw [oneKey_wt eq] at this
          have := rd1.wt
          omega
theorem ok_press (T : Txt K mg a) : FnOk P w K mg base CX0 6 a.f_KeyStream_press_key a.fd_KeyStream_press_key ["self", "key"] (spPress a) := by
  refine T.F_KeyStream_press_key.ok sc_KeyStream_press_key (fun vs H Q E h => ?_) (fun cdv A outer s H vs Q E hr h => ⟨(d_KeyStream_press_key T (ok_go T) hr).1, (d_KeyStream_press_key T (ok_go T) hr).2, ?_⟩)
  · obtain ⟨_, _, _, _, _, _, _, _, rfl, _⟩ := h
    rfl
  obtain ⟨G, S, L, x, r, ps, ds, k, rfl, h, hM, rdy, q⟩ := h
  refine ⟨_, rfl, S, a.C_KeyStream, x.dx, _, rfl, h.ob, T.c_KeyStream, T.no_KeyStream_times_put, (by show 7 < 1000; decide), ?_⟩
  have h1 := h.putL 50 (z := 0) (by decide)
  have hw := rdy.wt
  simp only [wt, load, List.length_append, List.length_singleton] at hw
  refine ⟨_, rfl, S, a.C_KeyStream, x.dx, _, _, rfl, h1.ob, T.c_KeyStream, T.no_KeyStream_to_come, lk_KeyStream_to_come, .inl ⟨rfl, _, SqL.of h1.t⟩, _, rfl, x.T, _, _, rfl, rfl, h1.t, (by rw [iv_len]; exact Nat.lt_of_lt_of_le (show r.queue.length < many by omega) (by decide)), ?_⟩
  have h2 := h1.putT (r.queue ++ [k])
  rw [iv_app] at h2
  exact ⟨_, rfl, S, x.dx, _, rfl, h2.ob, nm_KeyStream_go_through, G, S, L, x, _, ps, ds, rfl, h2, hM, rdy, fun H' x' h' => q _ x' h'⟩
theorem ok_waitLong (T : Txt K mg a) : FnOk P w K mg base CX0 6 a.f_KeyStream_wait_long_enough a.fd_KeyStream_wait_long_enough ["self"] (spWaitLong a) := by
  refine T.F_KeyStream_wait_long_enough.ok sc_KeyStream_wait_long_enough (fun vs H Q E h => ?_) (fun cdv A outer s H vs Q E hr h => ⟨(d_KeyStream_wait_long_enough T (ok_go T) (ok_settle T) hr).1, (d_KeyStream_wait_long_enough T (ok_go T) (ok_settle T) hr).2, ?_⟩)
  · obtain ⟨_, _, _, _, _, _, _, rfl, _⟩ := h
    rfl
  obtain ⟨G, S, L, x, r, ps, ds, rfl, h, hM, rdy, hq0, q⟩ := h
  refine ⟨_, rfl, S, a.C_KeyStream, x.dx, _, rfl, h.ob, T.c_KeyStream, T.no_KeyStream_times_put, (by show 7 < 1000; decide), ?_⟩
  have h1 := h.putL 50 (z := 0) (by decide)
  have hl0 : load { r with left := 50 } ≤ 900 := by
    have := rdy.ok.short
    simp only [load, hq0, List.length_nil] at this ⊢
    have : r.open_.length ≤ 3 := this
    omega
  refine ⟨fun m σ H' => ∃ x' r', m = load r' ∧ σ = [some (.ref S)] ∧ SAt a G H' S L x' r' ∧ r'.maps.all = r.maps.all ∧ Rdy r' ∧ r'.queue = [] ∧ load r' ≤ 900 ∧ flushA r' = flushA { r with left := 50 }, ⟨_, x, _, rfl, rfl, h1, rfl, rdy, hq0, hl0, rfl⟩, ?_⟩
  rintro m σ H1 ⟨x1, r1, rfl, rfl, h1, em, rd1, hq1, hl1, eg⟩
  refine ⟨_, rfl, S, a.C_KeyStream, x1.dx, _, _, rfl, h1.ob, T.c_KeyStream, T.no_KeyStream_open_keys, lk_KeyStream_open_keys, _, .inl ⟨_, SqL.of h1.o, rfl⟩, ?_⟩
  cases eo : r1.open_ with
  | nil =>
    refine iteF ?_
    rw [← eg, flushA_nil eo] at q
    exact q _ x1 h1
  | cons k ks =>
    refine iteT ?_
    have hne : r1.open_ ≠ [] := by rw [eo]; simp
    have hM1 : MapsAt a G L ps ds r1.maps.all := by rw [em]; exact hM
    have hwt := rd1.wt
    have hsh := rd1.ok.short
    obtain ⟨ok2, hlt, ha2⟩ := settle_load rd1.ok hne
    have w2 := settle_wt rd1.ok hne
    have rd2 : Rdy (Ue09.settle r1) := ⟨ok2, settle_dig rd1.dig, by omega⟩
    obtain ⟨g1, g2, g3, g4, _⟩ := goA_facts ok2
    obtain ⟨d3, w3⟩ := goA_more ok2 (settle_dig rd1.dig)
    refine ⟨fun σ' H' => ∃ x' r', load r' < load r1 ∧ σ' = [some (.ref S)] ∧ SAt a G H' S L x' r' ∧ r'.maps.all = r.maps.all ∧ Rdy r' ∧ r'.queue = [] ∧ load r' ≤ 900 ∧ flushA r' = flushA { r with left := 50 }, fun σ' H' ⟨x', r', h1, h2⟩ => ⟨_, h1, x', r', rfl, h2⟩, ?_⟩
    refine ⟨_, rfl, S, x1.dx, _, rfl, h1.ob, nm_KeyStream_settle, G, S, L, x1, r1, ps, ds, rfl, h1, hM1, rd1.ok.maps, hne, by omega, rd1.dig, ?_, ?_, fun H5 x5 h5 => ?_⟩
    · simp only [wt] at hwt; omega
    · rw [hq1]; exact (by decide)
    · have hM2 : MapsAt a G L ps ds (Ue09.settle r1).maps.all := by rw [ha2]; exact hM1
      refine ⟨_, rfl, S, x5.dx, _, rfl, h5.ob, nm_KeyStream_go_through, G, S, L, x5, Ue09.settle r1, ps, ds, rfl, h5, hM2, rd2, fun H6 x6 h6 => ?_⟩
      exact ⟨x6, goA (Ue09.settle r1), by omega, rfl, h6, g4.trans (ha2.trans em), ⟨g1, d3, by have := rd2.wt; omega⟩, g2, by omega, (flushA_cons rd1.ok hl1 hne).symm.trans eg⟩
end
end Km

namespace Km
open PySem PySem.Spec PyProof.Rows L2

/-! ### what a call makes: instances; a binding read -/
theorem putF_le (f : Str) (v : V) : ∀ l : List (Str × V), (putF f v l).length ≤ l.length + 1
  | [] => Nat.le_refl _
  | (g, x) :: r => by
    by_cases h : g = f
    · subst h; rw [put_here]; exact Nat.le_succ _
    · rw [put_past h, List.length_cons, List.length_cons]
      exact Nat.succ_le_succ (putF_le f v r)
theorem putF_1 {f1 f2 : Str} {v1 v2 : V} : (putF f2 v2 (putF f1 v1 [])).length < 1000 := Nat.lt_of_le_of_lt (putF_le ..) (Nat.lt_of_le_of_lt (Nat.succ_le_succ (putF_le ..)) (by decide))
theorem putF_2 {f1 f2 f3 : Str} {v1 v2 v3 : V} : (putF f3 v3 (putF f2 v2 (putF f1 v1 []))).length < 1000 := Nat.lt_of_le_of_lt (putF_le ..) (Nat.lt_of_le_of_lt (Nat.succ_le_succ (putF_le ..)) (Nat.lt_of_le_of_lt (Nat.succ_le_succ (Nat.succ_le_succ (putF_le ..))) (by decide)))
def Rest (H H' : Hp) (p : Addr) : Prop := ∀ b o, H b = some o → b ≠ p → H' b = some o
theorem made_same {H H' : Hp} {x dx C : Addr} (nx : H x = none) (nd : H dx = none) (k : Rest (upd (upd H dx (.own x)) x (.ins C dx [])) H' x) : Same H H' := Same.made nx nd k
def spBindingInit (a : Ad) : Sp := fun vs H Q _ => ∃ (p dx : Addr) (v1 v2 v3 v4 : V), vs = [.ref p, v1, v2, v3, v4] ∧ H p = some (.ins a.C_Binding dx []) ∧
  ∀ H', H' p = some (.ins a.C_Binding dx (fl_Binding v1 v2 v3 v4)) → Rest H H' p → Q .non H'
def spKeyMapInit (a : Ad) : Sp := fun vs H Q _ => ∃ (p dx : Addr) (v0 v : V), vs = [.ref p, v0, v] ∧ H p = some (.ins a.C_KeyMap dx []) ∧
  ∀ H' d, H d = none → d ≠ p → H' p = some (.ins a.C_KeyMap dx (fl_KeyMap v0 v (.ref d))) → H' d = some (.dT []) → Rest H H' p → Q .non H'
def spReaderInit (a : Ad) : Sp := fun vs H Q _ => ∃ (p dx : Addr) (v : V), vs = [.ref p, v] ∧ H p = some (.ins a.C_Reader dx []) ∧
  ∀ H', H' p = some (.ins a.C_Reader dx (fl_Reader v (.int 0))) → Rest H H' p → Q .non H'
theorem cut_mid (l : List V) (i j : Nat) (h1 : i ≤ j) (h2 : j ≤ l.length) : cutV l (some (i : Int)) (some (j : Int)) = (l.drop i).take (j - i) := by
  unfold cutV
  rw [HT.sIx_nat, HT.sIx_nat, Nat.min_eq_left h2, Nat.min_eq_left (Nat.le_trans h1 h2)]
/-- keys within bounds, so many -/
def fits (l : List Nat) (lo hi : Nat) : Bool := decide (lo ≤ l.length) && decide (l.length ≤ hi) && Ue09.isKeys l
def spKeysFit (a : Ad) (K : PySem.W.Frag) : Sp := fun vs H Q _ => ∃ (p : Addr) (l : List Nat) (lo hi : Nat), vs = [.ref p, .int (lo : Int), .int (hi : Int)] ∧ (SqL K H p (iv l) ∨ SqT K H p (iv l)) ∧ Q (.bl (fits l lo hi)) H
def spSeqFits (a : Ad) (K : PySem.W.Frag) : Sp := fun vs H Q _ => ∃ (p : Addr) (l : List Nat), vs = [.ref p] ∧ (SqL K H p (iv l) ∨ SqT K H p (iv l)) ∧ Q (.bl (Ue09.seqOk l)) H
def spDetFits (a : Ad) : Sp := fun vs H Q _ => ∃ (p : Addr) (t : Ue09.Target), vs = [.int (code t), .ref p] ∧ H p = some (.lst (iv (dets t))) ∧ ∀ H', Same H H' → Q (.bl (Ue09.targetOk t)) H'
def spBindFits (a : Ad) : Sp := fun vs H Q _ => ∃ (p : Addr) (b : Ue09.Binding), vs = [.ref p] ∧ BindAt a H p b ∧ ∀ H', Same H H' → Q (.bl (Ue09.seqOk b.seq && Ue09.targetOk b.target)) H'
def spReadBinding (a : Ad) (K : PySem.W.Frag) : Sp := fun vs H Q _ => ∃ (q : Addr) (l : List Nat) (now : Bool) (t : Ue09.Target) (s : List Nat), vs = [b2 now, .ref q] ∧ SqL K H q (iv l) ∧ Ue09Neutral.targetIn l = some (t, s) ∧
  ∀ H' p, Same H H' → BindAt a (minus H' H) p ⟨s, now, t⟩ → Q (.ref p) H'
theorem seqOk_fits (l : List Nat) : Ue09.seqOk l = fits l 1 4 := by
  unfold Ue09.seqOk fits
  rw [Bool.and_assoc]
section
variable {P : Program} {w : World} {K : PySem.W.Frag} {mg : Str → Option Value} {base : Heap} {a : Ad}
theorem ok_BindingInit (T : Txt K mg a) : FnOk P w K mg base CX0 1 a.f_Binding_init a.fd_Binding_init ["self", "at_once", "purpose", "details", "sequence"] (spBindingInit a) := by
  refine T.F_Binding_init.ok sc_Binding_init (fun vs H Q E h => ?_) (fun cdv A outer s H vs Q E hr h => ⟨(d_Binding_init T hr).1, (d_Binding_init T hr).2, ?_⟩)
  · obtain ⟨_, _, _, _, _, _, rfl, _⟩ := h
    rfl
  obtain ⟨p, dx, v1, v2, v3, v4, rfl, hp, q⟩ := h
  refine ⟨_, rfl, _, rfl, p, a.C_Binding, dx, [], rfl, hp, T.c_Binding, T.no_Binding_at_once, (by show 0 < 1000; decide), ?_⟩
  refine ⟨_, rfl, _, rfl, p, a.C_Binding, dx, _, rfl, upd_same, T.c_Binding, T.no_Binding_purpose, (by show 1 < 1000; decide), ?_⟩
  refine ⟨_, rfl, _, rfl, p, a.C_Binding, dx, _, rfl, upd_same, T.c_Binding, T.no_Binding_details, putF_1, ?_⟩
  refine ⟨_, rfl, _, rfl, p, a.C_Binding, dx, _, rfl, upd_same, T.c_Binding, T.no_Binding_sequence, putF_2, ?_⟩
  refine q _ (Eq.trans upd_same (congrArg (fun z => some (HO.ins a.C_Binding dx z)) new_Binding)) fun b o e hb => ?_
  rw [upd_ne hb, upd_ne hb, upd_ne hb, upd_ne hb]
  exact e
theorem ok_KeyMapInit (T : Txt K mg a) : FnOk P w K mg base CX0 1 a.f_KeyMap_init a.fd_KeyMap_init ["self", "number", "shut"] (spKeyMapInit a) := by
  refine T.F_KeyMap_init.ok sc_KeyMap_init (fun vs H Q E h => ?_) (fun cdv A outer s H vs Q E hr h => ⟨(d_KeyMap_init T hr).1, (d_KeyMap_init T hr).2, ?_⟩)
  · obtain ⟨_, _, _, _, rfl, _⟩ := h
    rfl
  obtain ⟨p, dx, v0, v, rfl, hp, q⟩ := h
  refine ⟨_, rfl, _, rfl, p, a.C_KeyMap, dx, [], rfl, hp, T.c_KeyMap, T.no_KeyMap_number, (by show 0 < 1000; decide), ?_⟩
  refine ⟨_, rfl, _, rfl, p, a.C_KeyMap, dx, _, rfl, upd_same, T.c_KeyMap, T.no_KeyMap_shut, (by show 1 < 1000; decide), ?_⟩
  intro d hd
  have npd : p ≠ d := ne_of_none upd_same hd
  have hd0 : H d = none := by rw [upd_ne npd.symm, upd_ne npd.symm] at hd; exact hd
  refine ⟨_, rfl, p, a.C_KeyMap, dx, _, rfl, (by rw [upd_ne npd]; exact upd_same), T.c_KeyMap, T.no_KeyMap_bindings, putF_1, ?_⟩
  refine q _ d hd0 npd.symm (Eq.trans upd_same (congrArg (fun z => some (HO.ins a.C_KeyMap dx z)) new_KeyMap)) (by rw [upd_ne npd.symm]; exact upd_same) fun b o e hb => ?_
  rw [upd_ne hb, upd_ne (ne_of_none e hd0), upd_ne hb, upd_ne hb]
  exact e
theorem ok_ReaderInit (T : Txt K mg a) : FnOk P w K mg base CX0 1 a.f_Reader_init a.fd_Reader_init ["self", "numbers"] (spReaderInit a) := by
  refine T.F_Reader_init.ok sc_Reader_init (fun vs H Q E h => ?_) (fun cdv A outer s H vs Q E hr h => ⟨(d_Reader_init T hr).1, (d_Reader_init T hr).2, ?_⟩)
  · obtain ⟨_, _, _, rfl, _⟩ := h
    rfl
  obtain ⟨p, dx, v, rfl, hp, q⟩ := h
  refine ⟨_, rfl, _, rfl, p, a.C_Reader, dx, [], rfl, hp, T.c_Reader, T.no_Reader_numbers, (by show 0 < 1000; decide), ?_⟩
  refine ⟨_, rfl, p, a.C_Reader, dx, _, rfl, upd_same, T.c_Reader, T.no_Reader_place, (by show 1 < 1000; decide), ?_⟩
  refine q _ (Eq.trans upd_same (congrArg (fun z => some (HO.ins a.C_Reader dx z)) new_Reader)) fun b o e hb => ?_
  rw [upd_ne hb, upd_ne hb]
  exact e
theorem ok_KeysFit (T : Txt K mg a) : FnOk P w K mg base CX0 1 a.f_keys_fit a.fd_keys_fit ["keys", "fewest", "most"] (spKeysFit a K) := by
  refine T.F_keys_fit.ok sc_keys_fit (fun vs H Q E h => ?_) (fun cdv A outer s H vs Q E hr h => ⟨(d_keys_fit T hr).1, (d_keys_fit T hr).2, ?_⟩)
  · obtain ⟨_, _, _, _, rfl, _⟩ := h
    rfl
  obtain ⟨p, l, lo, hi, rfl, hl, q⟩ := h
  have e1 : decide ((lo : Int) ≤ (l.length : Int)) = decide (lo ≤ l.length) := by
    by_cases z : lo ≤ l.length
    · rw [decide_eq_true z, decide_eq_true (by omega)]
    · rw [decide_eq_false z, decide_eq_false (by omega)]
  have e2 : decide ((l.length : Int) ≤ (hi : Int)) = decide (l.length ≤ hi) := by
    by_cases z : l.length ≤ hi
    · rw [decide_eq_true z, decide_eq_true (by omega)]
    · rw [decide_eq_false z, decide_eq_false (by omega)]
  unfold fits at q
  refine ⟨_, rfl, _, rfl, p, _, rfl, hl, _, _, rfl, rfl, _, rfl, ?_⟩
  rw [iv_len]
  have mx : ∀ b1 : Bool, (decide (lo ≤ l.length) && decide (l.length ≤ hi)) = b1 → (b1 = true → Q (.bl (Ue09.isKeys l)) H) ∧ (b1 = false → Q (.bl false) H) := fun b1 e => by
    rw [e] at q
    exact ⟨fun z => by rw [z, Bool.true_and] at q; exact q, fun z => by rw [z, Bool.false_and] at q; exact q⟩
  refine ite2 (fun c => ?_) (fun c => ?_)
  · rw [e1] at c
    refine ⟨_, rfl, _, _, rfl, rfl, _, rfl, ?_⟩
    refine ite2 (fun c2 => ?_) (fun c2 => ?_)
    · have c2' : decide ((l.length : Int) ≤ (hi : Int)) = true := c2
      rw [e2] at c2'
      have q1 := (mx true (by rw [c, c2']; rfl)).1 rfl
      have hl' : SqL K H p ((l.map fun (n : Nat) => (n : Int)).map V.int) ∨ SqT K H p ((l.map fun (n : Nat) => (n : Int)).map V.int) := by
        rw [List.map_map]; exact hl
      refine ⟨_, rfl, p, _, 0, rfl, rfl, hl', fun m hm hall => ⟨_, _, rfl, rfl, ?_⟩, fun hn => ⟨_, _, rfl, rfl, ?_⟩⟩
      · have ek : Ue09.isKeys l = decide (m ≤ 255) := by
          unfold Ue09.isKeys
          obtain ⟨k, hk, rfl⟩ := List.mem_map.mp hm
          by_cases z : k ≤ 255
          · rw [decide_eq_true (by omega : (k : Int) ≤ 255)]
            rw [List.all_eq_true]
            intro j hj
            have := hall (j : Int) (List.mem_map.mpr ⟨j, hj, rfl⟩)
            exact decide_eq_true (by omega)
          · rw [decide_eq_false (by omega : ¬ (k : Int) ≤ 255)]
            rw [List.all_eq_false]
            exact ⟨k, hk, by simpa using z⟩
        rw [ek] at q1
        exact q1
      · have el : l = [] := by simpa using hn
        subst el
        exact q1
    · have c2' : ¬ decide ((l.length : Int) ≤ (hi : Int)) = true := c2
      rw [e2] at c2'
      have c3 : decide (l.length ≤ hi) = false := by simpa using c2'
      exact (mx false (by rw [c3, Bool.and_false])).2 rfl
  · rw [e1] at c
    have c3 : decide (lo ≤ l.length) = false := by simpa using c
    refine ⟨_, rfl, iteF ?_⟩
    exact (mx false (by rw [c3, Bool.false_and])).2 rfl
theorem ok_SeqFits (T : Txt K mg a) : FnOk P w K mg base CX0 2 a.f_sequence_fits a.fd_sequence_fits ["sequence"] (spSeqFits a K) := by
  refine T.F_sequence_fits.ok sc_sequence_fits (fun vs H Q E h => ?_) (fun cdv A outer s H vs Q E hr h => ⟨(d_sequence_fits T (ok_KeysFit T) hr).1, (d_sequence_fits T (ok_KeysFit T) hr).2, ?_⟩)
  · obtain ⟨_, _, rfl, _⟩ := h
    rfl
  obtain ⟨p, l, rfl, hl, q⟩ := h
  rw [seqOk_fits] at q
  exact ⟨_, rfl, p, l, 1, 4, rfl, hl, q⟩
end
end Km

namespace Km
open PySem PySem.Spec PyProof.Rows L2
section
variable {P : Program} {w : World} {K : PySem.W.Frag} {mg : Str → Option Value} {base : Heap} {a : Ad}
theorem ok_DetFits (T : Txt K mg a) : FnOk P w K mg base CX0 2 a.f_details_fit a.fd_details_fit ["purpose", "details"] (spDetFits a) := by
  refine T.F_details_fit.ok sc_details_fit (fun vs H Q E h => ?_) (fun cdv A outer s H vs Q E hr h => ⟨(d_details_fit T (ok_KeysFit T) hr).1, (d_details_fit T (ok_KeysFit T) hr).2, ?_⟩)
  · obtain ⟨_, _, rfl, _⟩ := h
    rfl
  obtain ⟨p, t, rfl, hp, q⟩ := h
  have q0 := q H (Same.refl H)
  refine ⟨_, rfl, rfl, _, rfl, ?_⟩
  cases t with
  | command n =>
    refine iteT ?_
    refine ⟨_, rfl, p, _, _, _, rfl, rfl, SqL.of hp, atI_nat (j := 0) rfl, _, _, rfl, rfl, ?_⟩
    have e : decide ((n : Int) ≤ 999) = Ue09.targetOk (.command n) := by
      show _ = decide (n ≤ 999)
      by_cases z : n ≤ 999
      · rw [decide_eq_true z, decide_eq_true (by omega)]
      · rw [decide_eq_false z, decide_eq_false (by omega)]
    rw [← e] at q0
    exact q0
  | keys l =>
    refine iteF ?_
    refine ⟨_, rfl, rfl, _, rfl, iteT ?_⟩
    refine ⟨_, rfl, p, l, 1, 6, rfl, .inl (SqL.of hp), ?_⟩
    have e : fits l 1 6 = Ue09.targetOk (.keys l) := by
      unfold fits Ue09.targetOk
      rw [Bool.and_assoc]
    rw [e]
    exact q0
  | plain l =>
    refine iteF ?_
    refine ⟨_, rfl, rfl, _, rfl, iteF ?_⟩
    refine ⟨_, rfl, rfl, _, rfl, iteT ?_⟩
    refine ⟨_, rfl, p, l, 0, 6, rfl, .inl (SqL.of hp), ?_⟩
    have e : fits l 0 6 = Ue09.targetOk (.plain l) := by
      unfold fits Ue09.targetOk
      rw [decide_eq_true (Nat.zero_le _), Bool.true_and]
    rw [e]
    exact q0
  | push n | turn n =>
    refine iteF ?_
    refine ⟨_, rfl, rfl, _, rfl, iteF ?_⟩
    refine ⟨_, rfl, rfl, _, rfl, iteF ?_⟩
    refine ⟨_, rfl, (by show 2 ≤ sizeLine; decide), fun p2 hp2 => ⟨p2, _, rfl, .inr (SqT.of upd_same), rfl, rfl, _, rfl, iteT ?_⟩⟩
    refine ⟨_, rfl, p, _, _, _, rfl, rfl, SqL.of (same_new hp2 _ _ hp), atI_nat (j := 0) rfl, _, _, rfl, rfl, ?_⟩
    have e : decide ((n : Int) < 8) = decide (n < 8) := by
      by_cases z : n < 8
      · rw [decide_eq_true z, decide_eq_true (by omega)]
      · rw [decide_eq_false z, decide_eq_false (by omega)]
    have q1 := q _ (same_new (o := .tup [.int 3, .int 5]) hp2)
    show Q (.bl (decide ((n : Int) < 8))) _
    rw [e]
    exact q1
  | pop | nothing =>
    refine iteF ?_
    refine ⟨_, rfl, rfl, _, rfl, iteF ?_⟩
    refine ⟨_, rfl, rfl, _, rfl, iteF ?_⟩
    refine ⟨_, rfl, (by show 2 ≤ sizeLine; decide), fun p2 hp2 => ⟨p2, _, rfl, .inr (SqT.of upd_same), rfl, rfl, _, rfl, iteF ?_⟩⟩
    exact q _ (same_new hp2)
theorem ok_BindFits (T : Txt K mg a) : FnOk P w K mg base CX0 3 a.f_binding_fits a.fd_binding_fits ["binding"] (spBindFits a) := by
  refine T.F_binding_fits.ok sc_binding_fits (fun vs H Q E h => ?_) (fun cdv A outer s H vs Q E hr h => ⟨(d_binding_fits T (ok_DetFits T) (ok_SeqFits T) hr).1, (d_binding_fits T (ok_DetFits T) (ok_SeqFits T) hr).2, ?_⟩)
  · obtain ⟨_, _, rfl, _⟩ := h
    rfl
  obtain ⟨p, b, rfl, ⟨dx, dp, sq, b1, b2', b3⟩, q⟩ := h
  refine ⟨_, rfl, p, a.C_Binding, dx, _, _, rfl, b1, T.c_Binding, T.no_Binding_sequence, lk_Binding_sequence, sq, b.seq, rfl, .inr (SqT.of b3), _, rfl, ?_⟩
  cases e : Ue09.seqOk b.seq with
  | true =>
    rw [e] at q
    refine iteT ?_
    refine ⟨_, rfl, p, a.C_Binding, dx, _, _, rfl, b1, T.c_Binding, T.no_Binding_purpose, lk_Binding_purpose, _, rfl, p, a.C_Binding, dx, _, _, rfl, b1, T.c_Binding, T.no_Binding_details, lk_Binding_details, dp, b.target, rfl, b2', fun H' s' => ?_⟩
    have q1 := q H' s'
    rw [Bool.true_and] at q1
    exact q1
  | false =>
    rw [e] at q
    refine iteF ?_
    exact q H (Same.refl H)
theorem ok_ReadBinding (T : Txt K mg a) : FnOk P w K mg base CX0 3 a.f_read_binding a.fd_read_binding ["at_once", "row"] (spReadBinding a K) := by
  refine T.F_read_binding.ok sc_read_binding (fun vs H Q E h => ?_) (fun cdv A outer s H vs Q E hr h => ⟨(d_read_binding T (ok_BindingInit T) hr).1, (d_read_binding T (ok_BindingInit T) hr).2, ?_⟩)
  · obtain ⟨_, _, _, _, _, rfl, _⟩ := h
    rfl
  obtain ⟨r, l, now, t, sq, rfl, hl, ht, q⟩ := h
  -- the end: the object made
  have fin : ∀ (st hm : Nat) (H1 : Hp), Same H H1 → st + hm ≤ l.length → (l.drop st).take hm = dets t → l.drop (st + hm) = sq → ∀ p1 p2 p3 : Addr, H1 p1 = none →
      (upd H1 p1 (.lst (cutV (iv l) (some (st : Int)) (some ((st + hm : Nat) : Int))))) p2 = none →
      (upd (upd H1 p1 (.lst (cutV (iv l) (some (st : Int)) (some ((st + hm : Nat) : Int))))) p2 (.lst (cutV (iv l) (some ((st + hm : Nat) : Int)) none))) p3 = none →
      ∀ x dx, (upd (upd (upd H1 p1 (.lst (cutV (iv l) (some (st : Int)) (some ((st + hm : Nat) : Int))))) p2 (.lst (cutV (iv l) (some ((st + hm : Nat) : Int)) none))) p3 (.tup (cutV (iv l) (some ((st + hm : Nat) : Int)) none))) x = none →
      (upd (upd (upd H1 p1 (.lst (cutV (iv l) (some (st : Int)) (some ((st + hm : Nat) : Int))))) p2 (.lst (cutV (iv l) (some ((st + hm : Nat) : Int)) none))) p3 (.tup (cutV (iv l) (some ((st + hm : Nat) : Int)) none))) dx = none → dx ≠ x →
      spBindingInit a [.ref x, b2 now, .int (code t), .ref p1, .ref p3] (upd (upd (upd (upd (upd H1 p1 (.lst (cutV (iv l) (some (st : Int)) (some ((st + hm : Nat) : Int))))) p2 (.lst (cutV (iv l) (some ((st + hm : Nat) : Int)) none))) p3 (.tup (cutV (iv l) (some ((st + hm : Nat) : Int)) none))) dx (.own x)) x (.ins a.C_Binding dx []))
        (fun v H2 => v = .non ∧ Q (.ref x) H2) E0 := by
    intro st hm H1 s1 hle ed es p1 p2 p3 hp1 hp2 hp3 x dx nx nd ne
    have e1 : cutV (iv l) (some (st : Int)) (some ((st + hm : Nat) : Int)) = iv (dets t) := by
      rw [cut_mid _ _ _ (Nat.le_add_right _ _) (by rw [iv_len]; exact hle), iv_drop, iv_take, Nat.add_sub_cancel_left, ed]
    have e2 : cutV (iv l) (some ((st + hm : Nat) : Int)) none = iv sq := by
      rw [cut_from _ _ (by rw [iv_len]; exact hle), iv_drop, es]
    rw [e1] at hp2
    rw [e1, e2] at hp3 nx nd
    rw [e1, e2]
    refine ⟨x, dx, b2 now, .int (code t), .ref p1, .ref p3, rfl, upd_same, fun H' h' kp => ⟨rfl, ?_⟩⟩
    have sA : Same H1 (upd (upd (upd H1 p1 (.lst (iv (dets t)))) p2 (.lst (iv sq))) p3 (.tup (iv sq))) := (same_new hp1).trans ((same_new hp2).trans (same_new hp3))
    have sB := made_same nx nd kp
    have g1 : (upd (upd (upd H1 p1 (.lst (iv (dets t)))) p2 (.lst (iv sq))) p3 (.tup (iv sq))) p1 = some (.lst (iv (dets t))) := same_new hp3 _ _ (same_new hp2 _ _ upd_same)
    have sAll := s1.trans sA
    have n1 : H p1 = none := same_none s1 hp1
    have n3 : H p3 = none := same_none (s1.trans ((same_new hp1).trans (same_new hp2))) hp3
    have nX : H x = none := same_none sAll nx
    exact q _ x (sAll.trans sB) ⟨dx, p1, p3, by rw [minus_get nX]; exact h', by rw [minus_get n1]; exact sB _ _ g1, by rw [minus_get n3]; exact sB _ _ upd_same⟩
  obtain ⟨c, l1, hcl⟩ : ∃ c l1, l = c :: l1 := by
    cases l with
    | nil => simp [Ue09Neutral.targetIn] at ht
    | cons c l1 => exact ⟨c, l1, rfl⟩
  have e0 : (iv l)[0]? = some (.int (c : Int)) := by rw [hcl]; rfl
  -- purpose = row[0]; start = 1; how_many = 0
  refine ⟨_, rfl, r, _, _, _, rfl, rfl, hl, atI_nat (j := 0) e0, ?_⟩
  -- if purpose in (1, 2)
  refine ⟨_, rfl, (by show 2 ≤ sizeLine; decide), fun q1 hq1 => ⟨q1, _, rfl, .inr (SqT.of upd_same), rfl, rfl, _, rfl, ?_⟩⟩
  have sq1 : Same H (upd H q1 (.tup [.int 1, .int 2])) := same_new hq1
  by_cases c12 : c = 1 ∨ c = 2
  · obtain ⟨n, l2, hl2, hn, et, es, ec⟩ : ∃ n l2, l1 = n :: l2 ∧ n ≤ l2.length ∧ dets t = l2.take n ∧ sq = l2.drop n ∧ code t = (c : Int) := by
      rw [hcl] at ht
      rcases c12 with rfl | rfl
      all_goals
        cases l1 with
        | nil => simp [Ue09Neutral.targetIn] at ht
        | cons n l2 =>
          simp only [Ue09Neutral.targetIn] at ht
          split at ht
          · cases ht
          · cases ht
            exact ⟨n, l2, rfl, by omega, rfl, rfl, rfl⟩
    have cin : inV (V.int (c : Int)) [.int 1, .int 2] = true := by rcases c12 with rfl | rfl <;> rfl
    rw [cin]
    refine iteT ?_
    have e1 : (iv l)[1]? = some (.int (n : Int)) := by rw [hcl, hl2]; rfl
    refine ⟨_, rfl, r, _, _, _, rfl, rfl, sq1.seq hl, atI_nat (j := 1) e1, ?_⟩
    rw [← ec] at *
    refine ⟨_, rfl, _, rfl, _, _, rfl, rfl, ?_⟩
    -- Binding(at_once, purpose, row[start:end], tuple(row[end:]))
    refine ⟨_, rfl, _, rfl, _, rfl, _, rfl, _, rfl, _, rfl, _, rfl, r, _, rfl, sq1.seq hl, fun p1 hp1 => ?_⟩
    have s2 := sq1.trans (same_new (o := .lst (cutV (iv l) (some ((2 : Nat) : Int)) (some (((2) + (n) : Nat) : Int)))) hp1)
    refine ⟨_, rfl, _, rfl, _, rfl, r, _, rfl, s2.seq hl, fun p2 hp2 => ?_⟩
    refine ⟨p2, _, rfl, .inl ⟨SqL.of upd_same, fun p3 hp3 => ?_⟩⟩
    exact fin (2) (n) _ sq1 (by rw [hcl, hl2]; simp; omega) (by rw [hcl, hl2]; exact et.symm) (by rw [hcl, hl2, es, Nat.add_comm]; rfl) p1 p2 p3 hp1 hp2 hp3
  · have cin : inV (V.int (c : Int)) [.int 1, .int 2] = false := by
      simp only [not_or] at c12
      simp only [inV, List.any_cons, List.any_nil, Bool.or_false, Bool.or_eq_false_iff]
      refine ⟨?_, ?_⟩
      · show eqV (V.int 1) (V.int (c : Int)) = false
        simp only [eqV]
        simp; omega
      · show eqV (V.int 2) (V.int (c : Int)) = false
        simp only [eqV]
        simp; omega
    rw [cin]
    refine iteF ?_
    refine ⟨_, rfl, (by show 3 ≤ sizeLine; decide), fun q2 hq2 => ⟨q2, _, rfl, .inr (SqT.of upd_same), rfl, rfl, _, rfl, ?_⟩⟩
    have sq2 := sq1.trans (same_new (o := .tup [.int 0, .int 3, .int 5]) hq2)
    by_cases c035 : c = 0 ∨ c = 3 ∨ c = 5
    · obtain ⟨m, l2, hl2, et, es, ec⟩ : ∃ m l2, l1 = m :: l2 ∧ dets t = [m] ∧ sq = l2 ∧ code t = (c : Int) := by
        rw [hcl] at ht
        rcases c035 with rfl | rfl | rfl
        all_goals
          cases l1 with
          | nil => simp [Ue09Neutral.targetIn] at ht
          | cons m l2 =>
            simp only [Ue09Neutral.targetIn] at ht
            cases ht
            exact ⟨m, _, rfl, rfl, rfl, rfl⟩
      have cin2 : inV (V.int (c : Int)) [.int 0, .int 3, .int 5] = true := by rcases c035 with rfl | rfl | rfl <;> rfl
      rw [cin2]
      refine iteT ?_
      rw [← ec] at *
      refine ⟨_, rfl, _, rfl, _, _, rfl, rfl, ?_⟩
      refine ⟨_, rfl, _, rfl, _, rfl, _, rfl, _, rfl, _, rfl, _, rfl, r, _, rfl, sq2.seq hl, fun p1 hp1 => ?_⟩
      have s2 := sq2.trans (same_new (o := .lst (cutV (iv l) (some ((1 : Nat) : Int)) (some (((1) + (1) : Nat) : Int)))) hp1)
      refine ⟨_, rfl, _, rfl, _, rfl, r, _, rfl, s2.seq hl, fun p2 hp2 => ?_⟩
      refine ⟨p2, _, rfl, .inl ⟨SqL.of upd_same, fun p3 hp3 => ?_⟩⟩
      exact fin (1) (1) _ sq2 (by rw [hcl, hl2]; simp) (by rw [hcl, hl2]; exact et.symm) (by rw [hcl, hl2, es]; rfl) p1 p2 p3 hp1 hp2 hp3
    · obtain ⟨et, es, ec⟩ : dets t = [] ∧ sq = l1 ∧ code t = (c : Int) := by
        rw [hcl] at ht
        simp only [not_or] at c12 c035
        unfold Ue09Neutral.targetIn at ht
        split at ht
        · rename_i e; injection e with e _; exact absurd e c035.1
        · rename_i e; injection e with e _; exact absurd e c12.1
        · rename_i e; injection e with e _; exact absurd e c12.2
        · rename_i e; injection e with e _; exact absurd e c035.2.1
        · rename_i e; injection e with e e'; cases ht; subst e e'; exact ⟨rfl, rfl, rfl⟩
        · rename_i e; injection e with e _; exact absurd e c035.2.2
        · rename_i e; injection e with e e'; cases ht; subst e e'; exact ⟨rfl, rfl, rfl⟩
        · cases ht
      have cin2 : inV (V.int (c : Int)) [.int 0, .int 3, .int 5] = false := by
        simp only [not_or] at c035
        simp only [inV, List.any_cons, List.any_nil, Bool.or_false, Bool.or_eq_false_iff]
        refine ⟨?_, ?_, ?_⟩
        · show eqV (V.int 0) (V.int (c : Int)) = false
          simp only [eqV]
          simp; omega
        · show eqV (V.int 3) (V.int (c : Int)) = false
          simp only [eqV]
          simp; omega
        · show eqV (V.int 5) (V.int (c : Int)) = false
          simp only [eqV]
          simp; omega
      rw [cin2]
      refine iteF ?_
      rw [← ec] at *
      refine ⟨_, rfl, _, rfl, _, _, rfl, rfl, ?_⟩
      refine ⟨_, rfl, _, rfl, _, rfl, _, rfl, _, rfl, _, rfl, _, rfl, r, _, rfl, sq2.seq hl, fun p1 hp1 => ?_⟩
      have s2 := sq2.trans (same_new (o := .lst (cutV (iv l) (some ((1 : Nat) : Int)) (some (((1) + (0) : Nat) : Int)))) hp1)
      refine ⟨_, rfl, _, rfl, _, rfl, r, _, rfl, s2.seq hl, fun p2 hp2 => ?_⟩
      refine ⟨p2, _, rfl, .inl ⟨SqL.of upd_same, fun p3 hp3 => ?_⟩⟩
      exact fin (1) (0) _ sq2 (by rw [hcl]; simp) (by rw [et]; rfl) (by rw [hcl, es]; rfl) p1 p2 p3 hp1 hp2 hp3
end
end Km

namespace Km
open PySem PySem.Spec PyProof.Rows L2

/-! ### the reader -/
def RdAt (a : Ad) (H : Hp) (R dx N : Addr) (i : Nat) : Prop := H R = some (.ins a.C_Reader dx (fl_Reader (.ref N) (.int (i : Int))))
def spHasMore (a : Ad) (K : PySem.W.Frag) : Sp := fun vs H Q _ => ∃ (R dx N : Addr) (l : List Nat) (i : Nat), vs = [.ref R] ∧ RdAt a H R dx N i ∧ SqL K H N (iv l) ∧ Q (.bl (decide (i < l.length))) H
def spTakeNumber (a : Ad) (K : PySem.W.Frag) : Sp := fun vs H Q _ => ∃ (R dx N : Addr) (l : List Nat) (i n : Nat), vs = [.ref R] ∧ RdAt a H R dx N i ∧ SqL K H N (iv l) ∧ l[i]? = some n ∧
  ∀ H', RdAt a H' R dx N (i + 1) → Same (without H [R]) H' → Q (.int (n : Int)) H'
def spTakeRow (a : Ad) (K : PySem.W.Frag) : Sp := fun vs H Q _ => ∃ (R dx N : Addr) (l : List Nat) (i n : Nat), vs = [.ref R] ∧ RdAt a H R dx N i ∧ SqL K H N (iv l) ∧ l[i]? = some n ∧ i + 1 + n ≤ l.length ∧
  ∀ H' p, RdAt a H' R dx N (i + 1 + n) → Same (without H [R]) H' → H p = none → H' p = some (.lst (iv ((l.drop (i + 1)).take n))) → Q (.ref p) H'
theorem without_out1 {H : Hp} {p : Addr} {o : HO} : Same (without H [p]) (upd H p o) := fun b u e => by
  have hb : b ≠ p := by
    intro z; subst z; rw [without_in (by simp)] at e; cases e
  rw [upd_ne hb]; exact without_same b u e
section
variable {P : Program} {w : World} {K : PySem.W.Frag} {mg : Str → Option Value} {base : Heap} {a : Ad}
theorem ok_HasMore (T : Txt K mg a) : FnOk P w K mg base CX0 1 a.f_Reader_has_more a.fd_Reader_has_more ["self"] (spHasMore a K) := by
  refine T.F_Reader_has_more.ok sc_Reader_has_more (fun vs H Q E h => ?_) (fun cdv A outer s H vs Q E hr h => ⟨(d_Reader_has_more T hr).1, (d_Reader_has_more T hr).2, ?_⟩)
  · obtain ⟨_, _, _, _, _, rfl, _⟩ := h
    rfl
  obtain ⟨R, dx, N, l, i, rfl, h, hl, q⟩ := h
  refine ⟨_, rfl, R, a.C_Reader, dx, _, _, rfl, h, T.c_Reader, T.no_Reader_place, lk_Reader_place, _, rfl, R, a.C_Reader, dx, _, _, rfl, h, T.c_Reader, T.no_Reader_numbers, lk_Reader_numbers, N, _, rfl, .inl hl, _, _, rfl, rfl, ?_⟩
  have e : decide ((i : Int) < ((iv l).length : Int)) = decide (i < l.length) := by
    rw [iv_len]
    by_cases z : i < l.length
    · rw [decide_eq_true z, decide_eq_true (by omega)]
    · rw [decide_eq_false z, decide_eq_false (by omega)]
  show Q (.bl (decide ((i : Int) < ((iv l).length : Int)))) H
  rw [e]
  exact q
theorem ok_TakeNumber (T : Txt K mg a) : FnOk P w K mg base CX0 1 a.f_Reader_take_number a.fd_Reader_take_number ["self"] (spTakeNumber a K) := by
  refine T.F_Reader_take_number.ok sc_Reader_take_number (fun vs H Q E h => ?_) (fun cdv A outer s H vs Q E hr h => ⟨(d_Reader_take_number T hr).1, (d_Reader_take_number T hr).2, ?_⟩)
  · obtain ⟨_, _, _, _, _, _, rfl, _⟩ := h
    rfl
  obtain ⟨R, dx, N, l, i, n, rfl, h, hl, hn, q⟩ := h
  have en : (iv l)[i]? = some (.int (n : Int)) := by rw [iv_get, hn]; rfl
  refine ⟨_, rfl, R, a.C_Reader, dx, _, _, rfl, h, T.c_Reader, T.no_Reader_numbers, lk_Reader_numbers, _, rfl, R, a.C_Reader, dx, _, _, rfl, h, T.c_Reader, T.no_Reader_place, lk_Reader_place, N, _, _, _, rfl, rfl, hl, atI_nat en, ?_⟩
  refine ⟨_, rfl, R, a.C_Reader, dx, _, _, rfl, h, T.c_Reader, T.no_Reader_place, lk_Reader_place, _, _, rfl, rfl, dx, _, h, (by show 2 < 1000; decide), ?_⟩
  exact ⟨_, rfl, q _ (Eq.trans upd_same (congrArg (fun z => some (HO.ins a.C_Reader dx z)) pt_Reader_place)) without_out1⟩
theorem ok_TakeRow (T : Txt K mg a) : FnOk P w K mg base CX0 1 a.f_Reader_take_row a.fd_Reader_take_row ["self"] (spTakeRow a K) := by
  refine T.F_Reader_take_row.ok sc_Reader_take_row (fun vs H Q E h => ?_) (fun cdv A outer s H vs Q E hr h => ⟨(d_Reader_take_row T hr).1, (d_Reader_take_row T hr).2, ?_⟩)
  · obtain ⟨_, _, _, _, _, _, rfl, _⟩ := h
    rfl
  obtain ⟨R, dx, N, l, i, n, rfl, h, hl, hn, hle, q⟩ := h
  have en : (iv l)[i]? = some (.int (n : Int)) := by rw [iv_get, hn]; rfl
  refine ⟨_, rfl, R, a.C_Reader, dx, _, _, rfl, h, T.c_Reader, T.no_Reader_place, lk_Reader_place, _, _, rfl, rfl, ?_⟩
  refine ⟨_, rfl, _, rfl, R, a.C_Reader, dx, _, _, rfl, h, T.c_Reader, T.no_Reader_numbers, lk_Reader_numbers, _, rfl, R, a.C_Reader, dx, _, _, rfl, h, T.c_Reader, T.no_Reader_place, lk_Reader_place, N, _, _, _, rfl, rfl, hl, atI_nat en, _, _, rfl, rfl,
    _, rfl, R, a.C_Reader, dx, _, rfl, h, T.c_Reader, T.no_Reader_place, (by show 2 < 1000; decide), ?_⟩
  have e1 : (i : Int) + 1 = ((i + 1 : Nat) : Int) := rfl
  have e2 : (i : Int) + 1 + (n : Int) = ((i + 1 + n : Nat) : Int) := rfl
  have hR : RdAt a (upd H R (.ins a.C_Reader dx (putF "place" (.int ((i : Int) + 1 + (n : Int))) (fl_Reader (.ref N) (.int (i : Int)))))) R dx N (i + 1 + n) :=
    Eq.trans upd_same (congrArg (fun z => some (HO.ins a.C_Reader dx z)) pt_Reader_place)
  have hNR : SqL K (upd H R (.ins a.C_Reader dx (putF "place" (.int ((i : Int) + 1 + (n : Int))) (fl_Reader (.ref N) (.int (i : Int)))))) N (iv l) := by
    rcases hl with (hl | ⟨o, hl⟩) | hl
    · exact .inl (.inl (by rw [upd_ne (ne_of hl h (fun z => nomatch z))]; exact hl))
    · exact .inl (.inr ⟨o, by rw [upd_ne (ne_of hl h (fun z => nomatch z))]; exact hl⟩)
    · exact .inr hl
  refine ⟨_, rfl, R, a.C_Reader, dx, _, _, rfl, hR, T.c_Reader, T.no_Reader_numbers, lk_Reader_numbers, _, rfl, _, rfl, _, rfl, R, a.C_Reader, dx, _, _, rfl, hR, T.c_Reader, T.no_Reader_place, lk_Reader_place, _, rfl, N, _, rfl, hNR, fun p hp => ?_⟩
  have npR : p ≠ R := (ne_of_none hR hp).symm
  have ec : cutV (iv l) (some ((i : Int) + 1)) (some ((i + 1 + n : Nat) : Int)) = iv ((l.drop (i + 1)).take n) := by
    rw [e1, cut_mid _ _ _ (Nat.le_add_right _ _) (by rw [iv_len]; exact hle), iv_drop, iv_take, Nat.add_sub_cancel_left]
  rw [ec]
  refine q _ p (by rw [RdAt, upd_ne npR.symm]; exact hR) ((without_out1).trans (same_new hp)) (by rw [upd_ne npR] at hp; exact hp) upd_same
end

/-! ### the board -/
structure BR where
  dx : Addr
  S : Addr
  L : Addr
  x : SR
  ps : List Addr
  ds : List Addr
def own (S : Addr) (x : SR) : List Addr := [S, x.U, x.O, x.D, x.T, x.E]
structure BIn (a : Ad) (Hb : Hp) (B : Addr) (y : BR) (g : Ue09.House) : Prop where
  ob : Hb B = some (.ins a.C_Board y.dx (fl_Board (.ref y.L) (.ref y.S) (.int (g.wait : Int))))
  st : ∃ n, SAt a (fun _ => none) Hb y.S y.L y.x { Ue09.runOf g with left := n }
  ms : MapsAt a (without Hb (B :: own y.S y.x)) y.L y.ps y.ds g.maps.all
  nd : y.ds.Nodup
theorem without_mono {H H' : Hp} {l : List Addr} (s : Same H H') : Same (without H l) (without H' l) := fun b o e => by
  by_cases h : b ∈ l
  · rw [without_in h] at e; cases e
  · rw [without_out h] at e ⊢; exact s b o e
theorem without_less {H H' : Hp} {l : List Addr} {b0 : Addr} (s : Same H H') : Same (without H (b0 :: l)) (without H' l) := fun b o e => by
  by_cases h : b ∈ b0 :: l
  · rw [without_in h] at e; cases e
  · rw [without_out h] at e
    rw [without_out (fun z => h (List.mem_cons_of_mem _ z))]; exact s b o e
theorem BIn.grow {a : Ad} {H H' : Hp} {B : Addr} {y : BR} {g : Ue09.House} (h : BIn a H B y g) (s : Same H H') : BIn a H' B y g := by
  obtain ⟨n, hn⟩ := h.st
  have h2 := hn.grow s
  exact ⟨s _ _ h.ob, ⟨n, ⟨h2.ob, h2.u, h2.o, h2.d, h2.t, h2.e, h2.ev, h2.nd, h2.fr, fun _ _ e => nomatch e⟩⟩, h.ms.same (without_mono s), h.nd⟩
/-- the board, in what is not the frame's -/
def BAt (a : Ad) (F H : Hp) (B : Addr) (g : Ue09.House) : Prop := Same F H ∧ ∃ y, BIn a (minus H F) B y g
theorem minus_mono {H H' F : Hp} (s : Same H H') : Same (minus H F) (minus H' F) := fun b o e => by
  obtain ⟨h1, h2⟩ := minus_some e
  rw [minus_get h1]; exact s b o h2
theorem BAt.grow {a : Ad} {F H H' : Hp} {B : Addr} {g : Ue09.House} (h : BAt a F H B g) (s : Same H H') : BAt a F H' B g :=
  ⟨h.1.trans s, h.2.imp fun _ z => z.grow (minus_mono s)⟩
/-- a stream by another frame -/
theorem SAt.reframe {a : Ad} {G G' H : Hp} {S L : Addr} {x : SR} {r : Ue09.Run} (h : SAt a G H S L x r) (f : ∀ y ∈ own S x, G' y = none) (s : Same G' H) : SAt a G' H S L x r :=
  ⟨h.ob, h.u, h.o, h.d, h.t, h.e, h.ev, h.nd, f, s⟩
theorem SAt.own_some {a : Ad} {G H : Hp} {S L : Addr} {x : SR} {r : Ue09.Run} (h : SAt a G H S L x r) : ∀ y ∈ own S x, ∃ o, H y = some o := fun y hy => by
  simp only [own, List.mem_cons, List.not_mem_nil, or_false] at hy
  rcases hy with e | e | e | e | e | e <;> subst e
  · exact ⟨_, h.ob⟩
  · exact ⟨_, h.u⟩
  · exact ⟨_, h.o⟩
  · exact ⟨_, h.d⟩
  · exact ⟨_, h.t⟩
  · exact ⟨_, h.e⟩
section
variable {a : Ad} {F H : Hp} {B : Addr} {y : BR} {g : Ue09.House}
/-- what a call on the stream is handed: all but the stream's own is its frame -/
theorem BIn.stream (sF : Same F H) (h : BIn a (minus H F) B y g) : ∃ n, SAt a (without H (own y.S y.x)) H y.S y.L y.x { Ue09.runOf g with left := n } ∧ MapsAt a (without H (own y.S y.x)) y.L y.ps y.ds g.maps.all ∧
    (without H (own y.S y.x)) B = some (.ins a.C_Board y.dx (fl_Board (.ref y.L) (.ref y.S) (.int (g.wait : Int)))) ∧ H B = some (.ins a.C_Board y.dx (fl_Board (.ref y.L) (.ref y.S) (.int (g.wait : Int)))) := by
  obtain ⟨n, hn⟩ := h.st
  have h2 := hn.grow minus_same
  have hB := minus_same _ _ h.ob
  refine ⟨n, h2.reframe (fun z hz => without_in hz) without_same, h.ms.same (without_less minus_same), ?_, hB⟩
  rw [without_out (fun hz => ?_)]
  · exact hB
  · simp only [own, List.mem_cons, List.not_mem_nil, or_false] at hz
    rcases hz with e | e | e | e | e | e
    · refine ne_of hB h2.ob (fun z => ?_) e
      have z2 : fl_Board (.ref y.L) (.ref y.S) (.int (g.wait : Int)) = sFl y.L y.x n := by injection z
      have z3 := congrArg List.length z2
      exact absurd z3 (by show ¬ 3 = 7; decide)
    · exact ne_of hB h2.u (fun z => nomatch z) e
    · exact ne_of hB h2.o (fun z => nomatch z) e
    · exact ne_of hB h2.d (fun z => nomatch z) e
    · exact ne_of hB h2.t (fun z => nomatch z) e
    · exact ne_of hB h2.e (fun z => nomatch z) e
/-- the frame stands in the stream's frame -/
theorem BIn.frame (sF : Same F H) (h : BIn a (minus H F) B y g) : Same F (without H (own y.S y.x)) := fun b o e => by
  obtain ⟨n, hn⟩ := h.st
  rw [without_out (fun hz => ?_)]
  · exact sF b o e
  · obtain ⟨u, hu⟩ := hn.own_some b hz
    rw [(minus_some hu).1] at e; cases e
/-- .. and what stands behind it -/
theorem BIn.back (sF : Same F H) (h : BIn a (minus H F) B y g) {H' : Hp} {x' : SR} {r : Ue09.Run} (s : SAt a (without H (own y.S y.x)) H' y.S y.L x' r) (ha : r.maps.all = g.maps.all) (hq : r.queue = []) (he : r.events = []) :
    Same F H' ∧ BIn a (minus H' F) B { y with x := x' } (Ue09.after g r) := by
  have sFG := h.frame sF
  have sF' := sFG.trans s.sub
  obtain ⟨n, h1, h2, h3, h4⟩ := h.stream sF
  have fn : ∀ z ∈ own y.S x', F z = none := fun z hz => by
    cases e : F z with
    | none => rfl
    | some o =>
      have := s.fr z hz
      rw [sFG z o e] at this; cases this
  have hsub : ∀ b o, (without H (own y.S y.x)) b = some o → F b = none → (without (minus H' F) (own y.S x')) b = some o := fun b o e hF => by
    rw [without_out (fun hz => ?_), minus_get hF]
    · exact s.sub b o e
    · rw [s.fr b hz] at e; cases e
  refine ⟨sF', ⟨?_, ⟨r.left, ?_⟩, ?_, h.nd⟩⟩
  · rw [minus_get (minus_some h.ob).1]
    exact s.sub _ _ h3
  · have er : ({ Ue09.runOf (Ue09.after g r) with left := r.left } : Ue09.Run) = r := by
      show Ue09.Run.mk r.maps [] r.open_ r.digits r.left [] = r
      rw [← hq, ← he]
    rw [er]
    have gt : ∀ z ∈ own y.S x', minus H' F z = H' z := fun z hz => minus_get (fn z hz)
    refine ⟨?_, ?_, ?_, ?_, ?_, ?_, ?_, s.nd, fun _ _ => rfl, fun _ _ e => nomatch e⟩
    · rw [gt _ (by simp [own])]; exact s.ob
    · rw [gt _ (by simp [own])]; exact s.u
    · rw [gt _ (by simp [own])]; exact s.o
    · rw [gt _ (by simp [own])]; exact s.d
    · rw [gt _ (by simp [own])]; exact s.t
    · rw [gt _ (by simp [own])]; exact s.e
    · have z := s.ev
      rw [he] at z ⊢
      cases hts : x'.ts with
      | nil => exact .nil
      | cons _ _ => rw [hts] at z; cases z
  · show MapsAt a (without (minus H' F) (B :: own y.S x')) y.L y.ps y.ds r.maps.all
    rw [ha]
    have hms := h.ms
    have sm : Same (without (minus H F) (B :: own y.S y.x)) (without (minus H' F) (B :: own y.S x')) := fun b o e => by
      by_cases hb : b ∈ B :: own y.S y.x
      · rw [without_in hb] at e; cases e
      · rw [without_out hb] at e
        obtain ⟨e1, e2⟩ := minus_some e
        have hb2 : b ∉ own y.S y.x := fun z => hb (List.mem_cons_of_mem _ z)
        have z := hsub b o (by rw [without_out hb2]; exact e2) e1
        by_cases hb3 : b ∈ B :: own y.S x'
        · rcases List.mem_cons.mp hb3 with e3 | e3
          · exact absurd (e3 ▸ List.mem_cons_self ..) hb
          · rw [without_in e3] at z; cases z
        · rw [without_out hb3]
          exact without_same _ _ z
    exact hms.same sm
end
end Km

namespace Km
open PySem PySem.Spec PyProof.Rows L2
open Ue09 (House runOf after pressed flushed eventsRow)

/-- an answer: a list of whole numbers -/
def zv (l : List Int) : List V := l.map V.int
def spPutInUse (a : Ad) (K : PySem.W.Frag) : Sp := fun vs H Q _ => ∃ (G : Hp) (S L : Addr) (x : SR) (r : Ue09.Run) (p : Addr) (l : List Nat), vs = [.ref S, .ref p] ∧ SAt a G H S L x r ∧ SqL K H p (iv l) ∧
  ∀ H' x', SAt a G H' S L x' { r with maps := { r.maps with use := l } } → Q .non H'
def spTakeEvents (a : Ad) : Sp := fun vs H Q _ => ∃ (G : Hp) (S L : Addr) (x : SR) (r : Ue09.Run), vs = [.ref S] ∧ SAt a G H S L x r ∧
  ∀ H' x', SAt a G H' S L x' { r with events := [] } → H' x.E = some (.lst (x.ts.map V.ref)) → Paired (EvAt H') x.ts r.events → Q (.ref x.E) H'
def spEventAnswer (a : Ad) : Sp := fun vs H Q _ => ∃ (e : Addr) (ts : List Addr) (es : List Ue09.Event), vs = [.ref e] ∧ H e = some (.lst (ts.map V.ref)) ∧ Paired (EvAt H) ts es ∧ es.length ≤ many ∧
  ∀ H' p, Same H H' → H p = none → H' p = some (.lst (zv (eventsRow es))) → Q (.ref p) H'
/-- a call on the board: the state behind it and the answer are the specification's -/
def spB (a : Ad) (arg : Hp → Hp → List V → Ue09.Call → Prop) : Sp := fun vs H Q _ => ∃ (F : Hp) (B : Addr) (g : House) (c : Ue09.Call) (as : List V), vs = .ref B :: as ∧ BAt a F H B g ∧ OkG g ∧ arg F H as c ∧
  ∀ H' p, BAt a F H' B (Ue09.step g c).1 → F p = none → H' p = some (.lst (zv (Ue09.step g c).2)) → Q (.ref p) H'
def argWait : Hp → Hp → List V → Ue09.Call → Prop := fun _ _ as c => ∃ t : Nat, as = [.int (t : Int)] ∧ c = .wait t
def argUse (K : PySem.W.Frag) : Hp → Hp → List V → Ue09.Call → Prop := fun F _ as c => ∃ (p : Addr) (l : List Nat), as = [.ref p] ∧ c = .use l ∧ SqL K F p (iv l)
def argPress (K : PySem.W.Frag) : Hp → Hp → List V → Ue09.Call → Prop := fun F _ as c => ∃ (t : Nat) (p : Addr) (l : List Nat), as = [.int (t : Int), .ref p] ∧ c = .press t l ∧ SqL K F p (iv l)
def argFlush : Hp → Hp → List V → Ue09.Call → Prop := fun _ _ as c => as = [] ∧ c = .flush
theorem row_more {es : List Ue09.Event} {i : Nat} {e : Ue09.Event} (h : es[i]? = some e) (n : Int) : zv (n :: Ue09.ints ((es.take (i + 1)).flatMap fun e => [e.kind, e.value, e.count, e.used])) =
    zv (n :: Ue09.ints ((es.take i).flatMap fun e => [e.kind, e.value, e.count, e.used])) ++ [.int (e.kind : Int), .int (e.value : Int), .int (e.count : Int), .int (e.used : Int)] := by
  rw [take_at h, List.flatMap_append]
  simp [zv, Ue09.ints]
section
variable {P : Program} {w : World} {K : PySem.W.Frag} {mg : Str → Option Value} {base : Heap} {a : Ad}
theorem ok_putInUse (T : Txt K mg a) : FnOk P w K mg base CX0 1 a.f_KeyStream_put_in_use a.fd_KeyStream_put_in_use ["self", "numbers"] (spPutInUse a K) := by
  refine T.F_KeyStream_put_in_use.ok sc_KeyStream_put_in_use (fun vs H Q E h => ?_) (fun cdv A outer s H vs Q E hr h => ⟨(d_KeyStream_put_in_use T hr).1, (d_KeyStream_put_in_use T hr).2, ?_⟩)
  · obtain ⟨_, _, _, _, _, _, _, rfl, _⟩ := h
    rfl
  obtain ⟨G, S, L, x, r, p, l, rfl, h, hl, q⟩ := h
  refine ⟨_, rfl, p, _, rfl, .inl hl, fun p2 hp2 => ?_⟩
  have h2 := h.new (o := .lst (iv l)) hp2
  have nn := h.ne_new hp2
  refine ⟨_, rfl, S, a.C_KeyStream, x.dx, _, rfl, h2.ob, T.c_KeyStream, T.no_KeyStream_in_use, (by show 7 < 1000; decide), ?_⟩
  exact q _ _ (h2.newU upd_same ⟨nn.2.1, nn.2.2.1, nn.2.2.2.1, nn.2.2.2.2.1⟩ (same_none h.sub hp2))
theorem ok_takeEvents (T : Txt K mg a) : FnOk P w K mg base CX0 1 a.f_KeyStream_take_events a.fd_KeyStream_take_events ["self"] (spTakeEvents a) := by
  refine T.F_KeyStream_take_events.ok sc_KeyStream_take_events (fun vs H Q E h => ?_) (fun cdv A outer s H vs Q E hr h => ⟨(d_KeyStream_take_events T hr).1, (d_KeyStream_take_events T hr).2, ?_⟩)
  · obtain ⟨_, _, _, _, _, rfl, _⟩ := h
    rfl
  obtain ⟨G, S, L, x, r, rfl, h, q⟩ := h
  refine ⟨_, rfl, S, a.C_KeyStream, x.dx, _, _, rfl, h.ob, T.c_KeyStream, T.no_KeyStream_events, lk_KeyStream_events, ?_⟩
  refine ⟨(by show 0 ≤ sizeLine; decide), fun p2 hp2 => ?_⟩
  have h2 := h.new (o := .lst []) hp2
  have nn := h.ne_new hp2
  refine ⟨_, rfl, S, a.C_KeyStream, x.dx, _, rfl, h2.ob, T.c_KeyStream, T.no_KeyStream_events, (by show 7 < 1000; decide), ?_⟩
  refine ⟨_, rfl, q _ _ (h2.newE upd_same ⟨nn.1, nn.2.1, nn.2.2.1, nn.2.2.2.1⟩ (same_none h.sub hp2)) ?_ ?_⟩
  · rw [upd_ne h2.neS.2.2.2.2.symm]; exact h2.e
  · exact ev_keep (evk_upd h2.ob (fun _ z => nomatch z)) h2.ev
theorem ok_eventAnswer (T : Txt K mg a) : FnOk P w K mg base CX0 1 a.f_event_answer a.fd_event_answer ["events"] (spEventAnswer a) := by
  refine T.F_event_answer.ok sc_event_answer (fun vs H Q E h => ?_) (fun cdv A outer s H vs Q E hr h => ⟨(d_event_answer T hr).1, (d_event_answer T hr).2, ?_⟩)
  · obtain ⟨_, _, _, rfl, _⟩ := h
    rfl
  obtain ⟨e, ts, es, rfl, he, hp, hm, q⟩ := h
  have hlen : ts.length = es.length := Paired.length hp
  refine ⟨_, rfl, e, _, rfl, .inl (SqL.of he), (by show 1 ≤ sizeLine; decide), fun p hp2 => ?_⟩
  rw [List.length_map, hlen]
  have s0 : Same H (upd H p (.lst [.int (es.length : Int)])) := same_new hp2
  refine ⟨_, rfl, e, rfl, ⟨_, SqL.of (s0 _ _ he)⟩, ?_⟩
  refine for_list (K := K) (a := e) (xs := ts.map V.ref) (fun i σ H' => Same H H' ∧ ∃ o : Option V, σ = [some (.ref e), some (.ref p), o] ∧ H' p = some (.lst (zv ((es.length : Int) :: Ue09.ints ((es.take i).flatMap fun e => [e.kind, e.value, e.count, e.used])))))
    ⟨s0, none, rfl, upd_same⟩ (fun i σ H' _ ⟨z, _⟩ => SqL.of (z _ _ he)) ?_ ?_
  · rintro i y σ H1 hi ⟨s1, o, rfl, hp1⟩
    rw [List.getElem?_map] at hi
    obtain ⟨t, ht, rfl⟩ := Option.map_eq_some_iff.mp hi
    obtain ⟨ev, hev, hE⟩ := Paired.getl hp ht
    have hil : i < es.length := (List.getElem?_eq_some_iff.mp hev).1
    refine ⟨_, rfl, .inl ⟨rfl, _, SqL.of hp1⟩, _, rfl, p, t, _, _, rfl, rfl, hp1, s1 _ _ hE, ?_, ?_⟩
    · have e4 : ∀ l : List Ue09.Event, (zv ((es.length : Int) :: Ue09.ints (l.flatMap fun e => [e.kind, e.value, e.count, e.used]))).length = 1 + 4 * l.length := by
        intro l
        induction l with
        | nil => rfl
        | cons x l ih =>
          simp only [zv, Ue09.ints, List.flatMap_cons, List.map_cons, List.length_cons, List.length_map, List.length_append, List.length_nil] at ih ⊢
          omega
      rw [e4, List.length_take, Nat.min_eq_left (Nat.le_of_lt hil)]
      show 1 + 4 * i + 4 ≤ sizeLine
      have : 4 * i + 5 ≤ 16000001 := by have : many = 4000000 := rfl; omega
      exact Nat.le_trans (by omega) (show 16000001 ≤ sizeLine by decide)
    · refine ⟨same_out s1 hp2, _, rfl, ?_⟩
      rw [upd_same, row_more hev]
  · rintro σ H1 ⟨s1, o, rfl, hp1⟩
    rw [List.length_map, hlen, List.take_length] at hp1
    exact ⟨_, rfl, q _ p s1 hp2 hp1⟩
theorem ok_wait (T : Txt K mg a) : FnOk P w K mg base CX0 1 a.f_Board_wait a.fd_Board_wait ["self", "ticks"] (spB a argWait) := by
  refine T.F_Board_wait.ok sc_Board_wait (fun vs H Q E h => ?_) (fun cdv A outer s H vs Q E hr h => ⟨(d_Board_wait T hr).1, (d_Board_wait T hr).2, ?_⟩)
  · obtain ⟨_, _, _, _, _, rfl, _, _, ⟨_, rfl, _⟩, _⟩ := h
    rfl
  obtain ⟨F, B, g, c, as, rfl, ⟨sF, y, hB⟩, ok, ⟨t, rfl, rfl⟩, q⟩ := h
  have hob := minus_same _ _ hB.ob
  have bad : (t = 0 ∨ 1000 < t) → ∀ p, H p = none → Q (.ref p) (upd H p (.lst [.int (-1)])) := fun c p hp => by
    have e : Ue09.step g (.wait t) = (g, [-1]) := if_pos c
    rw [e] at q
    exact q _ p (BAt.grow ⟨sF, y, hB⟩ (same_new hp)) (same_none sF hp) upd_same
  have good : ¬ (t = 0 ∨ 1000 < t) → Ue09.step g (.wait t) = ({ g with wait := t }, Ue09.ints [t]) := fun c => if_neg c
  refine ⟨_, rfl, _, _, rfl, rfl, _, rfl, ?_⟩
  refine ite2 (fun c1 => ?_) (fun c1 => ?_)
  · have c1 := of_decide_eq_true c1
    refine ⟨_, _, rfl, rfl, _, rfl, ?_⟩
    by_cases c2 : t ≤ 1000
    · have e : decide ((t : Int) ≤ 1000) = true := decide_eq_true (by omega)
      rw [e]
      refine iteF ?_
      rw [good (by omega)] at q
      refine ⟨_, rfl, _, rfl, B, a.C_Board, y.dx, _, rfl, hob, T.c_Board, T.no_Board_ticks_to_wait, (by show 3 < 1000; decide), ?_⟩
      refine ⟨_, rfl, (by show 1 ≤ sizeLine; decide), fun p hp => ?_⟩
      refine q _ p (BAt.grow ⟨?_, y, ?_⟩ (same_new hp)) (same_none (same_out sF (minus_some hB.ob).1) hp) upd_same
      · exact same_out sF (minus_some hB.ob).1
      · have hF := (minus_some hB.ob).1
        obtain ⟨n, hn⟩ := hB.st
        have em : minus (upd H B (.ins a.C_Board y.dx (putF "ticks_to_wait" (.int (t : Int)) (fl_Board (.ref y.L) (.ref y.S) (.int (g.wait : Int)))))) F = upd (minus H F) B (.ins a.C_Board y.dx (fl_Board (.ref y.L) (.ref y.S) (.int (t : Int)))) := by
          funext b
          by_cases hb : b = B
          · subst hb
            rw [minus_get hF, upd_same, upd_same]
            exact congrArg (fun z => some (HO.ins a.C_Board y.dx z)) pt_Board_ticks_to_wait
          · rw [upd_ne hb]
            unfold minus
            rw [upd_ne hb]
        rw [em]
        have hne : B ∉ own y.S y.x := by
          obtain ⟨m, _, _, h3, _⟩ := hB.stream sF
          intro hz
          rw [without_in hz] at h3; cases h3
        have nS : ∀ z ∈ own y.S y.x, z ≠ B := fun z hz e => hne (e ▸ hz)
        refine ⟨upd_same, ⟨n, ?_⟩, ?_, hB.nd⟩
        · refine ⟨?_, ?_, ?_, ?_, ?_, ?_, ev_keep (evk_upd hB.ob (fun _ z => nomatch z)) hn.ev, hn.nd, hn.fr, fun _ _ e => nomatch e⟩
          · rw [upd_ne (nS _ (by simp [own]))]; exact hn.ob
          · rw [upd_ne (nS _ (by simp [own]))]; exact hn.u
          · rw [upd_ne (nS _ (by simp [own]))]; exact hn.o
          · rw [upd_ne (nS _ (by simp [own]))]; exact hn.d
          · rw [upd_ne (nS _ (by simp [own]))]; exact hn.t
          · rw [upd_ne (nS _ (by simp [own]))]; exact hn.e
        · refine hB.ms.same fun b o e => ?_
          by_cases hb : b ∈ B :: own y.S y.x
          · rw [without_in hb] at e; cases e
          · rw [without_out hb] at e ⊢
            rw [upd_ne (fun (z : b = B) => hb (by rw [z]; exact List.mem_cons_self ..))]; exact e
    · have e : decide ((t : Int) ≤ 1000) = false := decide_eq_false (by omega)
      rw [e]
      refine iteT ?_
      exact ⟨(by show 1 ≤ sizeLine; decide), fun p hp => bad (by omega) p hp⟩
  · have c1 : ¬ 1 ≤ t := fun z => c1 (decide_eq_true (by omega))
    refine ⟨_, rfl, iteT ?_⟩
    exact ⟨(by show 1 ≤ sizeLine; decide), fun p hp => bad (by omega) p hp⟩
theorem ok_use (T : Txt K mg a) : FnOk P w K mg base CX0 2 a.f_Board_use a.fd_Board_use ["self", "numbers"] (spB a (argUse K)) := by
  refine T.F_Board_use.ok sc_Board_use (fun vs H Q E h => ?_) (fun cdv A outer s H vs Q E hr h => ⟨(d_Board_use T (ok_putInUse T) hr).1, (d_Board_use T (ok_putInUse T) hr).2, ?_⟩)
  · obtain ⟨_, _, _, _, _, rfl, _, _, ⟨_, _, rfl, _⟩, _⟩ := h
    rfl
  obtain ⟨F, B, g, c, as, rfl, ⟨sF, y, hB⟩, ok, ⟨p, l, rfl, rfl, hp⟩, q⟩ := h
  have hpH := sF.seq hp
  have bad : (l = [] ∨ Ue09.MAPS < l.length ∨ (l.any fun n => decide (8 ≤ n)) = true) → ∀ p, H p = none → Q (.ref p) (upd H p (.lst [.int (-1)])) := fun c p hp => by
    have e : Ue09.step g (.use l) = (g, [-1]) := if_pos c
    rw [e] at q
    exact q _ p (BAt.grow ⟨sF, y, hB⟩ (same_new hp)) (same_none sF hp) upd_same
  have good : ¬ (l = [] ∨ Ue09.MAPS < l.length ∨ (l.any fun n => decide (8 ≤ n)) = true) → Ue09.step g (.use l) = ({ g with maps := { g.maps with use := l } }, Ue09.ints [l.length]) := fun c => if_neg c
  obtain ⟨n, st, ms, hBG, hBH⟩ := hB.stream sF
  -- if not 1 <= len(numbers) <= MOST_IN_USE or max(numbers) >= MAP_COUNT
  refine ⟨_, rfl, p, _, rfl, .inl hpH, _, _, rfl, rfl, _, rfl, ?_⟩
  rw [iv_len]
  refine ite2 (fun c1 => ?_) (fun c1 => ?_)
  · have c1 := of_decide_eq_true c1
    refine ⟨_, _, rfl, rfl, _, rfl, ?_⟩
    by_cases c2 : l.length ≤ 6
    · have e : decide (((iv l).length : Int) ≤ 6) = true := decide_eq_true (by rw [iv_len]; omega)
      have e' : decide ((l.length : Int) ≤ 6) = true := decide_eq_true (by omega)
      rw [e']
      refine iteF ?_
      have hl' : SqL K H p ((l.map fun (n : Nat) => (n : Int)).map V.int) := by rw [List.map_map]; exact hpH
      refine ⟨_, rfl, p, _, rfl, hl', (by rw [List.length_map]; omega), fun m hm hall => ⟨_, _, rfl, rfl, _, rfl, ?_⟩⟩
      obtain ⟨k, hk, rfl⟩ := List.mem_map.mp hm
      by_cases c3 : 8 ≤ k
      · have e3 : decide ((8 : Int) ≤ (k : Int)) = true := decide_eq_true (by omega)
        rw [e3]
        refine iteT ?_
        exact ⟨(by show 1 ≤ sizeLine; decide), fun p hp => bad (.inr (.inr (List.any_eq_true.mpr ⟨k, hk, decide_eq_true c3⟩))) p hp⟩
      · have e3 : decide ((8 : Int) ≤ (k : Int)) = false := decide_eq_false (by omega)
        rw [e3]
        refine iteF ?_
        rw [good (by
          rintro (z | z | z)
          · rw [z] at c1; simp at c1
          · have : Ue09.MAPS = 6 := rfl
            omega
          · obtain ⟨j, hj, hj2⟩ := List.any_eq_true.mp z
            have := of_decide_eq_true hj2
            have := hall (j : Int) (List.mem_map.mpr ⟨j, hj, rfl⟩)
            omega)] at q
        -- self.stream.put_in_use(numbers)
        refine ⟨_, rfl, B, a.C_Board, y.dx, _, _, rfl, hBH, T.c_Board, T.no_Board_stream, lk_Board_stream, y.S, y.x.dx, _, rfl, st.ob, nm_KeyStream_put_in_use, _, rfl, _, y.S, y.L, y.x, _, p, l, rfl, st, hpH, fun H' x' h' => ?_⟩
        obtain ⟨sF', hB'⟩ := hB.back sF h' rfl rfl rfl
        have hpH' := sF'.seq hp
        refine ⟨_, rfl, p, _, rfl, .inl hpH', (by show 1 ≤ sizeLine; decide), fun p2 hp2 => ?_⟩
        rw [iv_len]
        exact q _ p2 (BAt.grow ⟨sF', _, hB'⟩ (same_new hp2)) (same_none sF' hp2) upd_same
    · have e' : decide ((l.length : Int) ≤ 6) = false := decide_eq_false (by omega)
      rw [e']
      refine iteT ?_
      exact ⟨(by show 1 ≤ sizeLine; decide), fun p hp => bad (.inr (.inl (by show 6 < _; omega))) p hp⟩
  · have c1 : ¬ 1 ≤ l.length := fun z => c1 (decide_eq_true (by omega))
    refine ⟨_, rfl, iteT ?_⟩
    exact ⟨(by show 1 ≤ sizeLine; decide), fun p hp => bad (.inl (List.length_eq_zero_iff.mp (by omega))) p hp⟩
end
end Km

namespace Km
open PySem PySem.Spec PyProof.Rows L2
open Ue09 (House runOf after pressed flushed eventsRow)

theorem ev_many {r : Ue09.Run} {n : Nat} (h : Btw r n) (hn : n ≤ 100) : r.events.length ≤ many := by
  have := h.ev
  have : many = 4000000 := rfl
  omega
section
variable {P : Program} {w : World} {K : PySem.W.Frag} {mg : Str → Option Value} {base : Heap} {a : Ad}
theorem ok_flush (T : Txt K mg a) : FnOk P w K mg base CX0 7 a.f_Board_flush a.fd_Board_flush ["self"] (spB a argFlush) := by
  refine T.F_Board_flush.ok sc_Board_flush (fun vs H Q E h => ?_) (fun cdv A outer s H vs Q E hr h => ⟨(d_Board_flush T (ok_eventAnswer T) (ok_takeEvents T) (ok_waitLong T) hr).1, (d_Board_flush T (ok_eventAnswer T) (ok_takeEvents T) (ok_waitLong T) hr).2, ?_⟩)
  · obtain ⟨_, _, _, _, _, rfl, _, _, ⟨rfl, _⟩, _⟩ := h
    rfl
  obtain ⟨F, B, g, c, as, rfl, ⟨sF, y, hB⟩, ok, ⟨rfl, rfl⟩, q⟩ := h
  obtain ⟨n, st, ms, hBG, hBH⟩ := hB.stream sF
  have bt := ok.btw
  have rd := bt.rdy0 (by decide)
  obtain ⟨b1, a1, o1⟩ := bt.flush (by decide)
  have es : Ue09.step g .flush = (after g (flushA { runOf g with left := 50 }), eventsRow (flushA { runOf g with left := 50 }).events) := by
    show (after g (flushed (runOf g)), eventsRow (flushed (runOf g)).events) = _
    rw [flushed_eq bt (by decide)]
  rw [es] at q
  -- self.stream.wait_long_enough()
  refine ⟨_, rfl, B, a.C_Board, y.dx, _, _, rfl, hBH, T.c_Board, T.no_Board_stream, lk_Board_stream, y.S, y.x.dx, _, rfl, st.ob, nm_KeyStream_wait_long_enough, _, y.S, y.L, y.x, _, y.ps, y.ds, rfl, st, ms, rd, rfl, fun H1 x1 h1 => ?_⟩
  have hB1 := h1.sub _ _ hBG
  -- return event_answer(self.stream.take_events())
  refine ⟨_, rfl, B, a.C_Board, y.dx, _, _, rfl, hB1, T.c_Board, T.no_Board_stream, lk_Board_stream, y.S, x1.dx, _, rfl, h1.ob, nm_KeyStream_take_events, _, y.S, y.L, x1, _, rfl, h1, fun H2 x2 h2 e2 ev2 => ?_⟩
  obtain ⟨sF', hB'⟩ := hB.back sF h2 a1 b1.q rfl
  refine ⟨x1.E, x1.ts, _, rfl, e2, ev2, ev_many b1 (by decide), fun H3 p s3 np hp => ?_⟩
  exact q _ p (BAt.grow ⟨sF', _, hB'⟩ s3) (same_none sF' np) hp
theorem ok_pressB (T : Txt K mg a) : FnOk P w K mg base CX0 7 a.f_Board_press a.fd_Board_press ["self", "ticks", "keys"] (spB a (argPress K)) := by
  refine T.F_Board_press.ok sc_Board_press (fun vs H Q E h => ?_) (fun cdv A outer s H vs Q E hr h => ⟨(d_Board_press T (ok_eventAnswer T) (ok_takeEvents T) (ok_press T) (ok_waitLong T) (ok_KeysFit T) hr).1, (d_Board_press T (ok_eventAnswer T) (ok_takeEvents T) (ok_press T) (ok_waitLong T) (ok_KeysFit T) hr).2, ?_⟩)
  · obtain ⟨_, _, _, _, _, rfl, _, _, ⟨_, _, _, rfl, _⟩, _⟩ := h
    rfl
  obtain ⟨F, B, g, c, as, rfl, ⟨sF, y, hB⟩, ok, ⟨t, p, l, rfl, rfl, hp⟩, q⟩ := h
  have hpH := sF.seq hp
  -- if not keys_fit(keys, 1, MOST_KEYS_PRESSED)
  refine ⟨_, rfl, p, l, 1, 20, rfl, .inl hpH, _, rfl, ?_⟩
  cases ef : fits l 1 20 with
  | false =>
    refine iteT ?_
    refine ⟨(by show 1 ≤ sizeLine; decide), fun p2 hp2 => ?_⟩
    have e : Ue09.step g (.press t l) = (g, [-1]) := if_pos (by
      unfold fits at ef
      by_cases c1 : 1 ≤ l.length
      · by_cases c2 : l.length ≤ 20
        · rw [decide_eq_true c1, decide_eq_true c2] at ef
          exact .inl ef
        · exact .inr (.inr (by omega))
      · exact .inr (.inl (List.length_eq_zero_iff.mp (by omega))))
    rw [e] at q
    exact q _ p2 (BAt.grow ⟨sF, y, hB⟩ (same_new hp2)) (same_none sF hp2) upd_same
  | true =>
    refine iteF ?_
    have hl : 1 ≤ l.length ∧ l.length ≤ 20 ∧ Ue09.isKeys l = true := by
      unfold fits at ef
      rw [Bool.and_eq_true, Bool.and_eq_true] at ef
      exact ⟨of_decide_eq_true ef.1.1, of_decide_eq_true ef.1.2, ef.2⟩
    obtain ⟨k0, l0, el⟩ : ∃ k0 l0, l = k0 :: l0 := by
      cases l with
      | nil => simp at hl
      | cons k0 l0 => exact ⟨k0, l0, rfl⟩
    obtain ⟨n, st, ms, hBG, hBH⟩ := hB.stream sF
    have bt := ok.btw
    -- if ticks >= self.ticks_to_wait
    refine ⟨_, rfl, _, rfl, B, a.C_Board, y.dx, _, _, rfl, hBH, T.c_Board, T.no_Board_ticks_to_wait, lk_Board_ticks_to_wait, _, _, rfl, rfl, _, rfl, ?_⟩
    refine ite2 (fun c1 => ?_) (fun c1 => ?_)
    · have c1 : g.wait ≤ t := by have := of_decide_eq_true c1; omega
      obtain ⟨b1, a1, o1⟩ := bt.flush (by decide)
      refine ⟨_, rfl, B, a.C_Board, y.dx, _, _, rfl, hBH, T.c_Board, T.no_Board_stream, lk_Board_stream, y.S, y.x.dx, _, rfl, st.ob, nm_KeyStream_wait_long_enough, _, y.S, y.L, y.x, _, y.ps, y.ds, rfl, st, ms, bt.rdy0 (by decide), rfl, fun H1 x1 h1 => ?_⟩
      have es : Ue09.step g (.press t l) = (after g (l.foldl pressA (flushA { runOf g with left := 50 })), eventsRow (l.foldl pressA (flushA { runOf g with left := 50 })).events) := by
        show (if Ue09.isKeys l = false ∨ l = [] ∨ 20 < l.length then _ else _) = _
        rw [if_neg (by rintro (z | z | z)
                       · rw [hl.2.2] at z; cases z
                       · rw [z] at hl; simp at hl
                       · omega), if_pos c1, flushed_eq bt (by decide), pressed_eq l b1 (by omega)]
      rw [es] at q
      generalize flushA { runOf g with left := 50 } = r1 at *
      have h1 : SAt a (without H (own y.S y.x)) H1 y.S y.L x1 r1 := h1
      obtain ⟨bq, aq⟩ := presses l b1 (by omega)
      have hpG : SqL K (without H (own y.S y.x)) p (iv l) := (hB.frame sF).seq hp
      refine ⟨_, rfl, p, rfl, ⟨_, h1.sub.seq hpG⟩, ?_⟩
      refine for_list (K := K) (a := p) (xs := iv l) (fun i σ H' => ∃ (x' : SR) (o : Option V), σ = [some (.ref B), some (.int (t : Int)), some (.ref p), o] ∧ SAt a (without H (own y.S y.x)) H' y.S y.L x' ((l.take i).foldl pressA r1))
        ⟨x1, none, rfl, h1⟩ (fun i σ H' _ ⟨_, _, _, z⟩ => z.sub.seq hpG) ?_ ?_
      · rintro i v σ H2 hi ⟨x2, o, rfl, h2⟩
        rw [iv_get] at hi
        obtain ⟨k, hk, rfl⟩ := Option.map_eq_some_iff.mp hi
        have hil : i < l.length := (List.getElem?_eq_some_iff.mp hk).1
        have hti : (l.take i).length = i := by rw [List.length_take]; omega
        obtain ⟨bi, ai⟩ := presses (l.take i) b1 (by rw [hti]; omega)
        have ms2 : MapsAt a (without H (own y.S y.x)) y.L y.ps y.ds ((l.take i).foldl pressA r1).maps.all := by rw [ai, a1]; exact ms
        refine ⟨_, rfl, B, a.C_Board, y.dx, _, _, rfl, h2.sub _ _ hBG, T.c_Board, T.no_Board_stream, lk_Board_stream, y.S, x2.dx, _, rfl, h2.ob, nm_KeyStream_press_key, _, rfl, _, y.S, y.L, x2, _, y.ps, y.ds, k, rfl, h2, ms2, bi.rdy (by rw [hti]; omega) k, fun H3 x3 h3 => ?_⟩
        refine ⟨x3, _, rfl, ?_⟩
        rw [take_at hk, List.foldl_append]
        exact h3
      · rintro σ H2 ⟨x2, o, rfl, h2⟩
        rw [iv_len, List.take_length] at h2
        refine ⟨_, rfl, B, a.C_Board, y.dx, _, _, rfl, h2.sub _ _ hBG, T.c_Board, T.no_Board_stream, lk_Board_stream, y.S, x2.dx, _, rfl, h2.ob, nm_KeyStream_take_events, _, y.S, y.L, x2, _, rfl, h2, fun H3 x3 h3 e3 ev3 => ?_⟩
        obtain ⟨sF', hB'⟩ := hB.back sF h3 (aq.trans a1) bq.q rfl
        refine ⟨x2.E, x2.ts, _, rfl, e3, ev3, ev_many bq (by omega), fun H4 p4 s4 np4 hp4 => ?_⟩
        exact q _ p4 (BAt.grow ⟨sF', _, hB'⟩ s4) (same_none sF' np4) hp4
    · have c1 : ¬ g.wait ≤ t := fun z => c1 (decide_eq_true (by omega))
      have b1 : Btw { runOf g with left := n } 0 := bt.left n
      have es : Ue09.step g (.press t l) = (after g (l.foldl pressA { runOf g with left := n }), eventsRow (l.foldl pressA { runOf g with left := n }).events) := by
        show (if Ue09.isKeys l = false ∨ l = [] ∨ 20 < l.length then _ else _) = _
        rw [if_neg (by rintro (z | z | z)
                       · rw [hl.2.2] at z; cases z
                       · rw [z] at hl; simp at hl
                       · omega), if_neg c1, pressed_eq l bt (by omega), el]
        rfl
      rw [es] at q
      have a1 : ({ runOf g with left := n } : Ue09.Run).maps.all = g.maps.all := rfl
      generalize ({ runOf g with left := n } : Ue09.Run) = r1 at *
      obtain ⟨bq, aq⟩ := presses l b1 (by omega)
      have hpG : SqL K (without H (own y.S y.x)) p (iv l) := (hB.frame sF).seq hp
      refine ⟨_, rfl, p, rfl, ⟨_, st.sub.seq hpG⟩, ?_⟩
      refine for_list (K := K) (a := p) (xs := iv l) (fun i σ H' => ∃ (x' : SR) (o : Option V), σ = [some (.ref B), some (.int (t : Int)), some (.ref p), o] ∧ SAt a (without H (own y.S y.x)) H' y.S y.L x' ((l.take i).foldl pressA r1))
        ⟨y.x, none, rfl, st⟩ (fun i σ H' _ ⟨_, _, _, z⟩ => z.sub.seq hpG) ?_ ?_
      · rintro i v σ H2 hi ⟨x2, o, rfl, h2⟩
        rw [iv_get] at hi
        obtain ⟨k, hk, rfl⟩ := Option.map_eq_some_iff.mp hi
        have hil : i < l.length := (List.getElem?_eq_some_iff.mp hk).1
        have hti : (l.take i).length = i := by rw [List.length_take]; omega
        obtain ⟨bi, ai⟩ := presses (l.take i) b1 (by rw [hti]; omega)
        have ms2 : MapsAt a (without H (own y.S y.x)) y.L y.ps y.ds ((l.take i).foldl pressA r1).maps.all := by rw [ai, a1]; exact ms
        refine ⟨_, rfl, B, a.C_Board, y.dx, _, _, rfl, h2.sub _ _ hBG, T.c_Board, T.no_Board_stream, lk_Board_stream, y.S, x2.dx, _, rfl, h2.ob, nm_KeyStream_press_key, _, rfl, _, y.S, y.L, x2, _, y.ps, y.ds, k, rfl, h2, ms2, bi.rdy (by rw [hti]; omega) k, fun H3 x3 h3 => ?_⟩
        refine ⟨x3, _, rfl, ?_⟩
        rw [take_at hk, List.foldl_append]
        exact h3
      · rintro σ H2 ⟨x2, o, rfl, h2⟩
        rw [iv_len, List.take_length] at h2
        refine ⟨_, rfl, B, a.C_Board, y.dx, _, _, rfl, h2.sub _ _ hBG, T.c_Board, T.no_Board_stream, lk_Board_stream, y.S, x2.dx, _, rfl, h2.ob, nm_KeyStream_take_events, _, y.S, y.L, x2, _, rfl, h2, fun H3 x3 h3 e3 ev3 => ?_⟩
        obtain ⟨sF', hB'⟩ := hB.back sF h3 (aq.trans a1) bq.q rfl
        refine ⟨x2.E, x2.ts, _, rfl, e3, ev3, ev_many bq (by omega), fun H4 p4 s4 np4 hp4 => ?_⟩
        exact q _ p4 (BAt.grow ⟨sF', _, hB'⟩ s4) (same_none sF' np4) hp4
end
end Km

namespace Km
open PySem PySem.Spec PyProof.Rows L2
open Ue09 (House runOf after Map_ Maps mapAt setMap)

/-! ### the maps changed -/
theorem BindAt.dict {a : Ad} {H : Hp} {p d : Addr} {b : Ue09.Binding} {k k' : List (List L2.Key × V)} (h : BindAt a H p b) (hd : H d = some (.dT k)) : BindAt a (upd H d (.dT k')) p b := by
  obtain ⟨dx, dp, sq, h1, h2, h3⟩ := h
  refine ⟨dx, dp, sq, ?_, ?_, ?_⟩
  · rw [upd_ne (ne_of h1 hd (fun z => nomatch z))]; exact h1
  · rw [upd_ne (ne_of h2 hd (fun z => nomatch z))]; exact h2
  · rw [upd_ne (ne_of h3 hd (fun z => nomatch z))]; exact h3
theorem kvs_dict {a : Ad} {H : Hp} {d : Addr} {k k' : List (List L2.Key × V)} (hd : H d = some (.dT k)) {kvs : List (List L2.Key × V)} {bs : List Ue09.Binding} (h : Paired (KvAt a H) kvs bs) : Paired (KvAt a (upd H d (.dT k'))) kvs bs :=
  Paired.imp (fun _ _ ⟨e, q, e2, hb⟩ => ⟨e, q, e2, hb.dict hd⟩) h
theorem nd_get {l : List Addr} (nd : l.Nodup) {i j : Nat} {x : Addr} (hi : l[i]? = some x) (hj : l[j]? = some x) : i = j := nd_ix nd hi hj
/-- a map's dict written -/
theorem MapsAt.putDict {a : Ad} {H : Hp} {L : Addr} {ps ds : List Addr} {ms : List Map_} {n : Nat} {p d : Addr} {m : Map_} {kvs' : List (List L2.Key × V)} {bs' : List Ue09.Binding} (h : MapsAt a H L ps ds ms) (nd : ds.Nodup)
    (hp : ps[n]? = some p) (hd : ds[n]? = some d) (hmap : MapAt a H p d n m) (hk : Paired (KvAt a (upd H d (.dT kvs'))) kvs' bs') : MapsAt a (upd H d (.dT kvs')) L ps ds (ms.set n { m with bindings := bs' }) := by
  obtain ⟨dx, kvs, m1, m2, m3⟩ := hmap
  refine ⟨by rw [upd_ne (ne_of h.l m2 (fun z => nomatch z))]; exact h.l, by rw [List.length_set]; exact h.lp, by rw [List.length_set]; exact h.ld, fun i u v x hu hv hx => ?_⟩
  by_cases hi : i = n
  · subst hi
    rw [hp] at hu
    rw [hd] at hv
    cases hu
    cases hv
    have hil : i < ms.length := by rw [← h.lp]; exact (List.getElem?_eq_some_iff.mp hp).1
    rw [List.getElem?_set_self hil] at hx
    cases hx
    exact ⟨dx, kvs', by rw [upd_ne (ne_of m1 m2 (fun z => nomatch z))]; exact m1, upd_same, hk⟩
  · rw [List.getElem?_set_ne (Ne.symm hi)] at hx
    obtain ⟨ex, k2, r1, r2, r3⟩ := h.m i u v x hu hv hx
    have hne : v ≠ d := fun e => hi (nd_get nd (by rw [← e]; exact hv) hd)
    refine ⟨ex, k2, ?_, ?_, kvs_dict m2 r3⟩
    · rw [upd_ne (ne_of r1 m2 (fun z => nomatch z))]; exact r1
    · rw [upd_ne hne]; exact r2
/-- another map at a place -/
theorem MapsAt.putMap {a : Ad} {H H' : Hp} {L : Addr} {ps ds : List Addr} {ms : List Map_} {n : Nat} {p d : Addr} {m : Map_} (h : MapsAt a H L ps ds ms) (hn : n < ms.length)
    (hL : H' L = some (.lst ((ps.set n p).map V.ref))) (hm : MapAt a H' p d n m) (dl : ∀ p d i m, MapAt a H p d i m → MapAt a H' p d i m) : MapsAt a H' L (ps.set n p) (ds.set n d) (ms.set n m) := by
  refine ⟨hL, by rw [List.length_set, List.length_set]; exact h.lp, by rw [List.length_set, List.length_set]; exact h.ld, fun i u v x hu hv hx => ?_⟩
  by_cases hi : i = n
  · subst hi
    rw [List.getElem?_set_self (by rw [h.lp]; exact hn)] at hu
    rw [List.getElem?_set_self (by rw [h.ld]; exact hn)] at hv
    rw [List.getElem?_set_self hn] at hx
    cases hu
    cases hv
    cases hx
    exact hm
  · rw [List.getElem?_set_ne (Ne.symm hi)] at hu hv hx
    exact dl _ _ _ _ (h.m i u v x hu hv hx)
theorem kvs_drop {a : Ad} {H : Hp} {s : Ue09.Keys} : ∀ {kvs : List (List L2.Key × V)} {bs : List Ue09.Binding}, Paired (KvAt a H) kvs bs → Paired (KvAt a H) (dropK kvs (kOf s)) (bs.filter fun b => b.seq != s)
  | _, _, .nil => .nil
  | _, _, .cons (a := kv) (b := b) (l₁ := kvs) (l₂ := bs) h t => by
    have ih := kvs_drop (s := s) t
    by_cases c : b.seq = s
    · have e1 : dropK (kv :: kvs) (kOf s) = dropK kvs (kOf s) := List.filter_cons_of_neg (by simp [h.1, c])
      rw [e1, List.filter_cons_of_neg (by simp [c])]
      exact ih
    · have k : ¬ kv.1 = kOf s := fun z => c (kOf_inj (h.1.symm.trans z))
      have e1 : dropK (kv :: kvs) (kOf s) = kv :: dropK kvs (kOf s) := List.filter_cons_of_pos (by simp [k])
      rw [e1, List.filter_cons_of_pos (by simp [c])]
      exact .cons h ih
theorem filter_none {s : Ue09.Keys} {bs : List Ue09.Binding} (h : bs.find? (fun b => b.seq == s) = none) : (bs.filter fun b => b.seq != s) = bs := by
  rw [List.filter_eq_self]
  intro b hb
  have := List.find?_eq_none.mp h b hb
  simpa using this
theorem filter_less {s : Ue09.Keys} : ∀ {bs : List Ue09.Binding} {b : Ue09.Binding}, bs.find? (fun b => b.seq == s) = some b → (bs.filter fun b => b.seq != s).length < bs.length
  | [], _, h => by simp at h
  | x :: bs, b, h => by
    by_cases c : x.seq = s
    · rw [List.filter_cons_of_neg (by simp [c])]
      exact Nat.lt_succ_of_le (List.length_filter_le ..)
    · rw [List.find?_cons_of_neg (by simp [c])] at h
      rw [List.filter_cons_of_pos (by simp [c])]
      exact Nat.succ_lt_succ (filter_less h)
/-- without: a change of what is not left out -/
theorem without_upd {H : Hp} {l : List Addr} {d : Addr} {o : HO} (h : d ∉ l) : without (upd H d o) l = upd (without H l) d o := by
  funext b
  by_cases hb : b = d
  · subst hb; rw [without_out h, upd_same, upd_same]
  · rw [upd_ne hb]
    by_cases hl : b ∈ l
    · rw [without_in hl, without_in hl]
    · rw [without_out hl, without_out hl, upd_ne hb]
theorem minus_upd {H F : Hp} {d : Addr} {o : HO} (h : F d = none) : minus (upd H d o) F = upd (minus H F) d o := by
  funext b
  by_cases hb : b = d
  · subst hb; rw [minus_get h, upd_same, upd_same]
  · rw [upd_ne hb]; unfold minus; rw [upd_ne hb]
theorem without_some {H : Hp} {l : List Addr} {b : Addr} {o : HO} (h : without H l b = some o) : b ∉ l ∧ H b = some o := by
  by_cases hb : b ∈ l
  · rw [without_in hb] at h; cases h
  · rw [without_out hb] at h; exact ⟨hb, h⟩
/-- the board with one dict written -/
theorem BIn.putDict {a : Ad} {F H : Hp} {B : Addr} {y : BR} {g : House} {n : Nat} {p d : Addr} {kvs' : List (List L2.Key × V)} {bs' : List Ue09.Binding} (sF : Same F H) (h : BIn a (minus H F) B y g) (hn : n < g.maps.all.length)
    (hp : y.ps[n]? = some p) (hd : y.ds[n]? = some d) (hmap : MapAt a (without (minus H F) (B :: own y.S y.x)) p d n (mapAt g.maps n))
    (hk : Paired (KvAt a (upd (without (minus H F) (B :: own y.S y.x)) d (.dT kvs'))) kvs' bs') :
    BAt a F (upd H d (.dT kvs')) B { g with maps := setMap g.maps n { mapAt g.maps n with bindings := bs' } } := by
  obtain ⟨dx, kvs, m1, m2, m3⟩ := id hmap
  obtain ⟨hdl, hdm⟩ := without_some m2
  obtain ⟨hdF, hdH⟩ := minus_some hdm
  have nB : B ≠ d := fun e => hdl (by rw [← e]; exact List.mem_cons_self ..)
  have nO : ∀ z ∈ own y.S y.x, z ≠ d := fun z hz e => hdl (by rw [← e]; exact List.mem_cons_of_mem _ hz)
  refine ⟨same_out sF hdF, y, ?_⟩
  rw [minus_upd hdF]
  obtain ⟨k, hk2⟩ := h.st
  refine ⟨by rw [upd_ne nB]; exact h.ob, ⟨k, ?_⟩, ?_, h.nd⟩
  · refine ⟨?_, ?_, ?_, ?_, ?_, ?_, ev_keep (evk_upd hdm (fun _ z => nomatch z)) hk2.ev, hk2.nd, hk2.fr, fun _ _ e => nomatch e⟩
    · rw [upd_ne (nO _ (by simp [own]))]; exact hk2.ob
    · rw [upd_ne (nO _ (by simp [own]))]; exact hk2.u
    · rw [upd_ne (nO _ (by simp [own]))]; exact hk2.o
    · rw [upd_ne (nO _ (by simp [own]))]; exact hk2.d
    · rw [upd_ne (nO _ (by simp [own]))]; exact hk2.t
    · rw [upd_ne (nO _ (by simp [own]))]; exact hk2.e
  · rw [without_upd hdl]
    exact h.ms.putDict h.nd hp hd hmap hk
def argUnbind (K : PySem.W.Frag) : Hp → Hp → List V → Ue09.Call → Prop := fun F _ as c => ∃ (n : Nat) (p : Addr) (l : List Nat), as = [.int (n : Int), .ref p] ∧ c = .unbind n l ∧ SqL K F p (iv l)
section
variable {P : Program} {w : World} {K : PySem.W.Frag} {mg : Str → Option Value} {base : Heap} {a : Ad}
theorem ok_unbind (T : Txt K mg a) : FnOk P w K mg base CX0 1 a.f_Board_unbind a.fd_Board_unbind ["self", "number", "sequence"] (spB a (argUnbind K)) := by
  refine T.F_Board_unbind.ok sc_Board_unbind (fun vs H Q E h => ?_) (fun cdv A outer s H vs Q E hr h => ⟨(d_Board_unbind T hr).1, (d_Board_unbind T hr).2, ?_⟩)
  · obtain ⟨_, _, _, _, _, rfl, _, _, ⟨_, _, _, rfl, _⟩, _⟩ := h
    rfl
  obtain ⟨F, B, g, c, as, rfl, ⟨sF, y, hB⟩, ok, ⟨n, p, l, rfl, rfl, hp⟩, q⟩ := h
  have hpH := sF.seq hp
  have hob := minus_same _ _ hB.ob
  -- if number >= MAP_COUNT
  refine ⟨_, rfl, _, _, rfl, rfl, _, rfl, ?_⟩
  refine ite2 (fun c1 => ?_) (fun c1 => ?_)
  · have c1 : 8 ≤ n := by have := of_decide_eq_true c1; omega
    refine ⟨(by show 1 ≤ sizeLine; decide), fun p2 hp2 => ?_⟩
    have e : Ue09.step g (.unbind n l) = (g, [-2]) := if_pos c1
    rw [e] at q
    exact q _ p2 (BAt.grow ⟨sF, y, hB⟩ (same_new hp2)) (same_none sF hp2) upd_same
  · have c1 : ¬ 8 ≤ n := fun z => c1 (decide_eq_true (by omega))
    have hn : n < g.maps.all.length := by rw [ok.ok.len]; omega
    obtain ⟨pm, d, e1, e2, hmap⟩ := hB.ms.at_ hn
    obtain ⟨dx, kvs, m1, m2, m3⟩ := id hmap
    have sW : Same (without (minus H F) (B :: own y.S y.x)) H := (without_same).trans minus_same
    have eL : (y.ps.map V.ref)[n]? = some (V.ref pm) := by rw [List.getElem?_map, e1]; rfl
    have es : Ue09.step g (.unbind n l) = (if ((mapAt g.maps n).bindings.filter fun b => b.seq != l).length = (mapAt g.maps n).bindings.length then (g, [-6]) else ({ g with maps := setMap g.maps n { mapAt g.maps n with bindings := (mapAt g.maps n).bindings.filter fun b => b.seq != l } }, Ue09.ints [((mapAt g.maps n).bindings.filter fun b => b.seq != l).length])) := if_neg c1
    -- bindings = self.maps[number].bindings
    refine ⟨_, rfl, B, a.C_Board, y.dx, _, _, rfl, hob, T.c_Board, T.no_Board_maps, lk_Board_maps, _, rfl, y.L, _, _, _, rfl, rfl, SqL.of (sW _ _ hB.ms.l), atI_nat eL, pm, a.C_KeyMap, dx, _, _, rfl, sW _ _ m1, T.c_KeyMap, T.no_KeyMap_bindings, lk_KeyMap_bindings, ?_⟩
    -- if tuple(sequence) not in bindings
    refine ⟨_, rfl, p, _, rfl, .inl ⟨hpH, fun t ht => ?_⟩⟩
    have hdH : H d = some (.dT kvs) := sW _ _ m2
    have s1 : Same H (upd H t (.tup (iv l))) := same_new ht
    have ht1 : (upd H t (.tup (iv l))) t = some (.tup ((kOf l).map kV)) := by rw [kOf_kV]; exact upd_same
    refine ⟨_, rfl, d, _, rfl, DGet.t (s1 _ _ hdH) ht1, _, rfl, ?_⟩
    obtain ⟨v1, v2⟩ := val_of (s := l) m3
    cases ef : (mapAt g.maps n).bindings.find? (fun b => b.seq == l) with
    | none =>
      rw [v2 ef]
      refine iteT ?_
      refine ⟨(by show 1 ≤ sizeLine; decide), fun p2 hp2 => ?_⟩
      rw [es, if_pos (by rw [filter_none ef])] at q
      exact q _ p2 (BAt.grow ⟨sF, y, hB⟩ (s1.trans (same_new hp2))) (same_none (sF.trans s1) hp2) upd_same
    | some b =>
      obtain ⟨o, eo, hb⟩ := v1 b ef
      rw [eo]
      refine iteF ?_
      rw [es, if_neg (Nat.ne_of_lt (filter_less ef))] at q
      -- bindings.pop(tuple(sequence))
      refine ⟨_, rfl, .inr (.inr (.inl ⟨rfl, .inr ⟨_, s1 _ _ hdH⟩⟩)), _, rfl, p, _, rfl, .inl ⟨s1.seq hpH, fun t2 ht2 => ?_⟩⟩
      have s2 := s1.trans (same_new (o := .tup (iv l)) ht2)
      have ht3 : (upd (upd H t (.tup (iv l))) t2 (.tup (iv l))) t2 = some (.tup ((kOf l).map kV)) := by rw [kOf_kV]; exact upd_same
      refine ⟨d, kvs, kOf l, t2, _, rfl, rfl, s2 _ _ hdH, ht3, eo, ?_⟩
      have hB2 := hB.grow (minus_mono (F := F) s2)
      have hmap2 := hmap.same (without_mono (l := B :: own y.S y.x) (minus_mono (F := F) s2))
      obtain ⟨dx2, kvs2, _, m2', m3'⟩ := id hmap2
      have ek : kvs2 = kvs := by
        have z := ((without_same).trans minus_same) _ _ m2'
        rw [s2 _ _ hdH] at z
        injection z with z
        injection z with z
        exact z.symm
      subst ek
      have hfin := hB2.putDict (sF.trans s2) hn e1 e2 hmap2 (kvs_dict (k' := dropK kvs2 (kOf l)) m2' (kvs_drop (s := l) m3'))
      have el : (dropK kvs2 (kOf l)).length = ((mapAt g.maps n).bindings.filter fun b => b.seq != l).length := Paired.length (kvs_drop (s := l) m3')
      refine ⟨_, rfl, d, _, rfl, upd_same, (by show 1 ≤ sizeLine; decide), fun p2 hp2 => ?_⟩
      rw [el]
      exact q _ p2 (hfin.grow (same_new hp2)) (same_none hfin.1 hp2) upd_same
end
end Km

namespace Km
open PySem PySem.Spec PyProof.Rows L2
open Ue09 (House runOf after Map_ Maps mapAt setMap)

theorem iv_ref {l : List Nat} {ps : List Addr} (h : ps ≠ []) : iv l ≠ ps.map V.ref := fun e => by
  cases ps with
  | nil => exact h rfl
  | cons p ps => cases l with
    | nil => simp [iv] at e
    | cons n l => simp [iv] at e
theorem BindAt.list {a : Ad} {H H' : Hp} {p L : Addr} {b : Ue09.Binding} {ps : List Addr} (h : BindAt a H p b) (hL : H L = some (.lst (ps.map V.ref))) (hn : ps ≠ []) (k : ∀ b o, H b = some o → b ≠ L → H' b = some o) : BindAt a H' p b := by
  obtain ⟨dx, dp, sq, h1, h2, h3⟩ := h
  exact ⟨dx, dp, sq, k _ _ h1 (ne_of h1 hL (fun z => nomatch z)), k _ _ h2 (ne_of h2 hL (fun z => iv_ref hn (by injection z))), k _ _ h3 (ne_of h3 hL (fun z => nomatch z))⟩
theorem MapAt.list {a : Ad} {H H' : Hp} {p d L : Addr} {i : Nat} {m : Map_} {ps : List Addr} (h : MapAt a H p d i m) (hL : H L = some (.lst (ps.map V.ref))) (hn : ps ≠ []) (k : ∀ b o, H b = some o → b ≠ L → H' b = some o) : MapAt a H' p d i m := by
  obtain ⟨dx, kvs, h1, h2, h3⟩ := h
  exact ⟨dx, kvs, k _ _ h1 (ne_of h1 hL (fun z => nomatch z)), k _ _ h2 (ne_of h2 hL (fun z => nomatch z)), Paired.imp (fun _ _ ⟨e, q, e2, hb⟩ => ⟨e, q, e2, hb.list hL hn k⟩) h3⟩
theorem nodup_set {l : List Addr} {d : Addr} : ∀ {n : Nat}, l.Nodup → d ∉ l → (l.set n d).Nodup := by
  induction l with
  | nil => intro n h _; simpa using h
  | cons x l ih =>
    intro n h hd
    have h1 := List.nodup_cons.mp h
    have hd2 : d ∉ l := fun z => hd (List.mem_cons_of_mem _ z)
    cases n with
    | zero => exact List.nodup_cons.mpr ⟨hd2, h1.2⟩
    | succ n =>
      refine List.nodup_cons.mpr ⟨fun z => ?_, ih h1.2 hd2⟩
      rcases List.mem_or_eq_of_mem_set z with z | z
      · exact h1.1 z
      · exact hd (by rw [← z]; exact List.mem_cons_self ..)
def argMap : Hp → Hp → List V → Ue09.Call → Prop := fun _ _ as c => ∃ (n : Nat) (s : Bool), as = [.int (n : Int), b2 s] ∧ c = .map_ n s
section
variable {P : Program} {w : World} {K : PySem.W.Frag} {mg : Str → Option Value} {base : Heap} {a : Ad}
theorem ok_renew (T : Txt K mg a) : FnOk P w K mg base CX0 3 a.f_Board_renew_map a.fd_Board_renew_map ["self", "number", "shut"] (spB a argMap) := by
  refine T.F_Board_renew_map.ok sc_Board_renew_map (fun vs H Q E h => ?_) (fun cdv A outer s H vs Q E hr h => ⟨(d_Board_renew_map T (ok_KeyMapInit T) hr).1, (d_Board_renew_map T (ok_KeyMapInit T) hr).2, ?_⟩)
  · obtain ⟨_, _, _, _, _, rfl, _, _, ⟨_, _, rfl, _⟩, _⟩ := h
    rfl
  obtain ⟨F, B, g, c, as, rfl, ⟨sF, y, hB⟩, ok, ⟨n, sh, rfl, rfl⟩, q⟩ := h
  have hob := minus_same _ _ hB.ob
  refine ⟨_, rfl, _, _, rfl, rfl, _, rfl, ?_⟩
  refine ite2 (fun c1 => ?_) (fun c1 => ?_)
  · have c1 : 8 ≤ n := by have := of_decide_eq_true c1; omega
    refine ⟨(by show 1 ≤ sizeLine; decide), fun p2 hp2 => ?_⟩
    have e : Ue09.step g (.map_ n sh) = (g, [-2]) := if_pos c1
    rw [e] at q
    exact q _ p2 (BAt.grow ⟨sF, y, hB⟩ (same_new hp2)) (same_none sF hp2) upd_same
  · have c1 : ¬ 8 ≤ n := fun z => c1 (decide_eq_true (by omega))
    have es : Ue09.step g (.map_ n sh) = ({ g with maps := setMap g.maps n ⟨sh, []⟩ }, Ue09.ints [n]) := if_neg c1
    rw [es] at q
    have hlen : y.ps.length = 8 := by rw [hB.ms.lp, ok.ok.len]
    have hne : y.ps ≠ [] := by intro z; rw [z] at hlen; simp at hlen
    have sW : Same (without (minus H F) (B :: own y.S y.x)) H := (without_same).trans minus_same
    obtain ⟨hLl, hLm⟩ := without_some hB.ms.l
    obtain ⟨hLF, hLH⟩ := minus_some hLm
    -- self.maps[number] = KeyMap(number, shut)
    refine ⟨_, rfl, _, rfl, fun x dx nx nd nxd => ?_⟩
    refine ⟨x, dx, _, _, rfl, upd_same, fun H1 d hd0 ndx h1 h2 kp => ⟨rfl, ?_⟩⟩
    have s1 : Same H H1 := made_same nx nd kp
    have hdH : H d = none := by
      have ndx2 : d ≠ x := ndx
      rw [upd_ne ndx2] at hd0
      by_cases z : d = dx
      · rw [z]; exact nd
      · rw [upd_ne z] at hd0; exact hd0
    have ixn : ixN (y.ps.map V.ref).length (n : Int) = some n := by
      unfold ixN
      rw [if_pos (by omega), if_pos (by rw [List.length_map, hlen]; omega)]
      simp
    refine ⟨_, rfl, B, a.C_Board, y.dx, _, _, rfl, s1 _ _ hob, T.c_Board, T.no_Board_maps, lk_Board_maps, _, rfl, y.L, _, _, n, rfl, rfl, s1 _ _ hLH, ixn, ?_⟩
    rw [← List.map_set]
    refine ⟨_, rfl, (by show 1 ≤ sizeLine; decide), fun p2 hp2 => ?_⟩
    have hfin : BAt a F (upd H1 y.L (.lst ((y.ps.set n x).map V.ref))) B { g with maps := setMap g.maps n ⟨sh, []⟩ } := by
      have nF : ∀ {z : Addr}, H z = none → F z = none := fun hz => same_none sF hz
      have nBO : ∀ {z : Addr}, H z = none → z ∉ B :: own y.S y.x := fun {z} hz hm => by
        obtain ⟨k, hk⟩ := hB.st
        rcases List.mem_cons.mp hm with e | e
        · rw [e, hob] at hz; cases hz
        · obtain ⟨o, ho⟩ := hk.own_some z e
          rw [minus_same _ _ ho] at hz; cases hz
      have nB : B ≠ y.L := fun e => hLl (by rw [← e]; exact List.mem_cons_self ..)
      have nO : ∀ z ∈ own y.S y.x, z ≠ y.L := fun z hz e => hLl (by rw [← e]; exact List.mem_cons_of_mem _ hz)
      have hB1 := hB.grow (minus_mono (F := F) s1)
      obtain ⟨k, hk2⟩ := hB1.st
      have hxL : x ≠ y.L := fun e => by rw [← e, nx] at hLH; cases hLH
      have hdL : d ≠ y.L := fun e => by rw [← e, hdH] at hLH; cases hLH
      have hLm1 : minus H1 F y.L = some (.lst (y.ps.map V.ref)) := by rw [minus_get hLF]; exact s1 _ _ hLH
      refine ⟨same_out (sF.trans s1) hLF, { y with ps := y.ps.set n x, ds := y.ds.set n d }, ?_⟩
      rw [minus_upd hLF]
      refine ⟨by rw [upd_ne nB]; exact hB1.ob, ⟨k, ?_⟩, ?_, ?_⟩
      · refine ⟨?_, ?_, ?_, ?_, ?_, ?_, ev_keep (evk_upd hLm1 (fun _ z => nomatch z)) hk2.ev, hk2.nd, hk2.fr, fun _ _ e => nomatch e⟩
        · rw [upd_ne (nO _ (by simp [own]))]; exact hk2.ob
        · rw [upd_ne (nO _ (by simp [own]))]; exact hk2.u
        · rw [upd_ne (nO _ (by simp [own]))]; exact hk2.o
        · rw [upd_ne (nO _ (by simp [own]))]; exact hk2.d
        · rw [upd_ne (nO _ (by simp [own]))]; exact hk2.t
        · rw [upd_ne (nO _ (by simp [own]))]; exact hk2.e
      · rw [without_upd hLl]
        have kk : ∀ b o, (without (minus H F) (B :: own y.S y.x)) b = some o → b ≠ y.L → (upd (without (minus H1 F) (B :: own y.S y.x)) y.L (.lst ((y.ps.set n x).map V.ref))) b = some o := fun b o e hb => by
          rw [upd_ne hb]; exact without_mono (minus_mono s1) b o e
        have g1 : ∀ {z : Addr} {o : HO}, H z = none → z ≠ y.L → H1 z = some o → (upd (without (minus H1 F) (B :: own y.S y.x)) y.L (.lst ((y.ps.set n x).map V.ref))) z = some o := fun {z o} hz hzL e => by
          rw [upd_ne hzL, without_out (nBO hz), minus_get (nF hz)]; exact e
        exact hB.ms.putMap (by rw [ok.ok.len]; omega) upd_same ⟨dx, [], g1 nx hxL h1, g1 hdH hdL h2, .nil⟩ fun p d i m z => z.list hB.ms.l hne kk
      · refine nodup_set hB.nd fun hm => ?_
        obtain ⟨i, hi, e⟩ := List.getElem_of_mem hm
        have hi2 : i < g.maps.all.length := by rw [← hB.ms.ld]; exact hi
        obtain ⟨p', d', _, e2, ⟨_, kv, _, m2, _⟩⟩ := hB.ms.at_ hi2
        rw [List.getElem?_eq_getElem hi] at e2
        have e3 : d = d' := e.symm.trans (Option.some.inj e2)
        have z := sW _ _ m2
        rw [← e3, hdH] at z; cases z
    exact q _ p2 (hfin.grow (same_new hp2)) (same_none hfin.1 hp2) upd_same
end
end Km

namespace Km
open PySem PySem.Spec PyProof.Rows L2
open Ue09 (House runOf after Map_ Maps mapAt setMap)

theorem pf_lt {f : Str} {v : V} {l : List (Str × V)} {n : Nat} (h : l.length < n) : (putF f v l).length < n + 1 := Nat.lt_of_le_of_lt (putF_le ..) (Nat.succ_lt_succ h)
theorem pf_0 : ([] : List (Str × V)).length < 1 := by decide
/-- an attribute set to something new -/
theorem fld_new {H : Hp} {p p1 C dx : Addr} {o1 : HO} {fs fs' : List (Str × V)} (hp : H p = some (.ins C dx fs)) (np : H p1 = none) : p1 ≠ p ∧ (upd (upd H p1 o1) p (.ins C dx fs')) p = some (.ins C dx fs') ∧
    (upd (upd H p1 o1) p (.ins C dx fs')) p1 = some o1 ∧ Rest H (upd (upd H p1 o1) p (.ins C dx fs')) p := by
  have n : p1 ≠ p := (ne_of_none hp np).symm
  refine ⟨n, upd_same, by rw [upd_ne n]; exact upd_same, fun b o e hb => ?_⟩
  rw [upd_ne hb, upd_ne (ne_of_none e np)]; exact e
def runN (all : List Map_) (us os ds : List Nat) : Ue09.Run := ⟨⟨all, us⟩, [], os, ds, 50, []⟩
def spStreamInit (a : Ad) : Sp := fun vs H Q _ => ∃ (p dx L u o d : Addr) (us os ds : List Nat), vs = [.ref p, .ref L, .ref u, .ref o, .ref d] ∧ H p = some (.ins a.C_KeyStream dx []) ∧ H u = some (.lst (iv us)) ∧ H o = some (.lst (iv os)) ∧ H d = some (.lst (iv ds)) ∧
  ∀ H' x, (∀ all, SAt a (without H [p]) H' p L x (runN all us os ds)) → Q .non H'
def spBoardInit (a : Ad) : Sp := fun vs H Q _ => ∃ (p dx : Addr), vs = [.ref p] ∧ H p = some (.ins a.C_Board dx []) ∧ ∀ H', BAt a (without H [p]) H' p Ue09.init → Q .non H'
theorem rest_some {H H' : Hp} {p b : Addr} {o : HO} (r : Rest H H' p) (h : H b = some o) (n : b ≠ p) : H' b = some o := r b o h n
section
variable {P : Program} {w : World} {K : PySem.W.Frag} {mg : Str → Option Value} {base : Heap} {a : Ad}
theorem ok_streamInit (T : Txt K mg a) : FnOk P w K mg base CX0 1 a.f_KeyStream_init a.fd_KeyStream_init ["self", "maps", "in_use", "open_keys", "digits"] (spStreamInit a) := by
  refine T.F_KeyStream_init.ok sc_KeyStream_init (fun vs H Q E h => ?_) (fun cdv A outer s H vs Q E hr h => ⟨(d_KeyStream_init T hr).1, (d_KeyStream_init T hr).2, ?_⟩)
  · obtain ⟨_, _, _, _, _, _, _, _, _, rfl, _⟩ := h
    rfl
  obtain ⟨p, dx, L, au, ao, ad, us, os, ds, rfl, hp, hu0, ho0, hd0, q⟩ := h
  have nu : au ≠ p := ne_of hu0 hp (fun z => nomatch z)
  have no : ao ≠ p := ne_of ho0 hp (fun z => nomatch z)
  have nd : ad ≠ p := ne_of hd0 hp (fun z => nomatch z)
  -- self.maps = maps
  refine ⟨_, rfl, _, rfl, p, a.C_KeyStream, dx, [], rfl, hp, T.c_KeyStream, T.no_KeyStream_maps, (by show 0 < 1000; decide), ?_⟩
  have r0 : Rest H (upd H p (.ins a.C_KeyStream dx (putF "maps" (.ref L) []))) p := fun b o e hb => by rw [upd_ne hb]; exact e
  have g0 : (upd H p (.ins a.C_KeyStream dx (putF "maps" (.ref L) []))) p = some (.ins a.C_KeyStream dx (putF "maps" (.ref L) [])) := upd_same
  generalize upd H p (.ins a.C_KeyStream dx (putF "maps" (.ref L) [])) = H0 at *
  -- in_use
  refine ⟨_, rfl, au, _, rfl, .inl (SqL.of (r0 _ _ hu0 nu)), fun U nU => ?_⟩
  obtain ⟨u1, u2, u3, u4⟩ := fld_new (o1 := .lst (iv us)) (fs' := putF "in_use" (.ref U) (putF "maps" (.ref L) [])) g0 nU
  refine ⟨_, rfl, p, a.C_KeyStream, dx, _, rfl, (by rw [upd_ne u1.symm]; exact g0), T.c_KeyStream, T.no_KeyStream_in_use, Nat.lt_of_lt_of_le (pf_lt pf_0) (by decide), ?_⟩
  generalize upd (upd H0 U (.lst (iv us))) p _ = H1 at *
  -- open_keys
  refine ⟨_, rfl, ao, _, rfl, .inl (SqL.of (u4 _ _ (r0 _ _ ho0 no) no)), fun O nO => ?_⟩
  obtain ⟨o1, o2, o3, o4⟩ := fld_new (o1 := .lst (iv os)) (fs' := putF "open_keys" (.ref O) (putF "in_use" (.ref U) (putF "maps" (.ref L) []))) u2 nO
  refine ⟨_, rfl, p, a.C_KeyStream, dx, _, rfl, (by rw [upd_ne o1.symm]; exact u2), T.c_KeyStream, T.no_KeyStream_open_keys, Nat.lt_of_lt_of_le (pf_lt (pf_lt pf_0)) (by decide), ?_⟩
  generalize upd (upd H1 O (.lst (iv os))) p _ = H2 at *
  -- digits
  refine ⟨_, rfl, ad, _, rfl, .inl (SqL.of (o4 _ _ (u4 _ _ (r0 _ _ hd0 nd) nd) nd)), fun D nD => ?_⟩
  obtain ⟨d1, d2, d3, d4⟩ := fld_new (o1 := .lst (iv ds)) (fs' := putF "digits" (.ref D) (putF "open_keys" (.ref O) (putF "in_use" (.ref U) (putF "maps" (.ref L) [])))) o2 nD
  refine ⟨_, rfl, p, a.C_KeyStream, dx, _, rfl, (by rw [upd_ne d1.symm]; exact o2), T.c_KeyStream, T.no_KeyStream_digits, Nat.lt_of_lt_of_le (pf_lt (pf_lt (pf_lt pf_0))) (by decide), ?_⟩
  generalize upd (upd H2 D (.lst (iv ds))) p _ = H3 at *
  -- to_come
  refine ⟨(by show 0 ≤ sizeLine; decide), fun Tc nT => ?_⟩
  obtain ⟨t1, t2, t3, t4⟩ := fld_new (o1 := .lst []) (fs' := putF "to_come" (.ref Tc) (putF "digits" (.ref D) (putF "open_keys" (.ref O) (putF "in_use" (.ref U) (putF "maps" (.ref L) []))))) d2 nT
  refine ⟨_, rfl, p, a.C_KeyStream, dx, _, rfl, (by rw [upd_ne t1.symm]; exact d2), T.c_KeyStream, T.no_KeyStream_to_come, Nat.lt_of_lt_of_le (pf_lt (pf_lt (pf_lt (pf_lt pf_0)))) (by decide), ?_⟩
  generalize upd (upd H3 Tc (.lst [])) p _ = H4 at *
  -- times_put
  refine ⟨_, rfl, p, a.C_KeyStream, dx, _, rfl, t2, T.c_KeyStream, T.no_KeyStream_times_put, Nat.lt_of_lt_of_le (pf_lt (pf_lt (pf_lt (pf_lt (pf_lt pf_0))))) (by decide), ?_⟩
  have r5 : ∀ fs, Rest H4 (upd H4 p (.ins a.C_KeyStream dx fs)) p := fun fs b o e hb => by rw [upd_ne hb]; exact e
  have r5' := r5 (putF "times_put" (.int 0) (putF "to_come" (.ref Tc) (putF "digits" (.ref D) (putF "open_keys" (.ref O) (putF "in_use" (.ref U) (putF "maps" (.ref L) []))))))
  have g5 : (upd H4 p (.ins a.C_KeyStream dx (putF "times_put" (.int 0) (putF "to_come" (.ref Tc) (putF "digits" (.ref D) (putF "open_keys" (.ref O) (putF "in_use" (.ref U) (putF "maps" (.ref L) [])))))))) p = some _ := upd_same
  generalize upd H4 p (.ins a.C_KeyStream dx (putF "times_put" (.int 0) (putF "to_come" (.ref Tc) (putF "digits" (.ref D) (putF "open_keys" (.ref O) (putF "in_use" (.ref U) (putF "maps" (.ref L) []))))))) = H5 at *
  -- events
  refine ⟨(by show 0 ≤ sizeLine; decide), fun Ev nE => ?_⟩
  obtain ⟨e1, e2, e3, e4⟩ := fld_new (o1 := .lst []) (fs' := putF "events" (.ref Ev) (putF "times_put" (.int 0) (putF "to_come" (.ref Tc) (putF "digits" (.ref D) (putF "open_keys" (.ref O) (putF "in_use" (.ref U) (putF "maps" (.ref L) []))))))) g5 nE
  refine ⟨_, rfl, p, a.C_KeyStream, dx, _, rfl, (by rw [upd_ne e1.symm]; exact g5), T.c_KeyStream, T.no_KeyStream_events, Nat.lt_of_lt_of_le (pf_lt (pf_lt (pf_lt (pf_lt (pf_lt (pf_lt pf_0)))))) (by decide), ?_⟩
  generalize upd (upd H5 Ev (.lst [])) p _ = H6 at *
  have nSome : ∀ {X : Hp} {b c : Addr} {o : HO}, X b = some o → X c = none → c ≠ b := fun hb hc => (ne_of_none hb hc).symm
  have U1 := u3
  have U2 := rest_some o4 U1 u1
  have U3 := rest_some d4 U2 u1
  have U4 := rest_some t4 U3 u1
  have U5 := rest_some r5' U4 u1
  have U6 := rest_some e4 U5 u1
  have O3 := rest_some d4 o3 o1
  have O4 := rest_some t4 O3 o1
  have O5 := rest_some r5' O4 o1
  have O6 := rest_some e4 O5 o1
  have D4 := rest_some t4 d3 d1
  have D5 := rest_some r5' D4 d1
  have D6 := rest_some e4 D5 d1
  have T5 := rest_some r5' t3 t1
  have T6 := rest_some e4 T5 t1
  have sub : Same (without H [p]) H6 := fun b o e => by
    obtain ⟨hb, e⟩ := without_some e
    have hb : b ≠ p := fun z => hb (by simp [z])
    exact e4 _ _ (r5' _ _ (t4 _ _ (d4 _ _ (o4 _ _ (u4 _ _ (r0 _ _ e hb) hb) hb) hb) hb) hb) hb
  have nH : ∀ {X : Hp} {c : Addr}, (∀ b o, H b = some o → b ≠ p → X b = some o) → X c = none → without H [p] c = none := fun {X c} r hc => by
    by_cases hcp : c = p
    · exact without_in (by simp [hcp])
    · rw [without_out (by simp [hcp])]
      cases e : H c with
      | none => rfl
      | some o => rw [r c o e hcp] at hc; cases hc
  have R0 : ∀ b o, H b = some o → b ≠ p → H0 b = some o := fun b o e hb => r0 b o e hb
  have R1 : ∀ b o, H b = some o → b ≠ p → H1 b = some o := fun b o e hb => u4 _ _ (R0 b o e hb) hb
  have R2 : ∀ b o, H b = some o → b ≠ p → H2 b = some o := fun b o e hb => o4 _ _ (R1 b o e hb) hb
  have R3 : ∀ b o, H b = some o → b ≠ p → H3 b = some o := fun b o e hb => d4 _ _ (R2 b o e hb) hb
  have R4 : ∀ b o, H b = some o → b ≠ p → H4 b = some o := fun b o e hb => t4 _ _ (R3 b o e hb) hb
  have R5 : ∀ b o, H b = some o → b ≠ p → H5 b = some o := fun b o e hb => r5' _ _ (R4 b o e hb) hb
  refine q _ ⟨dx, U, O, D, Tc, Ev, []⟩ fun all => ⟨?_, U6, O6, D6, T6, e3, .nil, ?_, ?_, sub⟩
  · rw [e2]
    exact congrArg (fun z => some (HO.ins a.C_KeyStream dx z)) new_KeyStream
  · simp only [List.nodup_cons, List.mem_cons, List.not_mem_nil, or_false, not_or, not_false_eq_true, List.nodup_nil, and_true]
    exact ⟨⟨(nSome U1 nO).symm, (nSome U2 nD).symm, (nSome U3 nT).symm, (nSome U5 nE).symm⟩, ⟨(nSome o3 nD).symm, (nSome O3 nT).symm, (nSome O5 nE).symm⟩, ⟨(nSome d3 nT).symm, (nSome D5 nE).symm⟩, (nSome T5 nE).symm⟩
  · intro z hz
    simp only [List.mem_cons, List.not_mem_nil, or_false] at hz
    rcases hz with e | e | e | e | e | e <;> subst e
    · exact without_in (by simp)
    · exact nH R0 nU
    · exact nH R1 nO
    · exact nH R2 nD
    · exact nH R3 nT
    · exact nH R5 nE
theorem ok_boardInit (T : Txt K mg a) : FnOk P w K mg base CX0 3 a.f_Board_init a.fd_Board_init ["self"] (spBoardInit a) := by
  refine T.F_Board_init.ok sc_Board_init (fun vs H Q E h => ?_) (fun cdv A outer s H vs Q E hr h => ⟨(d_Board_init T (ok_streamInit T) (ok_KeyMapInit T) hr).1, (d_Board_init T (ok_streamInit T) (ok_KeyMapInit T) hr).2, ?_⟩)
  · obtain ⟨_, _, rfl, _⟩ := h
    rfl
  obtain ⟨p, dx, rfl, hp, q⟩ := h
  -- [KeyMap(0) for number in range(MAP_COUNT)]
  refine ⟨8, rfl, by decide, by decide, fun L nL => ?_⟩
  refine lc_range (lo := 0) (n := 8) (fun i H' => Same H H' ∧ ∃ ps ds : List Addr, ps.length = i ∧ ds.length = i ∧ H' L = some (.lst (ps.map V.ref)) ∧ ds.Nodup ∧ (∀ b ∈ ps ++ ds, H b = none) ∧ L ∉ ps ++ ds ∧
      ∀ (j : Nat) (p' d' : Addr), ps[j]? = some p' → ds[j]? = some d' → MapAt a (minus H' H) p' d' j ⟨false, []⟩) ?_ ?_ ?_
  · exact ⟨same_new nL, [], [], rfl, rfl, upd_same, List.nodup_nil, (fun _ h => by simp at h), (fun h => by simp at h), fun j p' d' h => by simp at h⟩
  · rintro i H1 hi ⟨s1, ps, ds, l1, l2, hL, nd, nw, nLm, hm⟩
    refine ⟨rfl, ?_⟩
    unfold tYes
    refine (if_pos (c := true = true) rfl).mpr ?_
    refine ⟨_, rfl, fun x dx2 nx nd2 ne => ?_⟩
    refine ⟨x, dx2, _, _, rfl, upd_same, fun H2 d hd0 ndx h1 h2 kp => ⟨rfl, ?_⟩⟩
    have s2 : Same H1 H2 := made_same nx nd2 kp
    have hdH1 : H1 d = none := by
      rw [upd_ne ndx] at hd0
      by_cases z : d = dx2
      · rw [z]; exact nd2
      · rw [upd_ne z] at hd0; exact hd0
    have hLx : L ≠ x := ne_of_none hL nx
    have hLd : L ≠ d := ne_of_none hL hdH1
    refine ⟨_, s2 _ _ hL, (by rw [List.length_map, l1]; exact Nat.lt_trans hi (by decide)), same_out (s1.trans s2) nL, ps ++ [x], ds ++ [d], by simp [l1], by simp [l2], ?_, ?_, ?_, ?_, ?_⟩
    · rw [upd_same, List.map_append]; rfl
    · rw [List.nodup_append]
      refine ⟨nd, by simp, fun y hy z hz => ?_⟩
      have hz : z = d := by simpa using hz
      subst hz
      intro e
      subst e
      obtain ⟨j, hj, ej⟩ := List.getElem_of_mem hy
      have hj2 : j < ps.length := by rw [l1, ← l2]; exact hj
      obtain ⟨_, kv, _, m2, _⟩ := hm j _ _ (List.getElem?_eq_getElem hj2) (List.getElem?_eq_getElem hj)
      have z2 := minus_same _ _ m2
      have z3 : H1 y = some (.dT kv) := by rw [← ej]; exact z2
      rw [hdH1] at z3; cases z3
    · intro b hb
      simp only [List.mem_append, List.mem_singleton] at hb
      rcases hb with (hb | hb) | (hb | hb)
      · exact nw b (by simp [hb])
      · rw [hb]; exact same_none s1 nx
      · exact nw b (by simp [hb])
      · rw [hb]; exact same_none s1 hdH1
    · intro hb
      simp only [List.mem_append, List.mem_singleton] at hb
      rcases hb with (hb | hb) | (hb | hb)
      · exact nLm (by simp [hb])
      · exact hLx hb
      · exact nLm (by simp [hb])
      · exact hLd hb
    · have hHL : (minus (upd H2 L (.lst (ps.map V.ref ++ [V.ref x]))) H) = upd (minus H2 H) L (.lst (ps.map V.ref ++ [V.ref x])) := minus_upd nL
      rw [hHL]
      have kk : ∀ b o, minus H1 H b = some o → b ≠ L → (upd (minus H2 H) L (.lst (ps.map V.ref ++ [V.ref x]))) b = some o := fun b o e hb => by
        rw [upd_ne hb]; exact minus_mono s2 b o e
      intro j p' d' hp' hd'
      by_cases hj : j < i
      · rw [List.getElem?_append_left (by rw [l1]; exact hj)] at hp'
        rw [List.getElem?_append_left (by rw [l2]; exact hj)] at hd'
        have hps : ps ≠ [] := fun e => by rw [e] at l1; simp at l1; omega
        exact (hm j p' d' hp' hd').list (by rw [minus_get nL]; exact hL) hps kk
      · have hj2 : j < (ps ++ [x]).length := (List.getElem?_eq_some_iff.mp hp').1
        rw [List.length_append, List.length_singleton, l1] at hj2
        have ej : j = i := by omega
        subst ej
        rw [List.getElem?_append_right (by rw [l1]; exact Nat.le_refl _), l1, Nat.sub_self] at hp'
        rw [List.getElem?_append_right (by rw [l2]; exact Nat.le_refl _), l2, Nat.sub_self] at hd'
        cases hp'
        cases hd'
        refine ⟨dx2, [], ?_, ?_, .nil⟩
        · rw [upd_ne hLx.symm, minus_get (same_none s1 nx), h1, Int.zero_add]; rfl
        · rw [upd_ne hLd.symm, minus_get (same_none s1 hdH1)]; exact h2
  · rintro H1 ⟨s1, ps, ds, l1, l2, hL, nd, nw, nLm, hm⟩
    -- self.maps = ..
    have hpL : p ≠ L := ne_of_none hp nL
    have hp1 := s1 _ _ hp
    refine ⟨_, rfl, p, a.C_Board, dx, [], rfl, hp1, T.c_Board, T.no_Board_maps, (by show 0 < 1000; decide), ?_⟩
    have r2 : Rest H1 (upd H1 p (.ins a.C_Board dx (putF "maps" (.ref L) []))) p := fun b o e hb => by rw [upd_ne hb]; exact e
    have g2 : (upd H1 p (.ins a.C_Board dx (putF "maps" (.ref L) []))) p = some (.ins a.C_Board dx (putF "maps" (.ref L) [])) := upd_same
    generalize upd H1 p (.ins a.C_Board dx (putF "maps" (.ref L) [])) = H2 at *
    -- self.stream = KeyStream(self.maps, [0], [], [])
    refine ⟨_, rfl, p, a.C_Board, dx, _, _, rfl, g2, T.c_Board, T.no_Board_maps, lk_here, (by show 1 ≤ sizeLine; decide), fun q1 n1 => ⟨(by show 0 ≤ sizeLine; decide), fun q2 n2 => ⟨(by show 0 ≤ sizeLine; decide), fun q3 n3 => ?_⟩⟩⟩
    have sq : Same H2 (upd (upd (upd H2 q1 (.lst (iv [0]))) q2 (.lst (iv []))) q3 (.lst (iv []))) := (same_new n1).trans ((same_new n2).trans (same_new n3))
    have v1 : (upd (upd (upd H2 q1 (.lst (iv [0]))) q2 (.lst (iv []))) q3 (.lst (iv []))) q1 = some (.lst (iv [0])) := same_new n3 _ _ (same_new n2 _ _ upd_same)
    have v2 : (upd (upd (upd H2 q1 (.lst (iv [0]))) q2 (.lst (iv []))) q3 (.lst (iv []))) q2 = some (.lst (iv [])) := same_new n3 _ _ upd_same
    have v3 : (upd (upd (upd H2 q1 (.lst (iv [0]))) q2 (.lst (iv []))) q3 (.lst (iv []))) q3 = some (.lst (iv [])) := upd_same
    have hX : (upd (upd (upd H2 q1 (.lst [.int 0])) q2 (.lst [])) q3 (.lst [])) = upd (upd (upd H2 q1 (.lst (iv [0]))) q2 (.lst (iv []))) q3 (.lst (iv [])) := rfl
    have r2' : ∀ b o, H1 b = some o → b ≠ p → (upd (upd (upd H2 q1 (.lst (iv [0]))) q2 (.lst (iv []))) q3 (.lst (iv []))) b = some o := fun b o e hb => sq _ _ (r2 _ _ e hb)
    have g2' := sq _ _ g2
    rw [hX]
    generalize (upd (upd (upd H2 q1 (.lst (iv [0]))) q2 (.lst (iv []))) q3 (.lst (iv []))) = H2' at *
    clear hX r2 g2 sq
    have r2 := r2'
    have g2 := g2'
    clear r2' g2'
    intro S dxS nS ndS neS
    have k1 : ∀ b o, H2' b = some o → (upd (upd H2' dxS (.own S)) S (.ins a.C_KeyStream dxS [])) b = some o := fun b o e => by
      rw [upd_ne (ne_of_none e nS), upd_ne (ne_of_none e ndS)]; exact e
    refine ⟨S, dxS, L, q1, q2, q3, [0], [], [], rfl, upd_same, k1 _ _ v1, k1 _ _ v2, k1 _ _ v3, fun H4 x hS => ⟨rfl, ?_⟩⟩
    have npS : p ≠ S := ne_of_none g2 nS
    have sH2' : ∀ b o, H2' b = some o → (without (upd (upd H2' dxS (.own S)) S (.ins a.C_KeyStream dxS [])) [S]) b = some o := fun b o e => by
      have h1 : b ≠ S := ne_of_none e nS
      rw [without_out (by simp [h1]), upd_ne h1, upd_ne (ne_of_none e ndS)]; exact e
    have s4 : ∀ b o, H2' b = some o → H4 b = some o := fun b o e => (hS []).sub b o (sH2' b o e)
    have ownN : ∀ z ∈ own S x, H2' z = none := fun z hz => by
      cases e : H2' z with
      | none => rfl
      | some o => have := (hS []).fr z hz; rw [sH2' z o e] at this; cases this
    have g4 := s4 _ _ g2
    refine ⟨_, rfl, p, a.C_Board, dx, _, rfl, g4, T.c_Board, T.no_Board_stream, (by show 1 < 1000; decide), ?_⟩
    refine ⟨_, rfl, p, a.C_Board, dx, _, rfl, upd_same, T.c_Board, T.no_Board_ticks_to_wait, putF_1, ?_⟩
    have r5 : Rest H4 (upd (upd H4 p (.ins a.C_Board dx (putF "stream" (.ref S) (putF "maps" (.ref L) [])))) p (.ins a.C_Board dx (putF "ticks_to_wait" (.int 10) (putF "stream" (.ref S) (putF "maps" (.ref L) []))))) p := fun b o e hb => by rw [upd_ne hb, upd_ne hb]; exact e
    have g5 : (upd (upd H4 p (.ins a.C_Board dx (putF "stream" (.ref S) (putF "maps" (.ref L) [])))) p (.ins a.C_Board dx (putF "ticks_to_wait" (.int 10) (putF "stream" (.ref S) (putF "maps" (.ref L) []))))) p = some (.ins a.C_Board dx (fl_Board (.ref L) (.ref S) (.int 10))) :=
      Eq.trans upd_same (congrArg (fun z => some (HO.ins a.C_Board dx z)) new_Board)
    generalize (upd (upd H4 p (.ins a.C_Board dx (putF "stream" (.ref S) (putF "maps" (.ref L) [])))) p (.ins a.C_Board dx (putF "ticks_to_wait" (.int 10) (putF "stream" (.ref S) (putF "maps" (.ref L) []))))) = H5 at *
    have F1 : ∀ {z : Addr}, H z = none → without H [p] z = none := fun {z} hz => by
      by_cases e : z = p
      · exact without_in (by simp [e])
      · rw [without_out (by simp [e])]; exact hz
    have H12 : ∀ {z : Addr}, H2' z = none → H z = none := fun {z} hz => by
      cases e : H z with
      | none => rfl
      | some o =>
        by_cases ep : z = p
        · rw [ep, g2] at hz; cases hz
        · rw [r2 _ _ (s1 _ _ e) ep] at hz; cases hz
    have ownF : ∀ z ∈ own S x, without H [p] z = none := fun z hz => F1 (H12 (ownN z hz))
    have ownp : ∀ z ∈ own S x, z ≠ p := fun z hz e => by have := ownN z hz; rw [e, g2] at this; cases this
    have hS0 := hS (List.replicate 8 ⟨false, []⟩)
    have gt : ∀ z ∈ own S x, ∀ o, H4 z = some o → minus H5 (without H [p]) z = some o := fun z hz o e => by
      rw [minus_get (ownF z hz)]; exact r5 _ _ e (ownp z hz)
    have sF : Same (without H [p]) H5 := fun b o e => by
      obtain ⟨hb, e⟩ := without_some e
      have hb : b ≠ p := fun z => hb (by simp [z])
      exact r5 _ _ (s4 _ _ (r2 _ _ (s1 _ _ e) hb)) hb
    have part : Same (minus H1 H) (without (minus H5 (without H [p])) (p :: own S x)) := fun b o e => by
      obtain ⟨e1, e2⟩ := minus_some e
      have hb : b ≠ p := fun z => by rw [z, hp] at e1; cases e1
      have e3 := r2 _ _ e2 hb
      rw [without_out (fun hm => ?_), minus_get (F1 e1)]
      · exact r5 _ _ (s4 _ _ e3) hb
      · rcases List.mem_cons.mp hm with z | z
        · exact hb z
        · have := ownN b z; rw [e3] at this; cases this
    refine q _ ⟨sF, ⟨dx, S, L, x, ps, ds⟩, ?_, ⟨50, ?_⟩, ?_, nd⟩
    · rw [minus_get (without_in (by simp))]; exact g5
    · refine ⟨gt _ (by simp [own]) _ hS0.ob, gt _ (by simp [own]) _ hS0.u, gt _ (by simp [own]) _ hS0.o, gt _ (by simp [own]) _ hS0.d, gt _ (by simp [own]) _ hS0.t, gt _ (by simp [own]) _ hS0.e, ?_, hS0.nd, fun _ _ => rfl, fun _ _ e => nomatch e⟩
      have z := hS0.ev
      cases hts : x.ts with
      | nil => exact .nil
      | cons _ _ => rw [hts] at z; cases z
    · refine ⟨part _ _ (by rw [minus_get nL]; exact hL), by rw [l1]; rfl, by rw [l2]; rfl, fun i p' d' x' h1 h2 h3 => ?_⟩
      have h3 : (List.replicate 8 (⟨false, []⟩ : Map_))[i]? = some x' := h3
      rw [List.getElem?_replicate] at h3
      split at h3
      · cases h3
        exact (hm i p' d' h1 h2).same part
      · cases h3
end
end Km

namespace Km
open PySem PySem.Spec PyProof.Rows L2
open Ue09 (House Maps Map_ Binding mapAt counted)

/-! ### calls that only ask -/
theorem zv_ints (l : List Nat) : zv (Ue09.ints l) = iv l := by
  unfold zv Ue09.ints iv
  rw [List.map_map]; rfl
theorem iv_cons (n : Nat) (l : List Nat) : iv (n :: l) = .int (n : Int) :: iv l := rfl
def arg0 (c0 : Ue09.Call) : Hp → Hp → List V → Ue09.Call → Prop := fun _ _ as c => as = [] ∧ c = c0
def argRow (mk : List Nat → Ue09.Call) : Hp → Hp → List V → Ue09.Call → Prop := fun F _ as c => ∃ (p : Addr) (l : List Nat), as = [.ref p] ∧ c = mk l ∧ F p = some (.lst (iv l))
def spCounted (a : Ad) : Sp := fun vs H Q _ => ∃ (p : Addr) (l : List Nat), vs = [.ref p] ∧ (H p = some (.lst (iv l)) ∨ H p = some (.tup (iv l))) ∧ l.length ≤ 1000 ∧
  ∀ H' q, Same H H' → H q = none → H' q = some (.lst (iv (l.length :: l))) → Q (.ref q) H'
section
variable {P : Program} {w : World} {K : PySem.W.Frag} {mg : Str → Option Value} {base : Heap} {a : Ad}
theorem ok_counted (T : Txt K mg a) : FnOk P w K mg base CX0 1 a.f_counted a.fd_counted ["numbers"] (spCounted a) := by
  refine T.F_counted.ok sc_counted (fun vs H Q E h => ?_) (fun cdv A outer s H vs Q E hr h => ⟨(d_counted T hr).1, (d_counted T hr).2, ?_⟩)
  · obtain ⟨_, _, rfl, _⟩ := h
    rfl
  obtain ⟨p, l, rfl, hl, h1000, q⟩ := h
  have sq : ∀ H', Same H H' → SqL K H' p (iv l) ∨ SqT K H' p (iv l) := fun H' s' => by
    rcases hl with hl | hl
    · exact .inl (SqL.of (s' _ _ hl))
    · exact .inr (SqT.of (s' _ _ hl))
  refine ⟨_, rfl, p, _, rfl, sq H (Same.refl H), (by show 1 ≤ sizeLine; decide), fun l1 h1 => ?_⟩
  have s1 : Same H (upd H l1 (.lst [.int ((iv l).length : Int)])) := same_new h1
  refine ⟨_, rfl, p, _, rfl, sq _ s1, fun l2 h2 => ?_⟩
  have s2 := s1.trans (same_new (o := .lst (iv l)) h2)
  refine ⟨l1, l2, _, _, rfl, rfl, same_new h2 _ _ upd_same, upd_same, ?_, fun r hr => ?_⟩
  · rw [List.length_singleton, iv_len]
    exact Nat.le_trans (show 1 + l.length ≤ 1001 by omega) (by decide)
  · refine q _ r (s2.trans (same_new hr)) (same_none s2 hr) ?_
    rw [upd_same, iv_len, iv_cons]; rfl
theorem ok_tellOpen (T : Txt K mg a) : FnOk P w K mg base CX0 2 a.f_Board_tell_open a.fd_Board_tell_open ["self"] (spB a (arg0 .open_)) := by
  refine T.F_Board_tell_open.ok sc_Board_tell_open (fun vs H Q E h => ?_) (fun cdv A outer s H vs Q E hr h => ⟨(d_Board_tell_open T (ok_counted T) hr).1, (d_Board_tell_open T (ok_counted T) hr).2, ?_⟩)
  · obtain ⟨_, _, _, _, _, rfl, _, _, ⟨rfl, _⟩, _⟩ := h
    rfl
  obtain ⟨F, B, g, c, as, rfl, ⟨sF, y, hB⟩, ok, ⟨rfl, rfl⟩, q⟩ := h
  obtain ⟨n, st, ms, hBG, hBH⟩ := hB.stream sF
  have k1 := ok.short
  have k2 := ok.dig.len
  have k3 := ok.ok.use6
  -- stream = self.stream
  refine ⟨_, rfl, B, a.C_Board, y.dx, _, _, rfl, hBH, T.c_Board, T.no_Board_stream, lk_Board_stream, ?_⟩
  refine ⟨_, rfl, y.S, a.C_KeyStream, y.x.dx, _, _, rfl, st.ob, T.c_KeyStream, T.no_KeyStream_open_keys, lk_KeyStream_open_keys, y.x.O, g.open_, rfl, .inl st.o, by omega, fun H1 q1 s1 n1 e1 => ?_⟩
  have st1 := st.grow s1
  refine ⟨_, rfl, y.S, a.C_KeyStream, y.x.dx, _, _, rfl, st1.ob, T.c_KeyStream, T.no_KeyStream_digits, lk_KeyStream_digits, y.x.D, g.digits, rfl, .inl st1.d, by omega, fun H2 q2 s2 n2 e2 => ?_⟩
  refine ⟨q1, q2, _, _, rfl, rfl, s2 _ _ e1, e2, ?_, fun q3 n3 => ?_⟩
  · rw [iv_len, iv_len, List.length_cons, List.length_cons]
    exact Nat.le_trans (show _ ≤ 20 by omega) (by decide)
  have s3 := s2.trans (same_new (o := .lst (iv (g.open_.length :: g.open_) ++ iv (g.digits.length :: g.digits))) n3)
  have st3 := st1.grow s3
  refine ⟨_, rfl, y.S, a.C_KeyStream, y.x.dx, _, _, rfl, st3.ob, T.c_KeyStream, T.no_KeyStream_in_use, lk_KeyStream_in_use, y.x.U, g.maps.use, rfl, .inl st3.u, by omega, fun H4 q4 s4 n4 e4 => ?_⟩
  refine ⟨q3, q4, _, _, rfl, rfl, s4 _ _ upd_same, e4, ?_, fun q5 n5 => ?_⟩
  · rw [List.length_append, iv_len, iv_len, iv_len, List.length_cons, List.length_cons, List.length_cons]
    exact Nat.le_trans (show _ ≤ 40 by omega) (by decide)
  have sAll := s1.trans (s3.trans s4)
  refine q _ q5 (BAt.grow ⟨sF, y, hB⟩ (sAll.trans (same_new n5))) (same_none (sF.trans sAll) n5) ?_
  rw [upd_same]
  show _ = some (HO.lst (zv (Ue09.ints ([g.open_.length] ++ g.open_ ++ [g.digits.length] ++ g.digits ++ [g.maps.use.length] ++ g.maps.use))))
  rw [zv_ints, ← iv_app, ← iv_app]
  congr 3
  simp
theorem ok_lookup (T : Txt K mg a) : FnOk P w K mg base CX0 4 a.f_Board_lookup a.fd_Board_lookup ["self", "sequence"] (spB a (argRow .lookup)) := by
  refine T.F_Board_lookup.ok sc_Board_lookup (fun vs H Q E h => ?_) (fun cdv A outer s H vs Q E hr h => ⟨(d_Board_lookup T (ok_state T) (ok_bMap T) (ok_cnt T) (ok_SeqFits T) hr).1, (d_Board_lookup T (ok_state T) (ok_bMap T) (ok_cnt T) (ok_SeqFits T) hr).2, ?_⟩)
  · obtain ⟨_, _, _, _, _, rfl, _, _, ⟨_, _, rfl, _⟩, _⟩ := h
    rfl
  obtain ⟨F, B, g, c, as, rfl, ⟨sF, y, hB⟩, ok, ⟨p, l, rfl, rfl, hp⟩, q⟩ := h
  have hpH := sF _ _ hp
  have es : Ue09.step g (.lookup l) = (g, if Ue09.seqOk l = false then [-1] else Ue09.ints [Ue09.codeOf g.maps l, match Ue09.bound g.maps l with
      | none => 0
      | some x => x.1 + 1]) := rfl
  rw [es] at q
  -- if not sequence_fits(sequence)
  refine ⟨_, rfl, p, l, rfl, .inl (SqL.of hpH), _, rfl, ?_⟩
  cases ef : Ue09.seqOk l with
  | false =>
    rw [ef] at q
    refine iteT ?_
    exact ⟨(by show 1 ≤ sizeLine; decide), fun p2 hp2 => q _ p2 (BAt.grow ⟨sF, y, hB⟩ (same_new hp2)) (same_none sF hp2) upd_same⟩
  | true =>
    rw [ef] at q
    refine iteF ?_
    obtain ⟨n, st, ms, hBG, hBH⟩ := hB.stream sF
    have hl4 := (seqOk_len ef).2
    -- counting = self.stream.counting()
    refine ⟨_, rfl, B, a.C_Board, y.dx, _, _, rfl, hBH, T.c_Board, T.no_Board_stream, lk_Board_stream, y.S, y.x.dx, _, rfl, st.ob, nm_KeyStream_counting, _, y.S, y.L, y.x, _, y.ps, y.ds, rfl, st, ms, ok.ok, fun H1 c s1 hc => ?_⟩
    have hc : CAt a (without H (own y.S y.x)) H1 c g.maps (cn g.maps) := hc
    -- key_map = binding_map(counting, tuple(sequence))
    refine ⟨_, rfl, _, rfl, p, _, rfl, .inl ⟨SqL.of (s1 _ _ hpH), fun t ht => ?_⟩⟩
    have s2 := s1.trans (same_new (o := .tup (iv l)) ht)
    have sG2 := st.sub.trans s2
    have hc2 := hc.grow (same_new (o := .tup (iv l)) ht)
    have fin : ∀ (v : Nat), v = (match Ue09.bound g.maps l with
      | none => 0
      | some x => x.1 + 1) → ∀ H3, Same (upd H1 t (.tup (iv l))) H3 → ∀ p3, H3 p3 = none → Q (.ref p3) (upd H3 p3 (.lst [.int (codeN g.maps (cn g.maps) l : Nat), .int (v : Int)])) := fun v hv H3 s3 p3 n3 => by
      have s23 := s2.trans s3
      refine q _ p3 (BAt.grow ⟨sF, y, hB⟩ (s23.trans (same_new n3))) (same_none (sF.trans s23) n3) ?_
      rw [upd_same]
      show _ = some (HO.lst (zv (Ue09.ints [_, _])))
      rw [zv_ints, code_cn, ← hv]; rfl
    have hbm := bound_cn g.maps l
    refine ⟨_, c, t, g.maps, cn g.maps, l, rfl, Dry.of sG2, hc2, upd_same, fun e => ?_, fun n b pm d e hmap => ?_⟩
    · refine ⟨_, rfl, _, rfl, p, _, rfl, .inl ⟨SqL.of (s2 _ _ hpH), fun t2 ht2 => ?_⟩⟩
      have s3 := same_new (o := .tup (iv l)) ht2
      refine ⟨_, c, t2, g.maps, cn g.maps, l, rfl, sG2.trans s3, hc2.grow s3, upd_same, hl4, ok.ok, fun H4 s4 => ?_⟩
      refine ⟨_, rfl, rfl, _, rfl, iteT ?_⟩
      exact ⟨(by show 2 ≤ sizeLine; decide), fun p3 n3 => fin 0 (by rw [hbm, e]) H4 (s3.trans s4) p3 n3⟩
    · obtain ⟨dx, kvs, h1, h2, h3⟩ := id hmap
      refine ⟨_, rfl, _, rfl, p, _, rfl, .inl ⟨SqL.of (s2 _ _ hpH), fun t2 ht2 => ?_⟩⟩
      have s3 := same_new (o := .tup (iv l)) ht2
      refine ⟨_, c, t2, g.maps, cn g.maps, l, rfl, sG2.trans s3, hc2.grow s3, upd_same, hl4, ok.ok, fun H4 s4 => ?_⟩
      refine ⟨_, rfl, rfl, _, rfl, iteF ?_⟩
      refine ⟨_, rfl, pm, a.C_KeyMap, dx, _, _, rfl, s4 _ _ (s3 _ _ (sG2 _ _ h1)), T.c_KeyMap, T.no_KeyMap_number, lk_KeyMap_number, _, _, rfl, rfl, ?_⟩
      exact ⟨(by show 2 ≤ sizeLine; decide), fun p3 n3 => fin (n + 1) (by rw [hbm, e]) H4 (s3.trans s4) p3 n3⟩
end
end Km

namespace Km
open PySem PySem.Spec PyProof.Rows L2
open Ue09 (House Maps Map_ Binding mapAt counted)

theorem zv_cons (n : Nat) (l : List Nat) : zv ((n : Int) :: Ue09.ints l) = iv (n :: l) := by
  rw [← zv_ints]; rfl
/-- rows one behind another -/
theorem rows_len {α : Type} {f : α → List Nat} {k : Nat} : ∀ l : List α, (∀ x ∈ l, (f x).length ≤ k) → (l.flatMap f).length ≤ k * l.length
  | [], _ => by simp
  | x :: l, h => by
    rw [List.flatMap_cons, List.length_append, List.length_cons, Nat.mul_add]
    have h1 := h x (List.mem_cons_self ..)
    have h2 := rows_len l fun y hy => h y (List.mem_cons_of_mem _ hy)
    omega
theorem rows_at {α : Type} (f : α → List Nat) {l : List α} {i : Nat} {x : α} (h : l[i]? = some x) : (l.take (i + 1)).flatMap f = (l.take i).flatMap f ++ f x := by
  rw [take_at h, List.flatMap_append, List.flatMap_cons, List.flatMap_nil, List.append_nil]
section
variable {P : Program} {w : World} {K : PySem.W.Frag} {mg : Str → Option Value} {base : Heap} {a : Ad}
theorem ok_hints (T : Txt K mg a) : FnOk P w K mg base CX0 4 a.f_Board_hints a.fd_Board_hints ["self", "keys"] (spB a (argRow .hints)) := by
  refine T.F_Board_hints.ok sc_Board_hints (fun vs H Q E h => ?_) (fun cdv A outer s H vs Q E hr h => ⟨(d_Board_hints T (ok_state T) (ok_next T) (ok_cnt T) (ok_KeysFit T) hr).1, (d_Board_hints T (ok_state T) (ok_next T) (ok_cnt T) (ok_KeysFit T) hr).2, ?_⟩)
  · obtain ⟨_, _, _, _, _, rfl, _, _, ⟨_, _, rfl, _⟩, _⟩ := h
    rfl
  obtain ⟨F, B, g, c, as, rfl, ⟨sF, y, hB⟩, ok, ⟨p, l, rfl, rfl, hp⟩, q⟩ := h
  have hpH := sF _ _ hp
  have es : Ue09.step g (.hints l) = (g, if Ue09.isKeys l = false ∨ 3 < l.length then [-1] else ((Ue09.nextKeys g.maps l).length : Int) :: Ue09.ints ((Ue09.nextKeys g.maps l).flatMap fun k => [k, Ue09.codeOf g.maps (l ++ [k])])) := rfl
  rw [es] at q
  -- if not keys_fit(keys, 0, LONGEST_SEQUENCE - 1)
  refine ⟨_, rfl, _, _, rfl, rfl, p, l, 0, 3, rfl, .inl (SqL.of hpH), _, rfl, ?_⟩
  cases ef : fits l 0 3 with
  | false =>
    have c1 : Ue09.isKeys l = false ∨ 3 < l.length := by
      unfold fits at ef
      by_cases c2 : l.length ≤ 3
      · rw [decide_eq_true (Nat.zero_le _), decide_eq_true c2] at ef
        exact .inl ef
      · exact .inr (by omega)
    rw [if_pos c1] at q
    refine iteT ?_
    exact ⟨(by show 1 ≤ sizeLine; decide), fun p2 hp2 => q _ p2 (BAt.grow ⟨sF, y, hB⟩ (same_new hp2)) (same_none sF hp2) upd_same⟩
  | true =>
    have hl : l.length ≤ 3 ∧ Ue09.isKeys l = true := by
      unfold fits at ef
      rw [Bool.and_eq_true, Bool.and_eq_true] at ef
      exact ⟨of_decide_eq_true ef.1.2, ef.2⟩
    rw [if_neg (by rintro (z | z)
                   · rw [hl.2] at z; cases z
                   · omega)] at q
    refine iteF ?_
    obtain ⟨n, st, ms, hBG, hBH⟩ := hB.stream sF
    -- counting = self.stream.counting()
    refine ⟨_, rfl, B, a.C_Board, y.dx, _, _, rfl, hBH, T.c_Board, T.no_Board_stream, lk_Board_stream, y.S, y.x.dx, _, rfl, st.ob, nm_KeyStream_counting, _, y.S, y.L, y.x, _, y.ps, y.ds, rfl, st, ms, ok.ok, fun H1 c s1 hc => ?_⟩
    have hc : CAt a (without H (own y.S y.x)) H1 c g.maps (cn g.maps) := hc
    -- found = next_keys(counting, tuple(keys))
    refine ⟨_, rfl, _, rfl, p, _, rfl, .inl ⟨SqL.of (s1 _ _ hpH), fun t ht => ?_⟩⟩
    have s2 := s1.trans (same_new (o := .tup (iv l)) ht)
    have hc2 := hc.grow (same_new (o := .tup (iv l)) ht)
    refine ⟨_, c, t, g.maps, cn g.maps, l, rfl, st.sub.trans s2, hc2, upd_same, hl.1, ok.ok, cn_len ok.ok.use6, fun H3 r ks s3 hr3 rise nod mem => ?_⟩
    have ek : ks = Ue09.nextKeys g.maps l := rising_eq rise nod (next_rising _ _) fun k => by rw [mem k, next_mem ok.ok]
    rw [ek] at hr3
    generalize hK : Ue09.nextKeys g.maps l = K' at *
    have hK256 : K'.length ≤ 256 := by
      rw [← hK, next_cn]
      exact Nat.le_trans (List.length_filter_le ..) (by simp)
    have s13 := s2.trans s3
    have hc3 := hc2.grow s3
    -- answer = [len(found)]
    refine ⟨_, rfl, r, _, rfl, .inl (SqL.of hr3), (by show 1 ≤ sizeLine; decide), fun w' nw => ?_⟩
    rw [iv_len]
    have s4 := s13.trans (same_new (o := .lst [.int (K'.length : Int)]) nw)
    have hr4 := same_new (o := .lst [.int (K'.length : Int)]) nw _ _ hr3
    have hwH : H w' = none := same_none s13 nw
    have hrw : r ≠ w' := ne_of_none hr3 nw
    have hc4 := hc3.grow (same_new (o := .lst [.int (K'.length : Int)]) nw)
    obtain ⟨xs, hcx, hcp⟩ := id hc4
    have hcw : c ≠ w' := by
      obtain ⟨_, z, _⟩ := id hc3
      exact ne_of_none z nw
    refine ⟨_, rfl, r, rfl, ⟨_, SqL.of hr4⟩, ?_⟩
    refine for_list (K := K) (a := r) (xs := iv K') (fun i σ H' => (Same H H' ∧ H' r = some (.lst (iv K')) ∧ H' c = some (.lst (xs.map fun y => V.ref y.1))) ∧ ∃ o : Option V, σ = [some (.ref B), some (.ref p), some (.ref c), some (.ref r), some (.ref w'), o] ∧
        H' w' = some (.lst (iv (K'.length :: (K'.take i).flatMap fun k => [k, Ue09.codeOf g.maps (l ++ [k])]))))
      ⟨⟨s4, hr4, hcx⟩, none, rfl, upd_same⟩ (fun i σ H' _ ⟨⟨_, z, _⟩, _⟩ => SqL.of z) ?_ ?_
    · rintro i v σ H5 hi ⟨⟨s5, hr5, hc5⟩, o, rfl, hw5⟩
      rw [iv_get] at hi
      obtain ⟨k, hk, rfl⟩ := Option.map_eq_some_iff.mp hi
      have hil : i < K'.length := (List.getElem?_eq_some_iff.mp hk).1
      have hC5 : CAt a (without H (own y.S y.x)) H5 c g.maps (cn g.maps) := ⟨xs, hc5, hcp⟩
      -- answer.extend([key, sequence_state(counting, tuple(keys + [key]))])
      refine ⟨_, rfl, .inl ⟨rfl, _, SqL.of hw5⟩, _, rfl, _, rfl, _, rfl, _, rfl, (by show 1 ≤ sizeLine; decide), fun l1 n1 => ?_⟩
      have s6 := same_new (H := H5) (o := .lst [.int (k : Int)]) n1
      refine ⟨p, l1, _, _, rfl, rfl, s6 _ _ (s5 _ _ hpH), upd_same, ?_, fun l2 n2 => ?_⟩
      · rw [iv_len, List.length_singleton]
        exact Nat.le_trans (show _ ≤ 4 by omega) (by decide)
      have ek2 : iv l ++ [V.int (k : Int)] = iv (l ++ [k]) := by rw [iv_app]; rfl
      rw [ek2]
      have s7 := s6.trans (same_new (o := .lst (iv (l ++ [k]))) n2)
      refine ⟨l2, _, rfl, .inl ⟨SqL.of upd_same, fun t3 n3 => ?_⟩⟩
      have s8 := s7.trans (same_new (o := .tup (iv (l ++ [k]))) n3)
      refine ⟨_, c, t3, g.maps, cn g.maps, l ++ [k], rfl, (st.sub.trans s5).trans s8, hC5.grow s8, upd_same, (by rw [List.length_append, List.length_singleton]; omega), ok.ok, fun H9 s9 => ?_⟩
      have s59 := s8.trans s9
      have s9' := s5.trans s59
      refine ⟨(by show 2 ≤ sizeLine; decide), fun l4 n4 => ?_⟩
      have s10 := same_new (H := H9) (o := .lst [.int (k : Int), .int (codeN g.maps (cn g.maps) (l ++ [k]) : Nat)]) n4
      refine ⟨w', l4, _, _, rfl, rfl, s10 _ _ (s59 _ _ hw5), upd_same, ?_, ?_⟩
      · rw [iv_len, List.length_cons]
        have hrl := rows_len (f := fun k => [k, Ue09.codeOf g.maps (l ++ [k])]) (k := 2) (K'.take i) (fun _ _ => by simp)
        rw [List.length_take] at hrl
        show _ + 2 ≤ _
        exact Nat.le_trans (show _ ≤ 1000 by omega) (by decide)
      · refine ⟨⟨same_out (s9'.trans s10) hwH, by rw [upd_ne hrw]; exact s10 _ _ (s59 _ _ hr5), by rw [upd_ne hcw]; exact s10 _ _ (s59 _ _ hc5)⟩, _, rfl, ?_⟩
        rw [upd_same, rows_at _ hk]
        congr 2
        rw [code_cn]
        show _ = iv ((K'.length :: List.flatMap _ _) ++ [k, _])
        rw [iv_app]; rfl
    · rintro σ H5 ⟨⟨s5, hr5, hc5⟩, o, rfl, hw5⟩
      rw [iv_len, List.take_length] at hw5
      refine ⟨_, rfl, q _ w' (BAt.grow ⟨sF, y, hB⟩ s5) (same_none sF hwH) ?_⟩
      rw [hw5, zv_cons]
theorem ok_hidden (T : Txt K mg a) : FnOk P w K mg base CX0 6 a.f_Board_hidden a.fd_Board_hidden ["self"] (spB a (arg0 .hidden)) := by
  refine T.F_Board_hidden.ok sc_Board_hidden (fun vs H Q E h => ?_) (fun cdv A outer s H vs Q E hr h => ⟨(d_Board_hidden T (ok_counted T) (ok_hiddenS T) hr).1, (d_Board_hidden T (ok_counted T) (ok_hiddenS T) hr).2, ?_⟩)
  · obtain ⟨_, _, _, _, _, rfl, _, _, ⟨rfl, _⟩, _⟩ := h
    rfl
  obtain ⟨F, B, g, c, as, rfl, ⟨sF, y, hB⟩, ok, ⟨rfl, rfl⟩, q⟩ := h
  obtain ⟨n, st, ms, hBG, hBH⟩ := hB.stream sF
  have es : Ue09.step g .hidden = (g, ((Ue09.hiddenOf g.maps).length : Int) :: Ue09.ints ((Ue09.hiddenOf g.maps).flatMap fun x => x.1 :: x.2.length :: x.2)) := rfl
  rw [es] at q
  -- found = hidden_sequences(self.maps, self.stream.in_use)
  refine ⟨_, rfl, B, a.C_Board, y.dx, _, _, rfl, hBH, T.c_Board, T.no_Board_maps, lk_Board_maps, _, rfl, B, a.C_Board, y.dx, _, _, rfl, hBH, T.c_Board, T.no_Board_stream, lk_Board_stream, y.S, a.C_KeyStream, y.x.dx, _, _, rfl, st.ob, T.c_KeyStream, T.no_KeyStream_in_use, lk_KeyStream_in_use,
    _, y.L, y.x.U, y.ps, y.ds, g.maps, rfl, st.sub, ms, st.u, ok.ok, fun H1 r ts s1 hr1 hts h200 => ?_⟩
  have hlen4 : ∀ x ∈ Ue09.hiddenOf g.maps, x.2.length ≤ 4 := fun x hx => by
    unfold Ue09.hiddenOf at hx
    obtain ⟨k, _, hx⟩ := List.mem_flatMap.mp hx
    obtain ⟨b, hb, rfl⟩ := List.mem_map.mp hx
    exact (seqOk_len (ok.ok.all k b (List.mem_filter.mp hb).1).seq).2
  generalize Ue09.hiddenOf g.maps = K' at *
  have hlts : ts.length = K'.length := Paired.length hts
  -- answer = [len(found)]
  refine ⟨_, rfl, r, _, rfl, .inl (SqL.of hr1), (by show 1 ≤ sizeLine; decide), fun w' nw => ?_⟩
  rw [List.length_map, hlts]
  have s2 := same_new (H := H1) (o := .lst [.int (K'.length : Int)]) nw
  have hwH : H w' = none := same_none s1 nw
  have hrw : r ≠ w' := ne_of_none hr1 nw
  refine ⟨_, rfl, r, rfl, ⟨_, SqL.of (s2 _ _ hr1)⟩, ?_⟩
  refine for_list (K := K) (a := r) (xs := ts.map V.ref) (fun i σ H' => (Same H H' ∧ H' r = some (.lst (ts.map V.ref)) ∧ Paired (PairAt H') ts K') ∧ ∃ o1 o2 : Option V, σ = [some (.ref B), some (.ref r), some (.ref w'), o1, o2] ∧
      H' w' = some (.lst (iv (K'.length :: (K'.take i).flatMap fun x => x.1 :: x.2.length :: x.2))))
    ⟨⟨s1.trans s2, s2 _ _ hr1, pairAt_keep (same_evk s2) hts⟩, none, none, rfl, upd_same⟩ (fun i σ H' _ ⟨⟨_, z, _⟩, _⟩ => SqL.of z) ?_ ?_
  · rintro i v σ H3 hi ⟨⟨s3, hr3, hts3⟩, o1, o2, rfl, hw3⟩
    rw [List.getElem?_map] at hi
    obtain ⟨t, ht, rfl⟩ := Option.map_eq_some_iff.mp hi
    obtain ⟨x, hx, q1, e1, e2⟩ := Paired.getl hts3 ht
    have hil : i < K'.length := (List.getElem?_eq_some_iff.mp hx).1
    have hx4 := hlen4 x (List.mem_of_getElem? hx)
    have hrl := rows_len (f := fun (x : Nat × Ue09.Keys) => x.1 :: x.2.length :: x.2) (k := 6) (K'.take i) (fun z hz => by have := hlen4 z (List.mem_of_mem_take hz); simp only [List.length_cons]; omega)
    rw [List.length_take] at hrl
    refine ⟨t, _, rfl, SqT.of e1, rfl, _, _, rfl, _, _, rfl, rfl, ?_⟩
    -- answer.append(number)
    refine ⟨_, rfl, .inl ⟨rfl, _, SqL.of hw3⟩, _, rfl, w', _, _, rfl, rfl, hw3, ?_, ?_⟩
    · rw [iv_len, List.length_cons]
      exact Nat.lt_of_le_of_lt (show _ ≤ 2000 by omega) (by decide)
    have ew : iv (K'.length :: (K'.take i).flatMap fun x => x.1 :: x.2.length :: x.2) ++ [V.int (x.1 : Int)] = iv ((K'.length :: (K'.take i).flatMap fun x => x.1 :: x.2.length :: x.2) ++ [x.1]) := by rw [iv_app]; rfl
    rw [ew]
    have kE : EvKeep H3 (upd H3 w' (.lst (iv ((K'.length :: (K'.take i).flatMap fun x => x.1 :: x.2.length :: x.2) ++ [x.1])))) := evk_upd hw3 (fun _ z => nomatch z)
    -- answer.extend(counted(sequence))
    refine ⟨_, rfl, .inl ⟨rfl, _, SqL.of upd_same⟩, _, rfl, q1, x.2, rfl, .inr (kE _ _ e2), by omega, fun H4 q4 s4 n4 e4 => ?_⟩
    refine ⟨w', q4, _, _, rfl, rfl, s4 _ _ upd_same, e4, ?_, ?_⟩
    · rw [iv_len, iv_len]
      simp only [List.length_append, List.length_cons, List.length_nil]
      exact Nat.le_trans (show _ ≤ 2000 by omega) (by decide)
    have kE2 : EvKeep H4 (upd H4 w' (.lst (iv ((K'.length :: (K'.take i).flatMap fun x => x.1 :: x.2.length :: x.2) ++ [x.1]) ++ iv (x.2.length :: x.2)))) := evk_upd (s4 _ _ upd_same) (fun _ z => nomatch z)
    refine ⟨⟨fun b o e => ?_, ?_, pairAt_keep kE2 (pairAt_keep (same_evk s4) (pairAt_keep kE hts3))⟩, _, _, rfl, ?_⟩
    · have hb := ne_of_none e hwH
      rw [upd_ne hb]
      exact s4 _ _ (by rw [upd_ne hb]; exact s3 _ _ e)
    · rw [upd_ne hrw]
      exact s4 _ _ (by rw [upd_ne hrw]; exact hr3)
    · rw [upd_same, rows_at _ hx, ← iv_app, List.append_assoc]; rfl
  · rintro σ H3 ⟨⟨s3, hr3, hts3⟩, o1, o2, rfl, hw3⟩
    rw [List.length_map, hlts, List.take_length] at hw3
    refine ⟨_, rfl, q _ w' (BAt.grow ⟨sF, y, hB⟩ s3) (same_none sF hwH) ?_⟩
    rw [hw3, zv_cons]
end
end Km

namespace Km
open PySem PySem.Spec PyProof.Rows L2
open Ue09 (House Maps Map_ Binding mapAt counted runOf pressed flushed eventsRow hasRing)

/-! ### keys tried out -/
def tryA (r : Ue09.Run) (l : List Nat) : Ue09.Run := flushA { l.foldl pressA r with left := 50 }
theorem try_eq {r : Ue09.Run} (h : Btw r 0) {l : List Nat} (hl : l.length ≤ 20) : flushed (pressed r l) = tryA r l := by
  rw [pressed_eq l h (by omega)]
  exact flushed_eq (presses l h (by omega)).1 (by omega)
def spTry (a : Ad) (tup : Bool) : Sp := fun vs H Q _ => ∃ (G : Hp) (S L k : Addr) (x : SR) (r : Ue09.Run) (ps ds : List Addr) (l : List Nat), vs = [.ref S, .ref k] ∧ SAt a G H S L x r ∧ MapsAt a G L ps ds r.maps.all ∧ Btw r 0 ∧
  G k = some (if tup = true then .tup (iv l) else .lst (iv l)) ∧ l.length ≤ 20 ∧
  ∀ H' e ts, Same G H' → H' e = some (.lst (ts.map V.ref)) → Paired (EvAt H') ts (tryA r l).events → (tryA r l).events.length ≤ many → Q (.ref e) H'
def spRing (a : Ad) : Sp := fun vs H Q _ => ∃ (e : Addr) (ts : List Addr) (es : List Ue09.Event), vs = [.ref e] ∧ H e = some (.lst (ts.map V.ref)) ∧ Paired (EvAt H) ts es ∧ es.length ≤ many ∧
  ∀ H', Same H H' → Q (.bl (es.any fun e => e.kind == 2)) H'
section
variable {P : Program} {w : World} {K : PySem.W.Frag} {mg : Str → Option Value} {base : Heap} {a : Ad}
theorem ok_try (T : Txt K mg a) : FnOk P w K mg base CX0 7 a.f_try_out a.fd_try_out ["stream", "keys"] (spTry a false) := by
  refine T.F_try_out.ok sc_try_out (fun vs H Q E h => ?_) (fun cdv A outer s H vs Q E hr h => ⟨(d_try_out T (ok_takeEvents T) (ok_waitLong T) (ok_press T) hr).1, (d_try_out T (ok_takeEvents T) (ok_waitLong T) (ok_press T) hr).2, ?_⟩)
  · obtain ⟨_, _, _, _, _, _, _, _, _, rfl, _⟩ := h
    rfl
  obtain ⟨G, S, L, k, x, r, ps, ds, l, rfl, st, ms, bt, hk, hl, q⟩ := h
  have hk : G k = some (.lst (iv l)) := hk
  obtain ⟨bq, aq⟩ := presses l bt (by omega)
  refine ⟨_, rfl, k, rfl, ⟨_, SqL.of (st.sub _ _ hk)⟩, ?_⟩
  refine for_list (K := K) (a := k) (xs := iv l) (fun i σ H' => ∃ (x' : SR) (o : Option V), σ = [some (.ref S), some (.ref k), o] ∧ SAt a G H' S L x' ((l.take i).foldl pressA r))
    ⟨x, none, rfl, st⟩ (fun i σ H' _ ⟨_, _, _, z⟩ => SqL.of (z.sub _ _ hk)) ?_ ?_
  · rintro i v σ H2 hi ⟨x2, o, rfl, h2⟩
    rw [iv_get] at hi
    obtain ⟨j, hj, rfl⟩ := Option.map_eq_some_iff.mp hi
    have hil : i < l.length := (List.getElem?_eq_some_iff.mp hj).1
    have hti : (l.take i).length = i := by rw [List.length_take]; omega
    obtain ⟨bi, ai⟩ := presses (l.take i) bt (by rw [hti]; omega)
    have ms2 : MapsAt a G L ps ds ((l.take i).foldl pressA r).maps.all := by rw [ai]; exact ms
    refine ⟨_, rfl, S, x2.dx, _, rfl, h2.ob, nm_KeyStream_press_key, _, rfl, G, S, L, x2, _, ps, ds, j, rfl, h2, ms2, bi.rdy (by rw [hti]; omega) j, fun H3 x3 h3 => ?_⟩
    refine ⟨x3, _, rfl, ?_⟩
    rw [take_at hj, List.foldl_append]
    exact h3
  · rintro σ H2 ⟨x2, o, rfl, h2⟩
    rw [iv_len, List.take_length] at h2
    have ms2 : MapsAt a G L ps ds (l.foldl pressA r).maps.all := by rw [aq]; exact ms
    obtain ⟨b3, a3, o3⟩ := bq.flush (by omega)
    refine ⟨_, rfl, S, x2.dx, _, rfl, h2.ob, nm_KeyStream_wait_long_enough, G, S, L, x2, _, ps, ds, rfl, h2, ms2, bq.rdy0 (by omega), bq.q, fun H3 x3 h3 => ?_⟩
    refine ⟨_, rfl, S, x3.dx, _, rfl, h3.ob, nm_KeyStream_take_events, G, S, L, x3, _, rfl, h3, fun H4 x4 h4 e4 ev4 => ?_⟩
    exact q _ x3.E x3.ts h4.sub e4 ev4 (ev_many b3 (by omega))
theorem ok_tryT (T : Txt K mg a) : FnOk P w K mg base CX0 7 a.f_try_out a.fd_try_out ["stream", "keys"] (spTry a true) := by
  refine T.F_try_out.ok sc_try_out (fun vs H Q E h => ?_) (fun cdv A outer s H vs Q E hr h => ⟨(d_try_outT T (ok_takeEvents T) (ok_waitLong T) (ok_press T) hr).1, (d_try_outT T (ok_takeEvents T) (ok_waitLong T) (ok_press T) hr).2, ?_⟩)
  · obtain ⟨_, _, _, _, _, _, _, _, _, rfl, _⟩ := h
    rfl
  obtain ⟨G, S, L, k, x, r, ps, ds, l, rfl, st, ms, bt, hk, hl, q⟩ := h
  have hk : G k = some (.tup (iv l)) := hk
  obtain ⟨bq, aq⟩ := presses l bt (by omega)
  refine ⟨_, rfl, k, rfl, ⟨_, SqT.of (st.sub _ _ hk)⟩, ?_⟩
  refine for_tup (K := K) (a := k) (xs := iv l) (fun i σ H' => ∃ (x' : SR) (o : Option V), σ = [some (.ref S), some (.ref k), o] ∧ SAt a G H' S L x' ((l.take i).foldl pressA r))
    ⟨x, none, rfl, st⟩ (fun i σ H' _ ⟨_, _, _, z⟩ => SqT.of (z.sub _ _ hk)) ?_ ?_
  · rintro i v σ H2 hi ⟨x2, o, rfl, h2⟩
    rw [iv_get] at hi
    obtain ⟨j, hj, rfl⟩ := Option.map_eq_some_iff.mp hi
    have hil : i < l.length := (List.getElem?_eq_some_iff.mp hj).1
    have hti : (l.take i).length = i := by rw [List.length_take]; omega
    obtain ⟨bi, ai⟩ := presses (l.take i) bt (by rw [hti]; omega)
    have ms2 : MapsAt a G L ps ds ((l.take i).foldl pressA r).maps.all := by rw [ai]; exact ms
    refine ⟨_, rfl, S, x2.dx, _, rfl, h2.ob, nm_KeyStream_press_key, _, rfl, G, S, L, x2, _, ps, ds, j, rfl, h2, ms2, bi.rdy (by rw [hti]; omega) j, fun H3 x3 h3 => ?_⟩
    refine ⟨x3, _, rfl, ?_⟩
    rw [take_at hj, List.foldl_append]
    exact h3
  · rintro σ H2 ⟨x2, o, rfl, h2⟩
    rw [iv_len, List.take_length] at h2
    have ms2 : MapsAt a G L ps ds (l.foldl pressA r).maps.all := by rw [aq]; exact ms
    obtain ⟨b3, a3, o3⟩ := bq.flush (by omega)
    refine ⟨_, rfl, S, x2.dx, _, rfl, h2.ob, nm_KeyStream_wait_long_enough, G, S, L, x2, _, ps, ds, rfl, h2, ms2, bq.rdy0 (by omega), bq.q, fun H3 x3 h3 => ?_⟩
    refine ⟨_, rfl, S, x3.dx, _, rfl, h3.ob, nm_KeyStream_take_events, G, S, L, x3, _, rfl, h3, fun H4 x4 h4 e4 ev4 => ?_⟩
    exact q _ x3.E x3.ts h4.sub e4 ev4 (ev_many b3 (by omega))
theorem ok_ring (T : Txt K mg a) : FnOk P w K mg base CX0 1 a.f_makes_ring a.fd_makes_ring ["events"] (spRing a) := by
  refine T.F_makes_ring.ok sc_makes_ring (fun vs H Q E h => ?_) (fun cdv A outer s H vs Q E hr h => ⟨(d_makes_ring T hr).1, (d_makes_ring T hr).2, ?_⟩)
  · obtain ⟨_, _, _, rfl, _⟩ := h
    rfl
  obtain ⟨e, ts, es, rfl, he, hp, hm, q⟩ := h
  have hlen : ts.length = es.length := Paired.length hp
  refine ⟨_, rfl, e, rfl, ⟨_, SqL.of he⟩, fun D hD => ?_⟩
  refine lc_list (K := K) (a := e) (xs := ts.map V.ref) (fun i H' => Same H H' ∧ H' D = some (.lst (iv ((es.take i).map fun e => e.kind))))
    ⟨same_new hD, upd_same⟩ (fun i H' _ ⟨s2, _⟩ => SqL.of (s2 _ _ he)) ?_ ?_
  · rintro i y H2 hi ⟨s2, hD2⟩
    rw [List.getElem?_map] at hi
    obtain ⟨t, ht, rfl⟩ := Option.map_eq_some_iff.mp hi
    obtain ⟨ev, hev, hE⟩ := Paired.getl hp ht
    have hil : i < es.length := (List.getElem?_eq_some_iff.mp hev).1
    refine ⟨rfl, ?_⟩
    unfold tYes
    refine (if_pos (c := true = true) rfl).mpr ?_
    refine ⟨_, rfl, t, _, _, _, rfl, rfl, SqT.of (s2 _ _ hE), atI_nat (j := 0) rfl, ?_⟩
    refine ⟨_, hD2, ?_, same_out s2 hD, ?_⟩
    · rw [iv_len, List.length_map, List.length_take]
      have : many = 4000000 := rfl
      exact Nat.lt_of_le_of_lt (show _ ≤ 4000000 by omega) (by decide)
    · rw [upd_same, take_at hev, List.map_append, iv_app]; rfl
  · rintro H2 ⟨s2, hD2⟩
    rw [List.length_map, hlen, List.take_length] at hD2
    refine ⟨D, _, rfl, .inl (SqL.of hD2), rfl, iv_flat _, ?_⟩
    have e2 : inV (V.int 2) (iv (es.map fun e => e.kind)) = es.any fun e => e.kind == 2 := by
      have := iv_in 2 (es.map fun e => e.kind)
      rw [show V.int 2 = V.int ((2 : Nat) : Int) from rfl, this]
      cases e3 : es.any fun e => e.kind == 2 with
      | true =>
        obtain ⟨x, hx, hk⟩ := List.any_eq_true.mp e3
        exact decide_eq_true (List.mem_map.mpr ⟨x, hx, eq_of_beq hk⟩)
      | false =>
        refine decide_eq_false fun z => ?_
        obtain ⟨x, hx, hk⟩ := List.mem_map.mp z
        have := List.any_eq_false.mp e3 x hx
        simp [hk] at this
    have q2 := q _ s2
    rw [← e2] at q2
    exact q2
/-- a stream that is new beside the board -/
theorem ok_would (T : Txt K mg a) : FnOk P w K mg base CX0 8 a.f_Board_would a.fd_Board_would ["self", "keys"] (spB a (argRow .would)) := by
  refine T.F_Board_would.ok sc_Board_would (fun vs H Q E h => ?_) (fun cdv A outer s H vs Q E hr h => ⟨(d_Board_would T (ok_eventAnswer T) (ok_try T) (ok_streamInit T) (ok_KeysFit T) hr).1, (d_Board_would T (ok_eventAnswer T) (ok_try T) (ok_streamInit T) (ok_KeysFit T) hr).2, ?_⟩)
  · obtain ⟨_, _, _, _, _, rfl, _, _, ⟨_, _, rfl, _⟩, _⟩ := h
    rfl
  obtain ⟨F, B, g, c, as, rfl, ⟨sF, y, hB⟩, ok, ⟨p, l, rfl, rfl, hp⟩, q⟩ := h
  have hpH := sF _ _ hp
  have es : Ue09.step g (.would l) = (g, if Ue09.isKeys l = false ∨ 20 < l.length then [-1] else eventsRow (flushed (pressed (runOf g) l)).events) := rfl
  rw [es] at q
  -- if not keys_fit(keys, 0, MOST_KEYS_PRESSED)
  refine ⟨_, rfl, p, l, 0, 20, rfl, .inl (SqL.of hpH), _, rfl, ?_⟩
  cases ef : fits l 0 20 with
  | false =>
    have c1 : Ue09.isKeys l = false ∨ 20 < l.length := by
      unfold fits at ef
      by_cases c2 : l.length ≤ 20
      · rw [decide_eq_true (Nat.zero_le _), decide_eq_true c2] at ef
        exact .inl ef
      · exact .inr (by omega)
    rw [if_pos c1] at q
    refine iteT ?_
    exact ⟨(by show 1 ≤ sizeLine; decide), fun p2 hp2 => q _ p2 (BAt.grow ⟨sF, y, hB⟩ (same_new hp2)) (same_none sF hp2) upd_same⟩
  | true =>
    have hl : l.length ≤ 20 ∧ Ue09.isKeys l = true := by
      unfold fits at ef
      rw [Bool.and_eq_true, Bool.and_eq_true] at ef
      exact ⟨of_decide_eq_true ef.1.2, ef.2⟩
    rw [if_neg (by rintro (z | z)
                   · rw [hl.2] at z; cases z
                   · omega), try_eq ok.btw hl.1] at q
    refine iteF ?_
    obtain ⟨n, st, ms, hBG, hBH⟩ := hB.stream sF
    -- stream = self.stream
    refine ⟨_, rfl, B, a.C_Board, y.dx, _, _, rfl, hBH, T.c_Board, T.no_Board_stream, lk_Board_stream, ?_⟩
    refine ⟨_, rfl, B, a.C_Board, y.dx, _, _, rfl, hBH, T.c_Board, T.no_Board_maps, lk_Board_maps, _, rfl, y.S, a.C_KeyStream, y.x.dx, _, _, rfl, st.ob, T.c_KeyStream, T.no_KeyStream_in_use, lk_KeyStream_in_use,
      _, rfl, y.S, a.C_KeyStream, y.x.dx, _, _, rfl, st.ob, T.c_KeyStream, T.no_KeyStream_open_keys, lk_KeyStream_open_keys, _, rfl, y.S, a.C_KeyStream, y.x.dx, _, _, rfl, st.ob, T.c_KeyStream, T.no_KeyStream_digits, lk_KeyStream_digits, fun S dxS nS ndS neS => ?_⟩
    have k1 : Same H (upd (upd H dxS (.own S)) S (.ins a.C_KeyStream dxS [])) := fun b o e => by
      rw [upd_ne (ne_of_none e nS), upd_ne (ne_of_none e ndS)]; exact e
    have k2 : Same H (without (upd (upd H dxS (.own S)) S (.ins a.C_KeyStream dxS [])) [S]) := fun b o e => by
      rw [without_out (by simp [ne_of_none e nS])]; exact k1 _ _ e
    refine ⟨S, dxS, y.L, y.x.U, y.x.O, y.x.D, g.maps.use, g.open_, g.digits, rfl, upd_same, k1 _ _ st.u, k1 _ _ st.o, k1 _ _ st.d, fun H4 x hS => ⟨rfl, ?_⟩⟩
    have hS := hS g.maps.all
    have hS : SAt a (without (upd (upd H dxS (.own S)) S (.ins a.C_KeyStream dxS [])) [S]) H4 S y.L x (runOf g) := hS
    refine ⟨_, rfl, _, S, y.L, p, x, runOf g, y.ps, y.ds, l, rfl, hS, ms.same ((without_same).trans k2), ok.btw, k2 _ _ hpH, hl.1, fun H5 e ts s5 he ev hmany => ?_⟩
    refine ⟨e, ts, _, rfl, he, ev, hmany, fun H6 p6 s6 n6 h6 => ?_⟩
    have s56 := (k2.trans s5)
    exact q _ p6 (BAt.grow ⟨sF, y, hB⟩ (s56.trans s6)) (same_none (sF.trans s56) n6) h6
theorem ok_rings (T : Txt K mg a) : FnOk P w K mg base CX0 8 a.f_Board_rings a.fd_Board_rings ["self"] (spB a (arg0 .rings)) := by
  refine T.F_Board_rings.ok sc_Board_rings (fun vs H Q E h => ?_) (fun cdv A outer s H vs Q E hr h => ⟨(d_Board_rings T (ok_counted T) (ok_seqs T) (ok_cnt T) (ok_ring T) (ok_tryT T) (ok_streamInit T) hr).1, (d_Board_rings T (ok_counted T) (ok_seqs T) (ok_cnt T) (ok_ring T) (ok_tryT T) (ok_streamInit T) hr).2, ?_⟩)
  · obtain ⟨_, _, _, _, _, rfl, _, _, ⟨rfl, _⟩, _⟩ := h
    rfl
  obtain ⟨F, B, g, c, as, rfl, ⟨sF, y, hB⟩, ok, ⟨rfl, rfl⟩, q⟩ := h
  obtain ⟨n, st, ms, hBG, hBH⟩ := hB.stream sF
  have es : Ue09.step g .rings = (g, (((Ue09.table g.maps).filter fun x => hasRing g.maps x.2.seq).length : Int) :: Ue09.ints (((Ue09.table g.maps).filter fun x => hasRing g.maps x.2.seq).flatMap fun x => x.2.seq.length :: x.2.seq)) := rfl
  rw [es, rings_row, rings_len] at q
  have b0 : Btw (runN g.maps.all g.maps.use [] []) 0 := ⟨⟨ok.ok, Nat.zero_le _⟩, dig_nil, rfl, Nat.le_refl _⟩
  have hring : ∀ l : List Nat, l.length ≤ 20 → hasRing g.maps l = (tryA (runN g.maps.all g.maps.use [] []) l).events.any fun e => e.kind == 2 := fun l hl => by
    rw [← try_eq b0 hl]; rfl
  -- found = []
  refine ⟨(by show 0 ≤ sizeLine; decide), fun f hf => ?_⟩
  have s0 : Same H (upd H f (.lst [])) := same_new hf
  have st0 := st.grow s0
  -- for sequence in bound_sequences(self.stream.counting())
  refine ⟨_, rfl, B, a.C_Board, y.dx, _, _, rfl, s0 _ _ hBH, T.c_Board, T.no_Board_stream, lk_Board_stream, y.S, y.x.dx, _, rfl, st0.ob, nm_KeyStream_counting, _, y.S, y.L, y.x, _, y.ps, y.ds, rfl, st0, ms, ok.ok, fun H1 c s1 hc => ?_⟩
  have hc : CAt a (without H (own y.S y.x)) H1 c g.maps (cn g.maps) := hc
  refine ⟨_, c, g.maps, cn g.maps, rfl, st0.sub.trans s1, hc, ok.ok, cn_len ok.ok.use6, fun H2 r ts s2 nr hr2 hts h200 => ?_⟩
  have hlen4 : ∀ l ∈ seqs g.maps (cn g.maps), l.length ≤ 4 := fun l hl => by
    unfold seqs at hl
    obtain ⟨k, _, hx⟩ := List.mem_flatMap.mp hl
    obtain ⟨b, hb, rfl⟩ := List.mem_map.mp hx
    exact (seqOk_len (ok.ok.all k b (List.mem_filter.mp hb).1).seq).2
  generalize hX : seqs g.maps (cn g.maps) = X at *
  have hlts : ts.length = X.length := Paired.length hts
  have s02 := s0.trans (s1.trans s2)
  have hf2 : H2 f = some (.lst []) := s2 _ _ (s1 _ _ upd_same)
  have hrf : r ≠ f := (ne_of_none (s1 _ _ upd_same) nr).symm
  refine ⟨r, rfl, ⟨_, SqL.of hr2⟩, ?_⟩
  refine for_list (K := K) (a := r) (xs := ts.map V.ref) (fun i σ H' => (Same H H' ∧ H' r = some (.lst (ts.map V.ref)) ∧ Paired (SeqT H') ts X) ∧ ∃ (o : Option V) (tf : List Addr), σ = [some (.ref B), some (.ref f), o, none] ∧
      H' f = some (.lst (tf.map V.ref)) ∧ Paired (SeqT H') tf ((X.take i).filter fun s => hasRing g.maps s) ∧ tf.length ≤ i)
    ⟨⟨s02, hr2, hts⟩, none, [], rfl, hf2, .nil, Nat.zero_le _⟩ (fun i σ H' _ ⟨⟨_, z, _⟩, _⟩ => SqL.of z) ?_ ?_
  · rintro i v σ H3 hi ⟨⟨s3, hr3, hts3⟩, o, tf, rfl, hf3, htf, hlf⟩
    rw [List.getElem?_map] at hi
    obtain ⟨t, ht, rfl⟩ := Option.map_eq_some_iff.mp hi
    obtain ⟨sq, hsq, hE⟩ := Paired.getl hts3 ht
    have hil : i < X.length := (List.getElem?_eq_some_iff.mp hsq).1
    have hs4 := hlen4 sq (List.mem_of_getElem? hsq)
    have st3 := st.grow s3
    have hB3 := s3 _ _ hBH
    -- makes_ring(try_out(KeyStream(self.maps, self.stream.in_use, [], []), sequence))
    refine ⟨_, rfl, B, a.C_Board, y.dx, _, _, rfl, hB3, T.c_Board, T.no_Board_maps, lk_Board_maps, _, rfl, B, a.C_Board, y.dx, _, _, rfl, hB3, T.c_Board, T.no_Board_stream, lk_Board_stream, y.S, a.C_KeyStream, y.x.dx, _, _, rfl, st3.ob, T.c_KeyStream, T.no_KeyStream_in_use, lk_KeyStream_in_use,
      (by show 0 ≤ sizeLine; decide), fun q2 n2 => ⟨(by show 0 ≤ sizeLine; decide), fun q3 n3 => ?_⟩⟩
    have sa := same_new (H := H3) (o := .lst (iv [])) n2
    have sb := sa.trans (same_new (o := .lst (iv [])) n3)
    have v2 : (upd (upd H3 q2 (.lst (iv []))) q3 (.lst (iv []))) q2 = some (.lst (iv [])) := same_new n3 _ _ upd_same
    have v3 : (upd (upd H3 q2 (.lst (iv []))) q3 (.lst (iv []))) q3 = some (.lst (iv [])) := upd_same
    have hY : (upd (upd H3 q2 (.lst [])) q3 (.lst [])) = upd (upd H3 q2 (.lst (iv []))) q3 (.lst (iv [])) := rfl
    rw [hY]
    generalize (upd (upd H3 q2 (.lst (iv []))) q3 (.lst (iv []))) = H4 at *
    intro S dxS nS ndS neS
    have k1 : Same H4 (upd (upd H4 dxS (.own S)) S (.ins a.C_KeyStream dxS [])) := fun b o e => by
      rw [upd_ne (ne_of_none e nS), upd_ne (ne_of_none e ndS)]; exact e
    have k2 : Same H4 (without (upd (upd H4 dxS (.own S)) S (.ins a.C_KeyStream dxS [])) [S]) := fun b o e => by
      rw [without_out (by simp [ne_of_none e nS])]; exact k1 _ _ e
    refine ⟨S, dxS, y.L, y.x.U, q2, q3, g.maps.use, [], [], rfl, upd_same, k1 _ _ (sb _ _ st3.u), k1 _ _ v2, k1 _ _ v3, fun H5 x hS => ⟨rfl, ?_⟩⟩
    have hS := hS g.maps.all
    have sG : Same H3 (without (upd (upd H4 dxS (.own S)) S (.ins a.C_KeyStream dxS [])) [S]) := sb.trans k2
    refine ⟨_, rfl, _, S, y.L, t, x, runN g.maps.all g.maps.use [] [], y.ps, y.ds, sq, rfl, hS, ms.same ((without_same).trans (s3.trans sG)), b0, sG _ _ hE, by omega, fun H6 e te s6 he ev hmany => ?_⟩
    refine ⟨e, te, _, rfl, he, ev, hmany, fun H7 s7 => ⟨_, rfl, ?_⟩⟩
    rw [← hring sq (by omega)]
    have s37 : Same H3 H7 := sG.trans (s6.trans s7)
    have hf7 := s37 _ _ hf3
    cases er : hasRing g.maps sq with
    | true =>
      refine iteT ?_
      refine ⟨_, rfl, .inl ⟨rfl, _, SqL.of hf7⟩, _, rfl, f, _, _, rfl, rfl, hf7, (by rw [List.length_map]; exact Nat.lt_of_le_of_lt (show _ ≤ 200 by omega) (by decide)), ?_⟩
      have kE : EvKeep H7 (upd H7 f (.lst (tf.map V.ref ++ [V.ref t]))) := evk_upd hf7 (fun _ z => nomatch z)
      refine ⟨⟨same_out (s3.trans s37) hf, by rw [upd_ne hrf]; exact s37 _ _ hr3, seqT_keep kE (seqT_keep (same_evk s37) hts3)⟩, _, tf ++ [t], rfl, ?_, ?_, ?_⟩
      · rw [upd_same, List.map_append]; rfl
      · rw [take_at hsq, List.filter_append, List.filter_cons_of_pos (by exact er)]
        exact Paired.snoc (seqT_keep kE (seqT_keep (same_evk s37) htf)) (kE _ _ (s37 _ _ hE))
      · rw [List.length_append, List.length_singleton]; omega
    | false =>
      refine iteF ?_
      refine ⟨⟨s3.trans s37, s37 _ _ hr3, seqT_keep (same_evk s37) hts3⟩, _, tf, rfl, hf7, ?_, by omega⟩
      rw [take_at hsq, List.filter_append, List.filter_cons_of_neg (by rw [er]; decide), List.filter_nil, List.append_nil]
      exact seqT_keep (same_evk s37) htf
  · rintro σ H3 ⟨⟨s3, hr3, hts3⟩, o, tf, rfl, hf3, htf, hlf⟩
    rw [List.length_map, hlts, List.take_length] at htf
    rw [List.length_map, hlts] at hlf
    have hY4 : ∀ l ∈ X.filter fun s => hasRing g.maps s, l.length ≤ 4 := fun l hl => hlen4 l (List.mem_filter.mp hl).1
    generalize (X.filter fun s => hasRing g.maps s) = Y at *
    have hly : tf.length = Y.length := Paired.length htf
    -- answer = [len(found)]
    refine ⟨_, rfl, f, _, rfl, .inl (SqL.of hf3), (by show 1 ≤ sizeLine; decide), fun w' nw => ?_⟩
    rw [List.length_map, hly]
    have s4 := same_new (H := H3) (o := .lst [.int (Y.length : Int)]) nw
    have hwH : H w' = none := same_none s3 nw
    have hfw : f ≠ w' := ne_of_none hf3 nw
    refine ⟨_, rfl, f, rfl, ⟨_, SqL.of (s4 _ _ hf3)⟩, ?_⟩
    refine for_list (K := K) (a := f) (xs := tf.map V.ref) (fun i σ H' => (Same H H' ∧ H' f = some (.lst (tf.map V.ref)) ∧ Paired (SeqT H') tf Y) ∧ ∃ o1 : Option V, σ = [some (.ref B), some (.ref f), o1, some (.ref w')] ∧
        H' w' = some (.lst (iv (Y.length :: (Y.take i).flatMap fun s => s.length :: s))))
      ⟨⟨s3.trans s4, s4 _ _ hf3, seqT_keep (same_evk s4) htf⟩, _, rfl, upd_same⟩ (fun i σ H' _ ⟨⟨_, z, _⟩, _⟩ => SqL.of z) ?_ ?_
    · rintro i v σ H5 hi ⟨⟨s5, hf5, htf5⟩, o1, rfl, hw5⟩
      rw [List.getElem?_map] at hi
      obtain ⟨t, ht, rfl⟩ := Option.map_eq_some_iff.mp hi
      obtain ⟨sq, hsq, hE⟩ := Paired.getl htf5 ht
      have hil : i < Y.length := (List.getElem?_eq_some_iff.mp hsq).1
      have hs4 := hY4 sq (List.mem_of_getElem? hsq)
      have hrl := rows_len (f := fun (s : List Nat) => s.length :: s) (k := 5) (Y.take i) (fun z hz => by have := hY4 z (List.mem_of_mem_take hz); simp only [List.length_cons]; omega)
      rw [List.length_take] at hrl
      -- answer.extend(counted(sequence))
      refine ⟨_, rfl, .inl ⟨rfl, _, SqL.of hw5⟩, _, rfl, t, sq, rfl, .inr hE, by omega, fun H6 q6 s6 n6 e6 => ?_⟩
      refine ⟨w', q6, _, _, rfl, rfl, s6 _ _ hw5, e6, ?_, ?_⟩
      · rw [iv_len, iv_len]
        simp only [List.length_cons]
        exact Nat.le_trans (show _ ≤ 2000 by omega) (by decide)
      have kE : EvKeep H6 (upd H6 w' (.lst (iv (Y.length :: (Y.take i).flatMap fun s => s.length :: s) ++ iv (sq.length :: sq)))) := evk_upd (s6 _ _ hw5) (fun _ z => nomatch z)
      refine ⟨⟨same_out (s5.trans s6) hwH, by rw [upd_ne hfw]; exact s6 _ _ hf5, seqT_keep kE (seqT_keep (same_evk s6) htf5)⟩, _, rfl, ?_⟩
      rw [upd_same, rows_at _ hsq, ← iv_app]; rfl
    · rintro σ H5 ⟨⟨s5, hf5, htf5⟩, o1, rfl, hw5⟩
      rw [List.length_map, hly, List.take_length] at hw5
      refine ⟨_, rfl, q _ w' (BAt.grow ⟨sF, y, hB⟩ s5) (same_none sF hwH) ?_⟩
      rw [hw5, zv_cons]
end
end Km

namespace Km
open PySem PySem.Spec PyProof.Rows L2
open Ue09 (House Maps Map_ Binding mapAt setMap)

/-! ### a binding more -/
def spAdd (a : Ad) : Sp := fun vs H Q _ => ∃ (pm d p sq dx dx' : Addr) (v0 v1 w0 w1 w2 : V) (kvs : List (List L2.Key × V)) (s : Ue09.Keys), vs = [.ref pm, .ref p] ∧ H pm = some (.ins a.C_KeyMap dx (fl_KeyMap v0 v1 (.ref d))) ∧ H d = some (.dT kvs) ∧
  H p = some (.ins a.C_Binding dx' (fl_Binding w0 w1 w2 (.ref sq))) ∧ H sq = some (.tup (iv s)) ∧ kvs.length ≤ 20 ∧ Q .non (upd H d (.dT (dropK kvs (kOf s) ++ [(kOf s, .ref p)])))
/-- bind: the binding is new beside the board -/
def spBind (a : Ad) : Sp := fun vs H Q _ => ∃ (F H0 : Hp) (B p : Addr) (g : House) (n : Nat) (b : Ue09.Binding), vs = [.ref B, .int (n : Int), .ref p] ∧ BAt a F H0 B g ∧ Same H0 H ∧ OkG g ∧ BindAt a (minus H H0) p b ∧
  ∀ H' q, BAt a F H' B (Ue09.step g (.bind n b.now b.target b.seq)).1 → F q = none → H' q = some (.lst (zv (Ue09.step g (.bind n b.now b.target b.seq)).2)) → Q (.ref q) H'
theorem drop_none {kvs : List (List L2.Key × V)} {k : List L2.Key} (h : valV kvs k = none) : dropK kvs k = kvs := by
  induction kvs with
  | nil => rfl
  | cons p r ih =>
    by_cases e : p.1 = k
    · rw [valV_pos e] at h; cases h
    · rw [valV_neg e] at h
      have e1 : dropK (p :: r) k = p :: dropK r k := List.filter_cons_of_pos (by simp [e])
      rw [e1, ih h]
theorem val_drop (kvs : List (List L2.Key × V)) (k : List L2.Key) : valV (dropK kvs k) k = none := by
  induction kvs with
  | nil => rfl
  | cons p r ih =>
    by_cases e : p.1 = k
    · have e1 : dropK (p :: r) k = dropK r k := List.filter_cons_of_neg (by simp [e])
      rw [e1]; exact ih
    · have e1 : dropK (p :: r) k = p :: dropK r k := List.filter_cons_of_pos (by simp [e])
      rw [e1, valV_neg e]; exact ih
section
variable {P : Program} {w : World} {K : PySem.W.Frag} {mg : Str → Option Value} {base : Heap} {a : Ad}
theorem ok_add (T : Txt K mg a) : FnOk P w K mg base CX0 1 a.f_KeyMap_add_binding a.fd_KeyMap_add_binding ["self", "binding"] (spAdd a) := by
  refine T.F_KeyMap_add_binding.ok sc_KeyMap_add_binding (fun vs H Q E h => ?_) (fun cdv A outer s H vs Q E hr h => ⟨(d_KeyMap_add_binding T hr).1, (d_KeyMap_add_binding T hr).2, ?_⟩)
  · obtain ⟨_, _, _, _, _, _, _, _, _, _, _, _, _, rfl, _⟩ := h
    rfl
  obtain ⟨pm, d, p, sq, dx, dx', v0, v1, w0, w1, w2, kvs, s, rfl, hpm, hd, hp, hsq, h20, q⟩ := h
  have hsq' : H sq = some (.tup ((kOf s).map kV)) := by rw [kOf_kV]; exact hsq
  have ndp : p ≠ d := ne_of hp hd (fun z => nomatch z)
  have ndm : pm ≠ d := ne_of hpm hd (fun z => nomatch z)
  have nds : sq ≠ d := ne_of hsq hd (fun z => nomatch z)
  have hlen : (dropK kvs (kOf s)).length ≤ 20 := Nat.le_trans (dropK_le kvs _) h20
  -- self.bindings.pop(binding.sequence, None)
  refine ⟨_, rfl, pm, a.C_KeyMap, dx, _, _, rfl, hpm, T.c_KeyMap, T.no_KeyMap_bindings, lk_KeyMap_bindings, .inr (.inr (.inl ⟨rfl, .inr ⟨_, hd⟩⟩)), _, rfl, p, a.C_Binding, dx', _, _, rfl, hp, T.c_Binding, T.no_Binding_sequence, lk_Binding_sequence, ?_⟩
  refine ⟨d, kvs, kOf s, sq, .non, rfl, rfl, hd, hsq', fun v ev => ?_, fun ev => ?_⟩
  · -- self.bindings[binding.sequence] = binding
    have g1 : (upd H d (.dT (dropK kvs (kOf s)))) pm = some (.ins a.C_KeyMap dx (fl_KeyMap v0 v1 (.ref d))) := by rw [upd_ne ndm]; exact hpm
    have g2 : (upd H d (.dT (dropK kvs (kOf s)))) p = some (.ins a.C_Binding dx' (fl_Binding w0 w1 w2 (.ref sq))) := by rw [upd_ne ndp]; exact hp
    have g3 : (upd H d (.dT (dropK kvs (kOf s)))) sq = some (.tup ((kOf s).map kV)) := by rw [upd_ne nds]; exact hsq'
    refine ⟨_, rfl, _, rfl, pm, a.C_KeyMap, dx, _, _, rfl, g1, T.c_KeyMap, T.no_KeyMap_bindings, lk_KeyMap_bindings, _, rfl, p, a.C_Binding, dx', _, _, rfl, g2, T.c_Binding, T.no_Binding_sequence, lk_Binding_sequence, d, _, rfl, DPut.t upd_same g3 (Nat.lt_of_le_of_lt hlen (by decide)), ?_⟩
    rw [putK_new _ (val_drop kvs (kOf s)), upd_upd]
    exact q
  · refine ⟨_, rfl, _, rfl, pm, a.C_KeyMap, dx, _, _, rfl, hpm, T.c_KeyMap, T.no_KeyMap_bindings, lk_KeyMap_bindings, _, rfl, p, a.C_Binding, dx', _, _, rfl, hp, T.c_Binding, T.no_Binding_sequence, lk_Binding_sequence, d, _, rfl, DPut.t hd hsq' (Nat.lt_of_le_of_lt h20 (by decide)), ?_⟩
    rw [putK_new _ ev]
    rw [drop_none ev] at q
    exact q
theorem ok_bind (T : Txt K mg a) : FnOk P w K mg base CX0 4 a.f_Board_bind a.fd_Board_bind ["self", "number", "binding"] (spBind a) := by
  refine T.F_Board_bind.ok sc_Board_bind (fun vs H Q E h => ?_) (fun cdv A outer s H vs Q E hr h => ⟨(d_Board_bind T (ok_add T) (ok_BindFits T) hr).1, (d_Board_bind T (ok_add T) (ok_BindFits T) hr).2, ?_⟩)
  · obtain ⟨_, _, _, _, _, _, _, rfl, _⟩ := h
    rfl
  obtain ⟨F, H0, B, p, g, n, b, rfl, ⟨sF0, y, hB0⟩, s0, ok, hbd, q⟩ := h
  have sF := sF0.trans s0
  have hB := hB0.grow (minus_mono (F := F) s0)
  have hob := minus_same _ _ hB.ob
  obtain ⟨dx, dp, sq, b1, b2', b3⟩ := id hbd
  have hbH : BindAt a H p b := hbd.same minus_same
  -- if number >= MAP_COUNT
  refine ⟨_, rfl, _, _, rfl, rfl, _, rfl, ?_⟩
  refine ite2 (fun c1 => ?_) (fun c1 => ?_)
  · have c1 : 8 ≤ n := by have := of_decide_eq_true c1; omega
    refine ⟨(by show 1 ≤ sizeLine; decide), fun p2 hp2 => ?_⟩
    have e : Ue09.step g (.bind n b.now b.target b.seq) = (g, [-2]) := if_pos c1
    rw [e] at q
    exact q _ p2 (BAt.grow ⟨sF, y, hB⟩ (same_new hp2)) (same_none sF hp2) upd_same
  · have c1 : ¬ 8 ≤ n := fun z => c1 (decide_eq_true (by omega))
    -- if not binding_fits(binding)
    refine ⟨_, rfl, p, b, rfl, hbH, fun H1 s1 => ⟨_, rfl, ?_⟩⟩
    have sF1 := sF.trans s1
    have hB1 := hB.grow (minus_mono (F := F) s1)
    have es : Ue09.step g (.bind n b.now b.target b.seq) = (if (Ue09.seqOk b.seq && Ue09.targetOk b.target) = false then (g, [-1]) else
        if 20 ≤ ((mapAt g.maps n).bindings.filter fun x => x.seq != b.seq).length then (g, [-5]) else
          ({ g with maps := setMap g.maps n { mapAt g.maps n with bindings := ((mapAt g.maps n).bindings.filter fun x => x.seq != b.seq) ++ [⟨b.seq, b.now, b.target⟩] } }, Ue09.ints [((mapAt g.maps n).bindings.filter fun x => x.seq != b.seq).length + 1])) := if_neg c1
    rw [es] at q
    cases ef : (Ue09.seqOk b.seq && Ue09.targetOk b.target) with
    | false =>
      rw [if_pos ef] at q
      refine iteT ?_
      exact ⟨(by show 1 ≤ sizeLine; decide), fun p2 hp2 => q _ p2 (BAt.grow ⟨sF1, y, hB1⟩ (same_new hp2)) (same_none sF1 hp2) upd_same⟩
    | true =>
      rw [if_neg (by rw [ef]; decide)] at q
      refine iteF ?_
      have hn : n < g.maps.all.length := by rw [ok.ok.len]; omega
      obtain ⟨pm, d, e1, e2, hmap⟩ := hB1.ms.at_ hn
      obtain ⟨dxm, kvs, m1, m2, m3⟩ := id hmap
      have sW : Same (without (minus H1 F) (B :: own y.S y.x)) H1 := (without_same).trans minus_same
      have eL : (y.ps.map V.ref)[n]? = some (V.ref pm) := by rw [List.getElem?_map, e1]; rfl
      have hkl : kvs.length = (mapAt g.maps n).bindings.length := Paired.length m3
      have h20 := ok.ok.many n
      have hob1 := s1 _ _ hob
      have g1 : H1 p = some (.ins a.C_Binding dx (fl_Binding (b2 b.now) (.int (code b.target)) (.ref dp) (.ref sq))) := s1 _ _ (minus_same _ _ b1)
      have g3 : H1 sq = some (.tup (iv b.seq)) := s1 _ _ (minus_same _ _ b3)
      have g3' : H1 sq = some (.tup ((kOf b.seq).map kV)) := by rw [kOf_kV]; exact g3
      have hd1 : H1 d = some (.dT kvs) := sW _ _ m2
      have hm1 := sW _ _ m1
      -- key_map = self.maps[number]
      refine ⟨_, rfl, B, a.C_Board, y.dx, _, _, rfl, hob1, T.c_Board, T.no_Board_maps, lk_Board_maps, _, rfl, y.L, _, _, _, rfl, rfl, SqL.of (sW _ _ hB1.ms.l), atI_nat eL, ?_⟩
      obtain ⟨w1, w2⟩ := val_of (s := b.seq) m3
      -- the binding put
      have done_ : ¬ 20 ≤ ((mapAt g.maps n).bindings.filter fun x => x.seq != b.seq).length → ∀ p2, (upd H1 d (.dT (dropK kvs (kOf b.seq) ++ [(kOf b.seq, .ref p)]))) p2 = none →
          Q (.ref p2) (upd (upd H1 d (.dT (dropK kvs (kOf b.seq) ++ [(kOf b.seq, .ref p)]))) p2 (.lst [.int ((dropK kvs (kOf b.seq) ++ [(kOf b.seq, V.ref p)]).length : Int)])) := fun c2 p2 hp2 => by
        rw [if_neg c2] at q
        have el : (dropK kvs (kOf b.seq)).length = ((mapAt g.maps n).bindings.filter fun x => x.seq != b.seq).length := Paired.length (kvs_drop (s := b.seq) m3)
        have hwb : BindAt a (without (minus H1 F) (B :: own y.S y.x)) p b := by
          refine (hbd.same (minus_mono s1)).same fun z o e => ?_
          obtain ⟨z0, z1⟩ := minus_some e
          rw [without_out (fun hm => ?_), minus_get (same_none sF0 z0)]
          · exact z1
          · obtain ⟨k, hk⟩ := hB0.st
            rcases List.mem_cons.mp hm with e' | e'
            · rw [e', minus_same _ _ hB0.ob] at z0; cases z0
            · obtain ⟨u, hu⟩ := hk.own_some z e'
              rw [minus_same _ _ hu] at z0; cases z0
        have hk : Paired (KvAt a (upd (without (minus H1 F) (B :: own y.S y.x)) d (.dT (dropK kvs (kOf b.seq) ++ [(kOf b.seq, .ref p)])))) (dropK kvs (kOf b.seq) ++ [(kOf b.seq, .ref p)]) (((mapAt g.maps n).bindings.filter fun x => x.seq != b.seq) ++ [⟨b.seq, b.now, b.target⟩]) :=
          Paired.snoc (kvs_dict m2 (kvs_drop (s := b.seq) m3)) ⟨rfl, p, rfl, hwb.dict m2⟩
        have hfin := hB1.putDict sF1 hn e1 e2 hmap hk
        refine q _ p2 (hfin.grow (same_new hp2)) (same_none hfin.1 hp2) ?_
        rw [upd_same, List.length_append, List.length_singleton, el]; rfl
      have hk20 : kvs.length ≤ 20 := by rw [hkl]; exact h20
      have ndm : pm ≠ d := ne_of hm1 hd1 (fun z => nomatch z)
      -- if binding.sequence not in key_map.bindings
      refine ⟨_, rfl, p, a.C_Binding, dx, _, _, rfl, g1, T.c_Binding, T.no_Binding_sequence, lk_Binding_sequence, _, rfl, pm, a.C_KeyMap, dxm, _, _, rfl, hm1, T.c_KeyMap, T.no_KeyMap_bindings, lk_KeyMap_bindings, d, _, rfl, DGet.t hd1 g3', _, rfl, ?_⟩
      cases eh : (mapAt g.maps n).bindings.find? (fun x => x.seq == b.seq) with
      | none =>
        rw [w2 eh]
        refine iteT ?_
        have ef2 := filter_none eh
        -- len(key_map.bindings) >= MOST_BINDINGS
        refine ⟨_, rfl, pm, a.C_KeyMap, dxm, _, _, rfl, hm1, T.c_KeyMap, T.no_KeyMap_bindings, lk_KeyMap_bindings, d, _, rfl, hd1, _, _, rfl, rfl, _, rfl, ?_⟩
        refine ite2 (fun c3 => ?_) (fun c3 => ?_)
        · have c3 : 20 ≤ kvs.length := by have := of_decide_eq_true c3; omega
          rw [if_pos (by rw [ef2, ← hkl]; exact c3)] at q
          exact ⟨(by show 1 ≤ sizeLine; decide), fun p2 hp2 => q _ p2 (BAt.grow ⟨sF1, y, hB1⟩ (same_new hp2)) (same_none sF1 hp2) upd_same⟩
        · have c3 : ¬ 20 ≤ ((mapAt g.maps n).bindings.filter fun x => x.seq != b.seq).length := fun z => c3 (decide_eq_true (by rw [ef2, ← hkl] at z; omega))
          refine ⟨_, rfl, pm, dxm, _, rfl, hm1, nm_KeyMap_add_binding, _, rfl, pm, d, p, sq, dxm, dx, _, _, _, _, _, kvs, b.seq, rfl, hm1, hd1, g1, g3, hk20, ?_⟩
          refine ⟨_, rfl, pm, a.C_KeyMap, dxm, _, _, rfl, (by rw [upd_ne ndm]; exact hm1), T.c_KeyMap, T.no_KeyMap_bindings, lk_KeyMap_bindings, d, _, rfl, upd_same, (by show 1 ≤ sizeLine; decide), fun p2 hp2 => ?_⟩
          exact done_ c3 p2 hp2
      | some b' =>
        obtain ⟨o, eo, hb⟩ := w1 b' eh
        rw [eo]
        refine iteF ?_
        have c3 : ¬ 20 ≤ ((mapAt g.maps n).bindings.filter fun x => x.seq != b.seq).length := fun z => by have := filter_less eh; omega
        refine ⟨_, rfl, pm, dxm, _, rfl, hm1, nm_KeyMap_add_binding, _, rfl, pm, d, p, sq, dxm, dx, _, _, _, _, _, kvs, b.seq, rfl, hm1, hd1, g1, g3, hk20, ?_⟩
        refine ⟨_, rfl, pm, a.C_KeyMap, dxm, _, _, rfl, (by rw [upd_ne ndm]; exact hm1), T.c_KeyMap, T.no_KeyMap_bindings, lk_KeyMap_bindings, d, _, rfl, upd_same, (by show 1 ≤ sizeLine; decide), fun p2 hp2 => ?_⟩
        exact done_ c3 p2 hp2
end
end Km

namespace Km
open PySem PySem.Spec PyProof.Rows L2
open Ue09 (House)

/-! ### a call, read off the list and done on the board -/
def rdO (a : Ad) (dx N : Addr) (i : Nat) : HO := .ins a.C_Reader dx (fl_Reader (.ref N) (.int (i : Int)))
structure CS (a : Ad) (K : PySem.W.Frag) (F H : Hp) (B R dx N : Addr) (l : List Nat) (i : Nat) (g : House) : Prop where
  fr : F R = none
  sq : SqL K F N (iv l)
  bd : BAt a (upd F R (rdO a dx N i)) H B g
section
variable {a : Ad} {K : PySem.W.Frag} {F H H' : Hp} {B R dx N p : Addr} {l : List Nat} {i j : Nat} {g : House} {o : HO}
theorem CS.rd (h : CS a K F H B R dx N l i g) : RdAt a H R dx N i := h.bd.1 _ _ upd_same
theorem CS.subF (h : CS a K F H B R dx N l i g) : Same F H := fun b u e => h.bd.1 b u (by rw [upd_ne (ne_of_none e h.fr)]; exact e)
theorem CS.list (h : CS a K F H B R dx N l i g) : SqL K H N (iv l) := h.subF.seq h.sq
theorem CS.next (h : CS a K F H B R dx N l i g) (hr : RdAt a H' R dx N j) (s : Same (without H [R]) H') : CS a K F H' B R dx N l j g := by
  obtain ⟨sF, y, hB⟩ := h.bd
  have k : ∀ b u, H b = some u → b ≠ R → H' b = some u := fun b u e hb => s b u (by rw [without_out (by simp [hb])]; exact e)
  refine ⟨h.fr, h.sq, fun b u e => ?_, y, hB.grow fun b u e => ?_⟩
  · by_cases hb : b = R
    · rw [hb, upd_same] at e
      rw [hb, ← e]; exact hr
    · rw [upd_ne hb] at e
      exact k _ _ (h.subF _ _ e) hb
  · obtain ⟨e1, e2⟩ := minus_some e
    have hb : b ≠ R := fun z => by rw [z, upd_same] at e1; cases e1
    rw [minus_get (by rw [upd_ne hb] at e1 ⊢; exact e1)]
    exact k _ _ e2 hb
theorem CS.nextRow (h : CS a K F H B R dx N l i g) (hr : RdAt a H' R dx N j) (s : Same (without H [R]) H') (np : H p = none) (hp : H' p = some o) :
    (upd F R (rdO a dx N j)) p = none ∧ BAt a (upd (upd F R (rdO a dx N j)) p o) H' B g := by
  obtain ⟨sF, y, hB⟩ := h.bd
  have k : ∀ b u, H b = some u → b ≠ R → H' b = some u := fun b u e hb => s b u (by rw [without_out (by simp [hb])]; exact e)
  have pR : p ≠ R := (ne_of_none h.rd np).symm
  have pF : F p = none := same_none h.subF np
  refine ⟨by rw [upd_ne pR]; exact pF, fun b u e => ?_, y, hB.grow fun b u e => ?_⟩
  · by_cases hb : b = p
    · rw [hb, upd_same] at e; rw [hb, ← e]; exact hp
    · rw [upd_ne hb] at e
      by_cases hb2 : b = R
      · rw [hb2, upd_same] at e
        rw [hb2, ← e]; exact hr
      · rw [upd_ne hb2] at e
        exact k _ _ (h.subF _ _ e) hb2
  · obtain ⟨e1, e2⟩ := minus_some e
    have hb : b ≠ R := fun z => by rw [z, upd_same] at e1; cases e1
    have hb2 : b ≠ p := ne_of_none e2 np
    rw [minus_get (by rw [upd_ne hb] at e1; rw [upd_ne hb2, upd_ne hb]; exact e1)]
    exact k _ _ e2 hb
theorem BAt.more {G : Hp} (h : BAt a G H B g) (s : Same H H') (hp : H p = none) (ho : H' p = some o) : BAt a (upd G p o) H' B g := by
  obtain ⟨sF, y, hB⟩ := h
  refine ⟨fun b u e => ?_, y, hB.grow fun b u e => ?_⟩
  · by_cases hb : b = p
    · rw [hb, upd_same] at e; rw [hb, ← e]; exact ho
    · rw [upd_ne hb] at e; exact s _ _ (sF _ _ e)
  · obtain ⟨e1, e2⟩ := minus_some e
    have hb : b ≠ p := ne_of_none e2 hp
    rw [minus_get (by rw [upd_ne hb]; exact e1)]
    exact s _ _ e2
theorem BAt.less {G : Hp} (h : BAt a (upd G p o) H B g) (hp : G p = none) : BAt a G H B g := by
  obtain ⟨sF, y, hB⟩ := h
  refine ⟨fun b u e => sF b u (by rw [upd_ne (ne_of_none e hp)]; exact e), y, hB.grow fun b u e => ?_⟩
  obtain ⟨e1, e2⟩ := minus_some e
  have hb : b ≠ p := fun z => by rw [z, upd_same] at e1; cases e1
  rw [upd_ne hb] at e1
  rw [minus_get e1]; exact e2
end
theorem upd_none {F : Hp} {q p : Addr} {o : HO} (h : upd F q o p = none) : p ≠ q ∧ F p = none := by
  have n : p ≠ q := fun e => by rw [e, upd_same] at h; cases h
  rw [upd_ne n] at h
  exact ⟨n, h⟩
def spCall (a : Ad) (K : PySem.W.Frag) (c0 : Nat) : Sp := fun vs H Q _ => ∃ (F : Hp) (B R dx N : Addr) (l : List Nat) (i : Nat) (g : House) (c : Ue09.Call) (t : List Nat), vs = [.ref B, .ref R] ∧ CS a K F H B R dx N l i g ∧ OkG g ∧ i ≤ l.length ∧ Rd c0 (l.drop i) c t ∧
  ∀ H' p j, l.drop j = t → i ≤ j → j ≤ l.length → CS a K F H' B R dx N l j (Ue09.step g c).1 → F p = none → H' p = some (.lst (zv (Ue09.step g c).2)) → Q (.ref p) H'
theorem drop_lt {α : Type} {l : List α} {i : Nat} {x : α} {t : List α} (h : l.drop i = x :: t) : l[i]? = some x ∧ l.drop (i + 1) = t ∧ i < l.length := by
  have hi : i < l.length := by
    by_cases z : i < l.length
    · exact z
    · rw [List.drop_eq_nil_of_le (by omega)] at h; cases h
  rw [List.drop_eq_getElem_cons hi] at h
  injection h with h1 h2
  exact ⟨by rw [List.getElem?_eq_getElem hi, h1], h2, hi⟩
theorem drop_row {l : List Nat} {i : Nat} {row t : List Nat} (h : l.drop i = row.length :: (row ++ t)) : l[i]? = some row.length ∧ i + 1 + row.length ≤ l.length ∧ (l.drop (i + 1)).take row.length = row ∧ l.drop (i + 1 + row.length) = t := by
  obtain ⟨h1, h2, h3⟩ := drop_lt h
  have hl := congrArg List.length h2
  rw [List.length_drop, List.length_append] at hl
  refine ⟨h1, by omega, by rw [h2, List.take_left], ?_⟩
  rw [← List.drop_drop, h2, List.drop_left]
theorem bit_b2 {v : Nat} {b : Bool} (h : Ue09Neutral.bit v = some b) : V.int (v : Int) = b2 b := by
  unfold Ue09Neutral.bit at h
  split at h
  · cases h; rename_i e; subst e; rfl
  · split at h
    · cases h; rename_i e; subst e; rfl
    · cases h
section
variable {P : Program} {w : World} {K : PySem.W.Frag} {mg : Str → Option Value} {base : Heap} {a : Ad}
theorem ok_callMap (T : Txt K mg a) : FnOk P w K mg base CX0 4 a.f_call_map a.fd_call_map ["board", "reader"] (spCall a K 0) := by
  refine T.F_call_map.ok sc_call_map (fun vs H Q E h => ?_) (fun cdv A outer s H vs Q E hr h => ⟨(d_call_map T (ok_renew T) (ok_TakeNumber T) hr).1, (d_call_map T (ok_renew T) (ok_TakeNumber T) hr).2, ?_⟩)
  · obtain ⟨_, _, _, _, _, _, _, _, _, _, rfl, _⟩ := h
    rfl
  obtain ⟨F, B, R, dx, N, l, i, g, c, t, rfl, cs, ok, hil, ⟨n, v, b, hs, hb, rfl⟩, q⟩ := h
  obtain ⟨e1, e1', _⟩ := drop_lt hs
  obtain ⟨e2, e2', e2''⟩ := drop_lt e1'
  refine ⟨_, rfl, R, dx, _, rfl, cs.rd, nm_Reader_take_number, R, dx, N, l, i, n, rfl, cs.rd, cs.list, e1, fun H1 r1 s1 => ?_⟩
  have c1 := cs.next r1 s1
  refine ⟨_, rfl, R, dx, _, rfl, c1.rd, nm_Reader_take_number, R, dx, N, l, i + 1, v, rfl, c1.rd, c1.list, e2, fun H2 r2 s2 => ?_⟩
  have c2 := c1.next r2 s2
  rw [bit_b2 hb]
  obtain ⟨sF, y, hB⟩ := c2.bd
  refine ⟨_, rfl, B, y.dx, _, rfl, minus_same _ _ hB.ob, nm_Board_renew_map, _, rfl, _, rfl, _, B, g, .map_ n b, _, rfl, c2.bd, ok, ⟨n, b, rfl, rfl⟩, fun H3 p hB3 fp hp => ?_⟩
  exact q _ p (i + 1 + 1) e2' (by omega) (by omega) ⟨cs.fr, cs.sq, hB3⟩ (upd_none fp).2 hp
theorem ok_callWait (T : Txt K mg a) : FnOk P w K mg base CX0 2 a.f_call_wait a.fd_call_wait ["board", "reader"] (spCall a K 4) := by
  refine T.F_call_wait.ok sc_call_wait (fun vs H Q E h => ?_) (fun cdv A outer s H vs Q E hr h => ⟨(d_call_wait T (ok_wait T) (ok_TakeNumber T) hr).1, (d_call_wait T (ok_wait T) (ok_TakeNumber T) hr).2, ?_⟩)
  · obtain ⟨_, _, _, _, _, _, _, _, _, _, rfl, _⟩ := h
    rfl
  obtain ⟨F, B, R, dx, N, l, i, g, c, t, rfl, cs, ok, hil, ⟨n, hs, rfl⟩, q⟩ := h
  obtain ⟨e1, e1', e1''⟩ := drop_lt hs
  obtain ⟨sF0, y0, hB0⟩ := cs.bd
  refine ⟨_, rfl, B, y0.dx, _, rfl, minus_same _ _ hB0.ob, nm_Board_wait, _, rfl, R, dx, _, rfl, cs.rd, nm_Reader_take_number, R, dx, N, l, i, n, rfl, cs.rd, cs.list, e1, fun H1 r1 s1 => ?_⟩
  have c1 := cs.next r1 s1
  refine ⟨_, B, g, .wait n, _, rfl, c1.bd, ok, ⟨n, rfl, rfl⟩, fun H3 p hB3 fp hp => ?_⟩
  exact q _ p (i + 1) e1' (by omega) (by omega) ⟨cs.fr, cs.sq, hB3⟩ (upd_none fp).2 hp
theorem ok_callFlush (T : Txt K mg a) : FnOk P w K mg base CX0 8 a.f_call_flush a.fd_call_flush ["board", "reader"] (spCall a K 6) := by
  refine T.F_call_flush.ok sc_call_flush (fun vs H Q E h => ?_) (fun cdv A outer s H vs Q E hr h => ⟨(d_call_flush T (ok_flush T) hr).1, (d_call_flush T (ok_flush T) hr).2, ?_⟩)
  · obtain ⟨_, _, _, _, _, _, _, _, _, _, rfl, _⟩ := h
    rfl
  obtain ⟨F, B, R, dx, N, l, i, g, c, t, rfl, cs, ok, hil, ⟨hs, rfl⟩, q⟩ := h
  obtain ⟨sF0, y0, hB0⟩ := cs.bd
  refine ⟨_, rfl, B, y0.dx, _, rfl, minus_same _ _ hB0.ob, nm_Board_flush, _, B, g, .flush, _, rfl, cs.bd, ok, ⟨rfl, rfl⟩, fun H3 p hB3 fp hp => ?_⟩
  exact q _ p i hs (Nat.le_refl _) hil ⟨cs.fr, cs.sq, hB3⟩ (upd_none fp).2 hp
theorem ok_callUnbind (T : Txt K mg a) : FnOk P w K mg base CX0 2 a.f_call_unbind a.fd_call_unbind ["board", "reader"] (spCall a K 2) := by
  refine T.F_call_unbind.ok sc_call_unbind (fun vs H Q E h => ?_) (fun cdv A outer s H vs Q E hr h => ⟨(d_call_unbind T (ok_unbind T) (ok_TakeRow T) (ok_TakeNumber T) hr).1, (d_call_unbind T (ok_unbind T) (ok_TakeRow T) (ok_TakeNumber T) hr).2, ?_⟩)
  · obtain ⟨_, _, _, _, _, _, _, _, _, _, rfl, _⟩ := h
    rfl
  obtain ⟨F, B, R, dx, N, l, i, g, c, t, rfl, cs, ok, hil, ⟨n, row, hs, rfl⟩, q⟩ := h
  obtain ⟨e1, e1', _⟩ := drop_lt hs
  obtain ⟨e2, e3, e4, e5⟩ := drop_row e1'
  refine ⟨_, rfl, R, dx, _, rfl, cs.rd, nm_Reader_take_number, R, dx, N, l, i, n, rfl, cs.rd, cs.list, e1, fun H1 r1 s1 => ?_⟩
  have c1 := cs.next r1 s1
  obtain ⟨sF1, y1, hB1⟩ := c1.bd
  refine ⟨_, rfl, B, y1.dx, _, rfl, minus_same _ _ hB1.ob, nm_Board_unbind, _, rfl, _, rfl, R, dx, _, rfl, c1.rd, nm_Reader_take_row, R, dx, N, l, i + 1, row.length, rfl, c1.rd, c1.list, e2, e3, fun H2 p2 r2 s2 n2 hp2 => ?_⟩
  rw [e4] at hp2
  obtain ⟨f2, b2'⟩ := c1.nextRow r2 s2 n2 hp2
  refine ⟨_, B, g, .unbind n row, _, rfl, b2', ok, ⟨n, p2, row, rfl, rfl, SqL.of upd_same⟩, fun H3 p hB3 fp hp => ?_⟩
  exact q _ p (i + 1 + 1 + row.length) e5 (by omega) e3 ⟨cs.fr, cs.sq, hB3.less f2⟩ (upd_none (upd_none fp).2).2 hp
theorem ok_callUse (T : Txt K mg a) : FnOk P w K mg base CX0 3 a.f_call_use a.fd_call_use ["board", "reader"] (spCall a K 3) := by
  refine T.F_call_use.ok sc_call_use (fun vs H Q E h => ?_) (fun cdv A outer s H vs Q E hr h => ⟨(d_call_use T (ok_use T) (ok_TakeRow T) hr).1, (d_call_use T (ok_use T) (ok_TakeRow T) hr).2, ?_⟩)
  · obtain ⟨_, _, _, _, _, _, _, _, _, _, rfl, _⟩ := h
    rfl
  obtain ⟨F, B, R, dx, N, l, i, g, c, t, rfl, cs, ok, hil, ⟨row, hs, rfl⟩, q⟩ := h
  obtain ⟨e2, e3, e4, e5⟩ := drop_row hs
  obtain ⟨sF1, y1, hB1⟩ := cs.bd
  refine ⟨_, rfl, B, y1.dx, _, rfl, minus_same _ _ hB1.ob, nm_Board_use, _, rfl, R, dx, _, rfl, cs.rd, nm_Reader_take_row, R, dx, N, l, i, row.length, rfl, cs.rd, cs.list, e2, e3, fun H2 p2 r2 s2 n2 hp2 => ?_⟩
  rw [e4] at hp2
  obtain ⟨f2, b2'⟩ := cs.nextRow r2 s2 n2 hp2
  refine ⟨_, B, g, .use row, _, rfl, b2', ok, ⟨p2, row, rfl, rfl, SqL.of upd_same⟩, fun H3 p hB3 fp hp => ?_⟩
  exact q _ p (i + 1 + row.length) e5 (by omega) e3 ⟨cs.fr, cs.sq, hB3.less f2⟩ (upd_none (upd_none fp).2).2 hp
theorem ok_callPress (T : Txt K mg a) : FnOk P w K mg base CX0 8 a.f_call_press a.fd_call_press ["board", "reader"] (spCall a K 5) := by
  refine T.F_call_press.ok sc_call_press (fun vs H Q E h => ?_) (fun cdv A outer s H vs Q E hr h => ⟨(d_call_press T (ok_pressB T) (ok_TakeRow T) (ok_TakeNumber T) hr).1, (d_call_press T (ok_pressB T) (ok_TakeRow T) (ok_TakeNumber T) hr).2, ?_⟩)
  · obtain ⟨_, _, _, _, _, _, _, _, _, _, rfl, _⟩ := h
    rfl
  obtain ⟨F, B, R, dx, N, l, i, g, c, t, rfl, cs, ok, hil, ⟨n, row, hs, rfl⟩, q⟩ := h
  obtain ⟨e1, e1', _⟩ := drop_lt hs
  obtain ⟨e2, e3, e4, e5⟩ := drop_row e1'
  refine ⟨_, rfl, R, dx, _, rfl, cs.rd, nm_Reader_take_number, R, dx, N, l, i, n, rfl, cs.rd, cs.list, e1, fun H1 r1 s1 => ?_⟩
  have c1 := cs.next r1 s1
  obtain ⟨sF1, y1, hB1⟩ := c1.bd
  refine ⟨_, rfl, B, y1.dx, _, rfl, minus_same _ _ hB1.ob, nm_Board_press, _, rfl, _, rfl, R, dx, _, rfl, c1.rd, nm_Reader_take_row, R, dx, N, l, i + 1, row.length, rfl, c1.rd, c1.list, e2, e3, fun H2 p2 r2 s2 n2 hp2 => ?_⟩
  rw [e4] at hp2
  obtain ⟨f2, b2'⟩ := c1.nextRow r2 s2 n2 hp2
  refine ⟨_, B, g, .press n row, _, rfl, b2', ok, ⟨n, p2, row, rfl, rfl, SqL.of upd_same⟩, fun H3 p hB3 fp hp => ?_⟩
  exact q _ p (i + 1 + 1 + row.length) e5 (by omega) e3 ⟨cs.fr, cs.sq, hB3.less f2⟩ (upd_none (upd_none fp).2).2 hp
theorem ok_callBind (T : Txt K mg a) : FnOk P w K mg base CX0 5 a.f_call_bind a.fd_call_bind ["board", "reader"] (spCall a K 1) := by
  refine T.F_call_bind.ok sc_call_bind (fun vs H Q E h => ?_) (fun cdv A outer s H vs Q E hr h => ⟨(d_call_bind T (ok_bind T) (ok_ReadBinding T) (ok_TakeRow T) (ok_TakeNumber T) hr).1, (d_call_bind T (ok_bind T) (ok_ReadBinding T) (ok_TakeRow T) (ok_TakeNumber T) hr).2, ?_⟩)
  · obtain ⟨_, _, _, _, _, _, _, _, _, _, rfl, _⟩ := h
    rfl
  obtain ⟨F, B, R, dx, N, l, i, g, c, t, rfl, cs, ok, hil, ⟨n, v, b, row, tg, sq, hs, hb, htg, rfl⟩, q⟩ := h
  obtain ⟨e1, e1', _⟩ := drop_lt hs
  obtain ⟨e2, e2', _⟩ := drop_lt e1'
  obtain ⟨e3, e4, e5, e6⟩ := drop_row e2'
  refine ⟨_, rfl, R, dx, _, rfl, cs.rd, nm_Reader_take_number, R, dx, N, l, i, n, rfl, cs.rd, cs.list, e1, fun H1 r1 s1 => ?_⟩
  have c1 := cs.next r1 s1
  refine ⟨_, rfl, R, dx, _, rfl, c1.rd, nm_Reader_take_number, R, dx, N, l, i + 1, v, rfl, c1.rd, c1.list, e2, fun H2 r2 s2 => ?_⟩
  have c2 := c1.next r2 s2
  rw [bit_b2 hb]
  obtain ⟨sF1, y1, hB1⟩ := c2.bd
  refine ⟨_, rfl, B, y1.dx, _, rfl, minus_same _ _ hB1.ob, nm_Board_bind, _, rfl, _, rfl, _, rfl, R, dx, _, rfl, c2.rd, nm_Reader_take_row, R, dx, N, l, i + 1 + 1, row.length, rfl, c2.rd, c2.list, e3, e4, fun H3 p3 r3 s3 n3 hp3 => ?_⟩
  rw [e5] at hp3
  have c3 := c2.next r3 s3
  refine ⟨p3, row, b, tg, sq, rfl, SqL.of hp3, htg, fun H4 p4 s4 hB4 => ?_⟩
  refine ⟨_, H3, B, p4, g, n, ⟨sq, b, tg⟩, rfl, c3.bd, s4, ok, hB4, fun H5 p5 hB5 fp5 hp5 => ?_⟩
  exact q _ p5 (i + 1 + 1 + 1 + row.length) e6 (by omega) e4 ⟨cs.fr, cs.sq, hB5⟩ (upd_none fp5).2 hp5
theorem ok_callOpen (T : Txt K mg a) : FnOk P w K mg base CX0 3 a.f_call_open a.fd_call_open ["board", "reader"] (spCall a K 7) := by
  refine T.F_call_open.ok sc_call_open (fun vs H Q E h => ?_) (fun cdv A outer s H vs Q E hr h => ⟨(d_call_open T (ok_tellOpen T) hr).1, (d_call_open T (ok_tellOpen T) hr).2, ?_⟩)
  · obtain ⟨_, _, _, _, _, _, _, _, _, _, rfl, _⟩ := h
    rfl
  obtain ⟨F, B, R, dx, N, l, i, g, c, t, rfl, cs, ok, hil, ⟨hs, rfl⟩, q⟩ := h
  obtain ⟨sF0, y0, hB0⟩ := cs.bd
  refine ⟨_, rfl, B, y0.dx, _, rfl, minus_same _ _ hB0.ob, nm_Board_tell_open, _, B, g, .open_, _, rfl, cs.bd, ok, ⟨rfl, rfl⟩, fun H3 p hB3 fp hp => ?_⟩
  exact q _ p i hs (Nat.le_refl _) hil ⟨cs.fr, cs.sq, hB3⟩ (upd_none fp).2 hp
theorem ok_callLookup (T : Txt K mg a) : FnOk P w K mg base CX0 5 a.f_call_lookup a.fd_call_lookup ["board", "reader"] (spCall a K 8) := by
  refine T.F_call_lookup.ok sc_call_lookup (fun vs H Q E h => ?_) (fun cdv A outer s H vs Q E hr h => ⟨(d_call_lookup T (ok_lookup T) (ok_TakeRow T) hr).1, (d_call_lookup T (ok_lookup T) (ok_TakeRow T) hr).2, ?_⟩)
  · obtain ⟨_, _, _, _, _, _, _, _, _, _, rfl, _⟩ := h
    rfl
  obtain ⟨F, B, R, dx, N, l, i, g, c, t, rfl, cs, ok, hil, ⟨row, hs, rfl⟩, q⟩ := h
  obtain ⟨e2, e3, e4, e5⟩ := drop_row hs
  obtain ⟨sF1, y1, hB1⟩ := cs.bd
  refine ⟨_, rfl, B, y1.dx, _, rfl, minus_same _ _ hB1.ob, nm_Board_lookup, _, rfl, R, dx, _, rfl, cs.rd, nm_Reader_take_row, R, dx, N, l, i, row.length, rfl, cs.rd, cs.list, e2, e3, fun H2 p2 r2 s2 n2 hp2 => ?_⟩
  rw [e4] at hp2
  obtain ⟨f2, b2'⟩ := cs.nextRow r2 s2 n2 hp2
  refine ⟨_, B, g, .lookup row, _, rfl, b2', ok, ⟨p2, row, rfl, rfl, upd_same⟩, fun H3 p hB3 fp hp => ?_⟩
  exact q _ p (i + 1 + row.length) e5 (by omega) e3 ⟨cs.fr, cs.sq, hB3.less f2⟩ (upd_none (upd_none fp).2).2 hp
theorem ok_callHints (T : Txt K mg a) : FnOk P w K mg base CX0 5 a.f_call_hints a.fd_call_hints ["board", "reader"] (spCall a K 9) := by
  refine T.F_call_hints.ok sc_call_hints (fun vs H Q E h => ?_) (fun cdv A outer s H vs Q E hr h => ⟨(d_call_hints T (ok_hints T) (ok_TakeRow T) hr).1, (d_call_hints T (ok_hints T) (ok_TakeRow T) hr).2, ?_⟩)
  · obtain ⟨_, _, _, _, _, _, _, _, _, _, rfl, _⟩ := h
    rfl
  obtain ⟨F, B, R, dx, N, l, i, g, c, t, rfl, cs, ok, hil, ⟨row, hs, rfl⟩, q⟩ := h
  obtain ⟨e2, e3, e4, e5⟩ := drop_row hs
  obtain ⟨sF1, y1, hB1⟩ := cs.bd
  refine ⟨_, rfl, B, y1.dx, _, rfl, minus_same _ _ hB1.ob, nm_Board_hints, _, rfl, R, dx, _, rfl, cs.rd, nm_Reader_take_row, R, dx, N, l, i, row.length, rfl, cs.rd, cs.list, e2, e3, fun H2 p2 r2 s2 n2 hp2 => ?_⟩
  rw [e4] at hp2
  obtain ⟨f2, b2'⟩ := cs.nextRow r2 s2 n2 hp2
  refine ⟨_, B, g, .hints row, _, rfl, b2', ok, ⟨p2, row, rfl, rfl, upd_same⟩, fun H3 p hB3 fp hp => ?_⟩
  exact q _ p (i + 1 + row.length) e5 (by omega) e3 ⟨cs.fr, cs.sq, hB3.less f2⟩ (upd_none (upd_none fp).2).2 hp
theorem ok_callHidden (T : Txt K mg a) : FnOk P w K mg base CX0 7 a.f_call_hidden a.fd_call_hidden ["board", "reader"] (spCall a K 10) := by
  refine T.F_call_hidden.ok sc_call_hidden (fun vs H Q E h => ?_) (fun cdv A outer s H vs Q E hr h => ⟨(d_call_hidden T (ok_hidden T) hr).1, (d_call_hidden T (ok_hidden T) hr).2, ?_⟩)
  · obtain ⟨_, _, _, _, _, _, _, _, _, _, rfl, _⟩ := h
    rfl
  obtain ⟨F, B, R, dx, N, l, i, g, c, t, rfl, cs, ok, hil, ⟨hs, rfl⟩, q⟩ := h
  obtain ⟨sF0, y0, hB0⟩ := cs.bd
  refine ⟨_, rfl, B, y0.dx, _, rfl, minus_same _ _ hB0.ob, nm_Board_hidden, _, B, g, .hidden, _, rfl, cs.bd, ok, ⟨rfl, rfl⟩, fun H3 p hB3 fp hp => ?_⟩
  exact q _ p i hs (Nat.le_refl _) hil ⟨cs.fr, cs.sq, hB3⟩ (upd_none fp).2 hp
theorem ok_callWould (T : Txt K mg a) : FnOk P w K mg base CX0 9 a.f_call_would a.fd_call_would ["board", "reader"] (spCall a K 11) := by
  refine T.F_call_would.ok sc_call_would (fun vs H Q E h => ?_) (fun cdv A outer s H vs Q E hr h => ⟨(d_call_would T (ok_would T) (ok_TakeRow T) hr).1, (d_call_would T (ok_would T) (ok_TakeRow T) hr).2, ?_⟩)
  · obtain ⟨_, _, _, _, _, _, _, _, _, _, rfl, _⟩ := h
    rfl
  obtain ⟨F, B, R, dx, N, l, i, g, c, t, rfl, cs, ok, hil, ⟨row, hs, rfl⟩, q⟩ := h
  obtain ⟨e2, e3, e4, e5⟩ := drop_row hs
  obtain ⟨sF1, y1, hB1⟩ := cs.bd
  refine ⟨_, rfl, B, y1.dx, _, rfl, minus_same _ _ hB1.ob, nm_Board_would, _, rfl, R, dx, _, rfl, cs.rd, nm_Reader_take_row, R, dx, N, l, i, row.length, rfl, cs.rd, cs.list, e2, e3, fun H2 p2 r2 s2 n2 hp2 => ?_⟩
  rw [e4] at hp2
  obtain ⟨f2, b2'⟩ := cs.nextRow r2 s2 n2 hp2
  refine ⟨_, B, g, .would row, _, rfl, b2', ok, ⟨p2, row, rfl, rfl, upd_same⟩, fun H3 p hB3 fp hp => ?_⟩
  exact q _ p (i + 1 + row.length) e5 (by omega) e3 ⟨cs.fr, cs.sq, hB3.less f2⟩ (upd_none (upd_none fp).2).2 hp
theorem ok_callRings (T : Txt K mg a) : FnOk P w K mg base CX0 9 a.f_call_rings a.fd_call_rings ["board", "reader"] (spCall a K 12) := by
  refine T.F_call_rings.ok sc_call_rings (fun vs H Q E h => ?_) (fun cdv A outer s H vs Q E hr h => ⟨(d_call_rings T (ok_rings T) hr).1, (d_call_rings T (ok_rings T) hr).2, ?_⟩)
  · obtain ⟨_, _, _, _, _, _, _, _, _, _, rfl, _⟩ := h
    rfl
  obtain ⟨F, B, R, dx, N, l, i, g, c, t, rfl, cs, ok, hil, ⟨hs, rfl⟩, q⟩ := h
  obtain ⟨sF0, y0, hB0⟩ := cs.bd
  refine ⟨_, rfl, B, y0.dx, _, rfl, minus_same _ _ hB0.ob, nm_Board_rings, _, B, g, .rings, _, rfl, cs.bd, ok, ⟨rfl, rfl⟩, fun H3 p hB3 fp hp => ?_⟩
  exact q _ p i hs (Nat.le_refl _) hil ⟨cs.fr, cs.sq, hB3⟩ (upd_none fp).2 hp
end
end Km

namespace Km
open PySem PySem.Spec PyProof.Rows L2
open Ue09 (House)

/-! ### all calls, one after another -/
def spAns (K : PySem.W.Frag) : Sp := fun vs H Q _ => ∃ (N : Addr) (ns : List Int), vs = [.ref N] ∧ SqL K H N (ns.map V.int) ∧ InR ns ∧ PyUe09.answers_asked ns = true ∧
  ∀ (H' : Hp) (p : Addr), H' p = some (.lst ((PyUe09.answers ns).map V.int)) → Q (.ref p) H'
/-- the table's defs: each keeps the promise of its place -/
structure CallOk (P : Program) (w : World) (K : PySem.W.Frag) (mg : Str → Option Value) (base : Heap) (a : Ad) (k c0 : Nat) (f : Addr) : Prop where
  ex : ∃ fd : FuncData, (∃ oc od osl, K.lookup f = some ⟨oc, od, .func fd, osl⟩) ∧ FnOk P w K mg base CX0 k f fd ["board", "reader"] (spCall a K c0) ∧ PySem.W.keepIn K (.ref f) = true ∧ Binds K fd ["board", "reader"] []
theorem callOk {P : Program} {w : World} {K : PySem.W.Frag} {mg : Str → Option Value} {base : Heap} {a : Ad} {j k c0 : Nat} {x q : Str} {st : Stmt} {f : Addr} {fd : FuncData} (F : Fun K x q st f fd) (G : FnOk P w K mg base CX0 j f fd ["board", "reader"] (spCall a K c0)) (b : Binds K fd ["board", "reader"] []) (h : j ≤ k) : CallOk P w K mg base a k c0 f := by
  obtain ⟨oc, od, kV, doc, pm, an, cdv, ct, osl, e, l, _⟩ := F.ex
  exact ⟨fd, ⟨oc, od, osl, l⟩, G.mono h, F.kp, b⟩
/-- the promise that goes with an address of the table -/
def spAt (a : Ad) (K : PySem.W.Frag) (tbl : List Addr) (f : Addr) : Sp := fun vs H Q E => ∃ c0, tbl[c0]? = some f ∧ spCall a K c0 vs H Q E
open Classical in
noncomputable def sTbl (a : Ad) (K : PySem.W.Frag) (tbl : List Addr) : Addr → Option Sp := fun f => if f ∈ tbl then some (spAt a K tbl f) else none
theorem held {P : Program} {w : World} {K : PySem.W.Frag} {mg : Str → Option Value} {base : Heap} {a : Ad} {k : Nat} {tbl : List Addr} (h : ∀ c0 f, tbl[c0]? = some f → CallOk P w K mg base a k c0 f) :
    ∀ f sp, sTbl a K tbl f = some sp → Held P w K mg base k f sp := by
  intro f sp e
  unfold sTbl at e
  split at e
  · rename_i hf
    cases e
    obtain ⟨c1, h1, e1⟩ := List.getElem_of_mem hf
    obtain ⟨fd, ⟨oc, od, osl, l⟩, _, kp, b⟩ := (h c1 f (by rw [List.getElem?_eq_getElem h1, e1])).ex
    refine ⟨fd, ["board", "reader"], ⟨fun vs H Q E ⟨c0, _, z⟩ => ?_, fun A outer s H args us vs Q E hr e0 bt vl ⟨c0, hc, z⟩ => ?_⟩, kp, b⟩
    · obtain ⟨_, _, _, _, _, _, _, _, _, _, rfl, _⟩ := z
      rfl
    · obtain ⟨fd', ⟨oc', od', osl', l'⟩, G, _, _⟩ := (h c0 f hc).ex
      rw [l] at l'
      have ed : fd = fd' := by
        injection l' with l'
        injection l' with _ _ l' _
        injection l'
      subst ed
      exact G.run A outer s H args us vs Q E hr e0 bt vl z
  · cases e
theorem BAt.sub {a : Ad} {F F' H : Hp} {B : Addr} {g : House} (h : BAt a F H B g) (s : Same F' F) : BAt a F' H B g := by
  obtain ⟨sF, y, hB⟩ := h
  refine ⟨s.trans sF, y, hB.grow fun b o e => ?_⟩
  obtain ⟨e1, e2⟩ := minus_some e
  rw [minus_get (same_none s e1)]; exact e2
theorem upd_swap {H : Hp} {p q : Addr} {o u : HO} (h : p ≠ q) : upd (upd H p o) q u = upd (upd H q u) p o := by
  funext b
  by_cases h1 : b = q
  · subst h1; rw [upd_same, upd_ne (Ne.symm h), upd_same]
  · by_cases h2 : b = p
    · subst h2; rw [upd_ne h1, upd_same, upd_same]
    · rw [upd_ne h1, upd_ne h2, upd_ne h2, upd_ne h1]
/-- told grows: the frame holds it -/
theorem CS.told {a : Ad} {K : PySem.W.Frag} {F0 H : Hp} {B R dx N W : Addr} {l : List Nat} {i : Nat} {g : House} {o u : HO} (h : CS a K (upd F0 W o) H B R dx N l i g) (w0 : F0 W = none) (sq : SqL K F0 N (iv l)) : CS a K (upd F0 W u) (upd H W u) B R dx N l i g := by
  have hWR : W ≠ R := fun e => by have := h.fr; rw [← e, upd_same] at this; cases this
  have hR : F0 R = none := (upd_none h.fr).2
  obtain ⟨sF, y, hB⟩ := h.bd
  refine ⟨by rw [upd_ne hWR.symm]; exact hR, (same_new w0).seq sq, fun b v e => ?_, y, hB.grow fun b v e => ?_⟩
  · by_cases hb : b = R
    · rw [hb, upd_same] at e
      rw [hb, upd_ne hWR.symm, ← e]
      exact sF _ _ upd_same
    · rw [upd_ne hb] at e
      by_cases hb2 : b = W
      · rw [hb2, upd_same] at e; rw [hb2, upd_same]; exact e
      · rw [upd_ne hb2] at e; rw [upd_ne hb2]
        exact sF _ _ (by rw [upd_ne hb, upd_ne hb2]; exact e)
  · obtain ⟨e1, e2⟩ := minus_some e
    obtain ⟨n1, e1⟩ := upd_none e1
    obtain ⟨n2, e1⟩ := upd_none e1
    rw [minus_get (by rw [upd_ne n1, upd_ne n2]; exact e1), upd_ne n2]; exact e2
section
variable {P : Program} {w : World} {K : PySem.W.Frag} {mg : Str → Option Value} {base : Heap} {a : Ad}
theorem ok_answers0 (T : Txt K mg a) {tbl : List Addr} (ht : ∀ H, SqT K H a.A_CALLS (tbl.map V.ref)) (h13 : ∀ c0 s c t, Rd c0 s c t → c0 < tbl.length) (A_calls : ∀ f sp, sTbl a K tbl f = some sp → Held P w K mg base 9 f sp) :
    FnOk P w K mg base CX0 10 a.f_answers a.fd_answers ["calls"] (spAns K) := by
  refine T.F_answers.ok sc_answers (fun vs H Q E h => ?_) (fun cdv A outer s H vs Q E hr h => ⟨(d_answers T (ok_HasMore T) (ok_TakeNumber T) (ok_boardInit T) (ok_ReaderInit T) A_calls hr).1, (d_answers T (ok_HasMore T) (ok_TakeNumber T) (ok_boardInit T) (ok_ReaderInit T) A_calls hr).2, ?_⟩)
  · obtain ⟨_, _, rfl, _⟩ := h
    rfl
  obtain ⟨N, ns, rfl, hS, hR, hask, q⟩ := h
  obtain ⟨todo, hlen⟩ := asked_todo hR hask
  have el : ns.map V.int = iv (ns.map Int.toNat) := by
    simp only [iv, List.map_map]
    refine List.map_congr_left fun x hx => ?_
    have := (hR x hx).1
    show V.int x = V.int ((x.toNat : Nat) : Int)
    rw [Int.toNat_of_nonneg this]
  rw [el] at hS
  generalize ns.map Int.toNat = l at todo hS
  -- reader = Reader(calls)
  refine ⟨_, rfl, fun R dxr nR ndR neR => ?_⟩
  refine ⟨R, dxr, _, rfl, upd_same, fun H1 h1 kp1 => ⟨rfl, ?_⟩⟩
  have s1 : Same H H1 := made_same nR ndR kp1
  -- board = Board()
  intro B dxb nB ndB neB
  refine ⟨B, dxb, rfl, upd_same, fun H2 hB2 => ⟨rfl, ?_⟩⟩
  have hRB : R ≠ B := ne_of_none h1 nB
  have b0 : BAt a (upd H R (rdO a dxr N 0)) H2 B Ue09.init := by
    refine hB2.sub fun b o e => ?_
    have e1 : H1 b = some o := by
      by_cases hb : b = R
      · rw [hb, upd_same] at e; rw [hb, ← e]; exact h1
      · rw [upd_ne hb] at e; exact s1 _ _ e
    have hb : b ≠ B := ne_of_none e1 nB
    rw [without_out (by simp [hb]), upd_ne hb, upd_ne (ne_of_none e1 ndB)]; exact e1
  -- told = []
  refine ⟨(by show 0 ≤ sizeLine; decide), fun W nW => ?_⟩
  have hWR : W ≠ R := (ne_of_none (b0.1 _ _ upd_same) nW).symm
  have nWH : H W = none := (upd_none (same_none b0.1 nW)).2
  have b1 : BAt a (upd (upd H R (rdO a dxr N 0)) W (.lst (zv []))) (upd H2 W (.lst (zv []))) B Ue09.init := b0.more (same_new nW) nW upd_same
  rw [upd_swap hWR.symm] at b1
  have cs0 : CS a K (upd H W (.lst (zv []))) (upd H2 W (.lst (zv []))) B R dxr N l 0 Ue09.init := ⟨by rw [upd_ne hWR.symm]; exact nR, (same_new nWH).seq hS, b1⟩
  have hb0 : (upd H2 W (.lst (zv []))) = upd H2 W (.lst []) := rfl
  rw [← hb0]
  generalize hA : PyUe09.answers ns = total at *
  refine ⟨fun m σ H' => ∃ (i : Nat) (g : House) (T' A' : List Int) (o1 o2 : Option V), m = l.length - i ∧ i ≤ l.length ∧ σ = [some (.ref N), some (.ref R), some (.ref B), some (.ref W), o1, o2] ∧ CS a K (upd H W (.lst (zv T'))) H' B R dxr N l i g ∧ OkG g ∧ Todo (l.drop i) g A' ∧ T' ++ A' = total,
    ⟨_, 0, Ue09.init, [], total, none, none, rfl, Nat.zero_le _, rfl, cs0, init_okG, todo, rfl⟩, ?_⟩
  rintro m σ H3 ⟨i, g, T', A', o1, o2, rfl, hi, rfl, cs, ok, td, etot⟩
  -- while reader.has_more()
  refine ⟨_, rfl, R, dxr, _, rfl, cs.rd, nm_Reader_has_more, R, dxr, N, l, i, rfl, cs.rd, cs.list, _, rfl, ?_⟩
  have hW : H3 W = some (.lst (zv T')) := cs.subF _ _ upd_same
  have hT : T'.length ≤ 10000000 := by
    have := congrArg List.length etot
    rw [List.length_append] at this
    omega
  refine ite2 (fun c1 => ?_) (fun c1 => ?_)
  · have c1 := of_decide_eq_true c1
    cases hd : l.drop i with
    | nil => rw [List.drop_eq_nil_iff] at hd; omega
    | cons c0 s0 =>
      rw [hd] at td
      cases td with
      | @next _ _ t c _ A2 rd td2 =>
        obtain ⟨e1, e2, _⟩ := drop_lt hd
        have hc0 := h13 _ _ _ _ rd
        have ef : tbl[c0]? = some tbl[c0] := List.getElem?_eq_getElem hc0
        have ef2 : (tbl.map V.ref)[c0]? = some (V.ref tbl[c0]) := by rw [List.getElem?_map, ef]; rfl
        refine ⟨fun σ' H' => ∃ (j : Nat) (g' : House) (T2 A2 : List Int) (o1 o2 : Option V), l.length - j < l.length - i ∧ j ≤ l.length ∧ σ' = [some (.ref N), some (.ref R), some (.ref B), some (.ref W), o1, o2] ∧ CS a K (upd H W (.lst (zv T2))) H' B R dxr N l j g' ∧ OkG g' ∧ Todo (l.drop j) g' A2 ∧ T2 ++ A2 = total,
          fun σ' H' ⟨j, g', T2, A2, o1, o2, h1, h2⟩ => ⟨_, h1, j, g', T2, A2, o1, o2, rfl, h2⟩, ?_⟩
        -- call = CALLS[reader.take_number()]
        refine ⟨_, rfl, R, dxr, _, rfl, cs.rd, nm_Reader_take_number, R, dxr, N, l, i, c0, rfl, cs.rd, cs.list, e1, fun H4 r4 s4 => ?_⟩
        have c4 := cs.next r4 s4
        refine ⟨a.A_CALLS, _, _, _, rfl, rfl, ht _, atI_nat ef2, ?_⟩
        -- answer = call(board, reader)
        have hTb : sTbl a K tbl tbl[c0] = some (spAt a K tbl tbl[c0]) := if_pos (List.getElem_mem hc0)
        refine ⟨tbl[c0], _, rfl, hTb, _, rfl, _, rfl, c0, ef, _, B, R, dxr, N, l, i + 1, g, c, t, rfl, c4, ok, by omega, by rw [e2]; exact rd, fun H5 p j ej hij hjl c5 fp hp => ?_⟩
        have hpW : p ≠ W := (upd_none fp).1
        have hW5 : H5 W = some (.lst (zv T')) := c5.subF _ _ upd_same
        have hans := congrArg List.length etot
        simp only [List.length_append, List.length_cons] at hans
        -- told.append(len(answer))
        refine ⟨_, rfl, .inl ⟨rfl, _, SqL.of hW5⟩, _, rfl, p, _, rfl, .inl (SqL.of hp), W, _, _, rfl, rfl, hW5, ?_, ?_⟩
        · show (T'.map V.int).length < sizeLine
          rw [List.length_map]
          exact Nat.lt_of_le_of_lt hT (by decide)
        have elz : ((zv (Ue09.step g c).2).length : Int) = ((Ue09.step g c).2.length : Int) := by show ((List.map V.int _).length : Int) = _; rw [List.length_map]
        rw [elz]
        have ew : zv T' ++ [V.int ((Ue09.step g c).2.length : Int)] = zv (T' ++ [((Ue09.step g c).2.length : Int)]) := by
          show List.map V.int _ ++ _ = List.map V.int _; rw [List.map_append]; rfl
        rw [ew]
        have c6 := c5.told (u := .lst (zv (T' ++ [((Ue09.step g c).2.length : Int)]))) nWH hS
        -- told.extend(answer)
        refine ⟨_, rfl, .inl ⟨rfl, _, SqL.of upd_same⟩, _, rfl, W, p, _, _, rfl, rfl, upd_same, (by rw [upd_ne hpW]; exact hp), ?_, ?_⟩
        · show (List.map V.int _).length + (List.map V.int _).length ≤ sizeLine
          rw [List.length_map, List.length_map, List.length_append, List.length_singleton]
          exact Nat.le_trans (by omega : _ ≤ 10000000) (by decide)
        have ew2 : zv (T' ++ [((Ue09.step g c).2.length : Int)]) ++ zv (Ue09.step g c).2 = zv (T' ++ [((Ue09.step g c).2.length : Int)] ++ (Ue09.step g c).2) := by
          show List.map V.int _ ++ List.map V.int _ = List.map V.int _; exact (List.map_append ..).symm
        rw [ew2]
        have c7 := c6.told (u := .lst (zv (T' ++ [((Ue09.step g c).2.length : Int)] ++ (Ue09.step g c).2))) nWH hS
        refine ⟨j, (Ue09.step g c).1, _, A2, _, _, by omega, hjl, rfl, c7, step_okG ok c, by rw [ej]; exact td2, ?_⟩
        rw [← etot]
        simp
  · have c1 : ¬ i < l.length := fun z => c1 (decide_eq_true z)
    have : i = l.length := by omega
    rw [this, List.drop_length] at td
    cases td
    rw [List.append_nil] at etot
    rw [etot] at hW
    exact ⟨_, rfl, q _ W hW⟩
theorem rd_lt {c0 : Nat} {s : List Nat} {c : Ue09.Call} {t : List Nat} (h : Rd c0 s c t) : c0 < 13 := by
  match c0, h with
  | 0, _ | 1, _ | 2, _ | 3, _ | 4, _ | 5, _ | 6, _ | 7, _ | 8, _ | 9, _ | 10, _ | 11, _ | 12, _ => decide
  | _ + 13, h => exact h.elim
def callsOf (a : Ad) : List Addr := [a.f_call_map, a.f_call_bind, a.f_call_unbind, a.f_call_use, a.f_call_wait, a.f_call_press, a.f_call_flush, a.f_call_open, a.f_call_lookup, a.f_call_hints, a.f_call_hidden, a.f_call_would, a.f_call_rings]
theorem calls_ok (T : Txt K mg a) : ∀ c0 f, (callsOf a)[c0]? = some f → CallOk P w K mg base a 9 c0 f
  | 0, _, rfl => callOk T.F_call_map (ok_callMap T) T.b_call_map (by decide)
  | 1, _, rfl => callOk T.F_call_bind (ok_callBind T) T.b_call_bind (by decide)
  | 2, _, rfl => callOk T.F_call_unbind (ok_callUnbind T) T.b_call_unbind (by decide)
  | 3, _, rfl => callOk T.F_call_use (ok_callUse T) T.b_call_use (by decide)
  | 4, _, rfl => callOk T.F_call_wait (ok_callWait T) T.b_call_wait (by decide)
  | 5, _, rfl => callOk T.F_call_press (ok_callPress T) T.b_call_press (by decide)
  | 6, _, rfl => callOk T.F_call_flush (ok_callFlush T) T.b_call_flush (by decide)
  | 7, _, rfl => callOk T.F_call_open (ok_callOpen T) T.b_call_open (by decide)
  | 8, _, rfl => callOk T.F_call_lookup (ok_callLookup T) T.b_call_lookup (by decide)
  | 9, _, rfl => callOk T.F_call_hints (ok_callHints T) T.b_call_hints (by decide)
  | 10, _, rfl => callOk T.F_call_hidden (ok_callHidden T) T.b_call_hidden (by decide)
  | 11, _, rfl => callOk T.F_call_would (ok_callWould T) T.b_call_would (by decide)
  | 12, _, rfl => callOk T.F_call_rings (ok_callRings T) T.b_call_rings (by decide)
  | _ + 13, _, h => by simp [callsOf] at h
theorem ok_answers (T : Txt K mg a) : FnOk P w K mg base CX0 10 a.f_answers a.fd_answers ["calls"] (spAns K) :=
  ok_answers0 T (tbl := callsOf a) (fun H => T.t_CALLS H) (fun _ _ _ _ h => rd_lt h) (held (calls_ok T))
end
end Km

namespace Km
open PySem PySem.Spec PyProof.Rows L2
open PySem.W (Codec)
/-- the row's request, as the promise wants it -/
theorem spAns_of (K : PySem.W.Frag) (H : Hp) (xs : List V) (a : Codec.denoteAll PySem.Challenge.rw_keymaps_s01_answers.args) : OnlyF H → Codec.withinAll PySem.Challenge.rw_keymaps_s01_answers.args a = true → Codec.app PySem.Challenge.rw_keymaps_s01_answers.args PySem.Challenge.rw_keymaps_s01_answers.asked a = true → DwAll K H xs (Codec.encAll PySem.Challenge.rw_keymaps_s01_answers.args a) →
      spAns K xs H (fun v H' => Dw K H' v (PySem.Challenge.rw_keymaps_s01_answers.ret.enc (Codec.app PySem.Challenge.rw_keymaps_s01_answers.args PySem.Challenge.rw_keymaps_s01_answers.f a))) fun _ _ _ => False := by
  intro hO hwi hask hx
  have q : ((Codec.inLen 0 2000 a.1 && a.1.all (Codec.inInt 0 4294967295)) && true) = true := hwi
  rw [Bool.and_eq_true, Bool.and_eq_true] at q
  have hin : InR a.1 := fun x hm => by
    have z := List.all_eq_true.mp q.1.2 x hm
    have z2 : (decide ((0 : Int) ≤ x) && decide (x ≤ (4294967295 : Int))) = true := z
    rw [Bool.and_eq_true] at z2
    exact ⟨of_decide_eq_true z2.1, of_decide_eq_true z2.2⟩
  cases hx with
  | cons h1 h2 =>
    cases h2
    cases h1 with
    | lst hs ha =>
      have e := L2.ints_dw a.1 _ ha
      subst e
      exact ⟨_, a.1, rfl, hs, hin, hask, fun H' p hp => .lst (L2.SqL.of hp) (L2.dw_ints _)⟩
end Km

namespace Km
open PySem PySem.Spec PyProof.Rows L2
theorem txt_mk {K : PySem.W.Frag} {h : Heap} {mg : Str → Option Value} {C_Binding C_KeyMap C_KeyStream C_Board C_Reader A_CALLS f_Binding_init f_read_binding f_keys_fit f_sequence_fits f_details_fit f_binding_fits f_KeyMap_init f_KeyMap_add_binding f_maps_in_use f_counting_maps f_binding_map f_bound f_bound_at_once f_goes_on f_longest_bound f_KeyStream_init f_KeyStream_put_in_use f_KeyStream_take_events f_KeyStream_press_key f_KeyStream_wait_long_enough f_KeyStream_go_through f_KeyStream_counting f_KeyStream_more_may_come f_KeyStream_settle f_KeyStream_take_as_it_is f_KeyStream_is_count_digit f_KeyStream_carry_out f_KeyStream_put_keys f_KeyStream_tell_keys f_KeyStream_change_maps f_KeyStream_tell f_try_out f_makes_ring f_sequence_state f_next_keys f_cut_short f_bound_by f_hidden_sequences f_bound_sequences f_Board_init f_Board_renew_map f_Board_bind f_Board_unbind f_Board_use f_Board_wait f_Board_press f_Board_flush f_Board_tell_open f_Board_lookup f_Board_hints f_Board_hidden f_Board_would f_Board_rings f_counted f_event_answer f_Reader_init f_Reader_has_more f_Reader_take_number f_Reader_take_row f_call_map f_call_bind f_call_unbind f_call_use f_call_wait f_call_press f_call_flush f_call_open f_call_lookup f_call_hints f_call_hidden f_call_would f_call_rings f_answers : Addr} (X : K.In h) (G : h.Ns mainGlobals mg)
    {oc_Binding_init kV_Binding_init dc_Binding_init pm_Binding_init cd_Binding_init ct_Binding_init : Value} {od_Binding_init an_Binding_init : Option Addr} {sl_Binding_init : Array (Option Value)}
    {oc_read_binding kV_read_binding dc_read_binding pm_read_binding cd_read_binding ct_read_binding : Value} {od_read_binding an_read_binding : Option Addr} {sl_read_binding : Array (Option Value)}
    {oc_keys_fit kV_keys_fit dc_keys_fit pm_keys_fit cd_keys_fit ct_keys_fit : Value} {od_keys_fit an_keys_fit : Option Addr} {sl_keys_fit : Array (Option Value)}
    {oc_sequence_fits kV_sequence_fits dc_sequence_fits pm_sequence_fits cd_sequence_fits ct_sequence_fits : Value} {od_sequence_fits an_sequence_fits : Option Addr} {sl_sequence_fits : Array (Option Value)}
    {oc_details_fit kV_details_fit dc_details_fit pm_details_fit cd_details_fit ct_details_fit : Value} {od_details_fit an_details_fit : Option Addr} {sl_details_fit : Array (Option Value)}
    {oc_binding_fits kV_binding_fits dc_binding_fits pm_binding_fits cd_binding_fits ct_binding_fits : Value} {od_binding_fits an_binding_fits : Option Addr} {sl_binding_fits : Array (Option Value)}
    {oc_KeyMap_init kV_KeyMap_init dc_KeyMap_init pm_KeyMap_init cd_KeyMap_init ct_KeyMap_init : Value} {od_KeyMap_init an_KeyMap_init : Option Addr} {sl_KeyMap_init : Array (Option Value)}
    {oc_KeyMap_add_binding kV_KeyMap_add_binding dc_KeyMap_add_binding pm_KeyMap_add_binding cd_KeyMap_add_binding ct_KeyMap_add_binding : Value} {od_KeyMap_add_binding an_KeyMap_add_binding : Option Addr} {sl_KeyMap_add_binding : Array (Option Value)}
    {oc_maps_in_use kV_maps_in_use dc_maps_in_use pm_maps_in_use cd_maps_in_use ct_maps_in_use : Value} {od_maps_in_use an_maps_in_use : Option Addr} {sl_maps_in_use : Array (Option Value)}
    {oc_counting_maps kV_counting_maps dc_counting_maps pm_counting_maps cd_counting_maps ct_counting_maps : Value} {od_counting_maps an_counting_maps : Option Addr} {sl_counting_maps : Array (Option Value)}
    {oc_binding_map kV_binding_map dc_binding_map pm_binding_map cd_binding_map ct_binding_map : Value} {od_binding_map an_binding_map : Option Addr} {sl_binding_map : Array (Option Value)}
    {oc_bound kV_bound dc_bound pm_bound cd_bound ct_bound : Value} {od_bound an_bound : Option Addr} {sl_bound : Array (Option Value)}
    {oc_bound_at_once kV_bound_at_once dc_bound_at_once pm_bound_at_once cd_bound_at_once ct_bound_at_once : Value} {od_bound_at_once an_bound_at_once : Option Addr} {sl_bound_at_once : Array (Option Value)}
    {oc_goes_on kV_goes_on dc_goes_on pm_goes_on cd_goes_on ct_goes_on : Value} {od_goes_on an_goes_on : Option Addr} {sl_goes_on : Array (Option Value)}
    {oc_longest_bound kV_longest_bound dc_longest_bound pm_longest_bound cd_longest_bound ct_longest_bound : Value} {od_longest_bound an_longest_bound : Option Addr} {sl_longest_bound : Array (Option Value)}
    {oc_KeyStream_init kV_KeyStream_init dc_KeyStream_init pm_KeyStream_init cd_KeyStream_init ct_KeyStream_init : Value} {od_KeyStream_init an_KeyStream_init : Option Addr} {sl_KeyStream_init : Array (Option Value)}
    {oc_KeyStream_put_in_use kV_KeyStream_put_in_use dc_KeyStream_put_in_use pm_KeyStream_put_in_use cd_KeyStream_put_in_use ct_KeyStream_put_in_use : Value} {od_KeyStream_put_in_use an_KeyStream_put_in_use : Option Addr} {sl_KeyStream_put_in_use : Array (Option Value)}
    {oc_KeyStream_take_events kV_KeyStream_take_events dc_KeyStream_take_events pm_KeyStream_take_events cd_KeyStream_take_events ct_KeyStream_take_events : Value} {od_KeyStream_take_events an_KeyStream_take_events : Option Addr} {sl_KeyStream_take_events : Array (Option Value)}
    {oc_KeyStream_press_key kV_KeyStream_press_key dc_KeyStream_press_key pm_KeyStream_press_key cd_KeyStream_press_key ct_KeyStream_press_key : Value} {od_KeyStream_press_key an_KeyStream_press_key : Option Addr} {sl_KeyStream_press_key : Array (Option Value)}
    {oc_KeyStream_wait_long_enough kV_KeyStream_wait_long_enough dc_KeyStream_wait_long_enough pm_KeyStream_wait_long_enough cd_KeyStream_wait_long_enough ct_KeyStream_wait_long_enough : Value} {od_KeyStream_wait_long_enough an_KeyStream_wait_long_enough : Option Addr} {sl_KeyStream_wait_long_enough : Array (Option Value)}
    {oc_KeyStream_go_through kV_KeyStream_go_through dc_KeyStream_go_through pm_KeyStream_go_through cd_KeyStream_go_through ct_KeyStream_go_through : Value} {od_KeyStream_go_through an_KeyStream_go_through : Option Addr} {sl_KeyStream_go_through : Array (Option Value)}
    {oc_KeyStream_counting kV_KeyStream_counting dc_KeyStream_counting pm_KeyStream_counting cd_KeyStream_counting ct_KeyStream_counting : Value} {od_KeyStream_counting an_KeyStream_counting : Option Addr} {sl_KeyStream_counting : Array (Option Value)}
    {oc_KeyStream_more_may_come kV_KeyStream_more_may_come dc_KeyStream_more_may_come pm_KeyStream_more_may_come cd_KeyStream_more_may_come ct_KeyStream_more_may_come : Value} {od_KeyStream_more_may_come an_KeyStream_more_may_come : Option Addr} {sl_KeyStream_more_may_come : Array (Option Value)}
    {oc_KeyStream_settle kV_KeyStream_settle dc_KeyStream_settle pm_KeyStream_settle cd_KeyStream_settle ct_KeyStream_settle : Value} {od_KeyStream_settle an_KeyStream_settle : Option Addr} {sl_KeyStream_settle : Array (Option Value)}
    {oc_KeyStream_take_as_it_is kV_KeyStream_take_as_it_is dc_KeyStream_take_as_it_is pm_KeyStream_take_as_it_is cd_KeyStream_take_as_it_is ct_KeyStream_take_as_it_is : Value} {od_KeyStream_take_as_it_is an_KeyStream_take_as_it_is : Option Addr} {sl_KeyStream_take_as_it_is : Array (Option Value)}
    {oc_KeyStream_is_count_digit kV_KeyStream_is_count_digit dc_KeyStream_is_count_digit pm_KeyStream_is_count_digit cd_KeyStream_is_count_digit ct_KeyStream_is_count_digit : Value} {od_KeyStream_is_count_digit an_KeyStream_is_count_digit : Option Addr} {sl_KeyStream_is_count_digit : Array (Option Value)}
    {oc_KeyStream_carry_out kV_KeyStream_carry_out dc_KeyStream_carry_out pm_KeyStream_carry_out cd_KeyStream_carry_out ct_KeyStream_carry_out : Value} {od_KeyStream_carry_out an_KeyStream_carry_out : Option Addr} {sl_KeyStream_carry_out : Array (Option Value)}
    {oc_KeyStream_put_keys kV_KeyStream_put_keys dc_KeyStream_put_keys pm_KeyStream_put_keys cd_KeyStream_put_keys ct_KeyStream_put_keys : Value} {od_KeyStream_put_keys an_KeyStream_put_keys : Option Addr} {sl_KeyStream_put_keys : Array (Option Value)}
    {oc_KeyStream_tell_keys kV_KeyStream_tell_keys dc_KeyStream_tell_keys pm_KeyStream_tell_keys cd_KeyStream_tell_keys ct_KeyStream_tell_keys : Value} {od_KeyStream_tell_keys an_KeyStream_tell_keys : Option Addr} {sl_KeyStream_tell_keys : Array (Option Value)}
    {oc_KeyStream_change_maps kV_KeyStream_change_maps dc_KeyStream_change_maps pm_KeyStream_change_maps cd_KeyStream_change_maps ct_KeyStream_change_maps : Value} {od_KeyStream_change_maps an_KeyStream_change_maps : Option Addr} {sl_KeyStream_change_maps : Array (Option Value)}
    {oc_KeyStream_tell kV_KeyStream_tell dc_KeyStream_tell pm_KeyStream_tell cd_KeyStream_tell ct_KeyStream_tell : Value} {od_KeyStream_tell an_KeyStream_tell : Option Addr} {sl_KeyStream_tell : Array (Option Value)}
    {oc_try_out kV_try_out dc_try_out pm_try_out cd_try_out ct_try_out : Value} {od_try_out an_try_out : Option Addr} {sl_try_out : Array (Option Value)}
    {oc_makes_ring kV_makes_ring dc_makes_ring pm_makes_ring cd_makes_ring ct_makes_ring : Value} {od_makes_ring an_makes_ring : Option Addr} {sl_makes_ring : Array (Option Value)}
    {oc_sequence_state kV_sequence_state dc_sequence_state pm_sequence_state cd_sequence_state ct_sequence_state : Value} {od_sequence_state an_sequence_state : Option Addr} {sl_sequence_state : Array (Option Value)}
    {oc_next_keys kV_next_keys dc_next_keys pm_next_keys cd_next_keys ct_next_keys : Value} {od_next_keys an_next_keys : Option Addr} {sl_next_keys : Array (Option Value)}
    {oc_cut_short kV_cut_short dc_cut_short pm_cut_short cd_cut_short ct_cut_short : Value} {od_cut_short an_cut_short : Option Addr} {sl_cut_short : Array (Option Value)}
    {oc_bound_by kV_bound_by dc_bound_by pm_bound_by cd_bound_by ct_bound_by : Value} {od_bound_by an_bound_by : Option Addr} {sl_bound_by : Array (Option Value)}
    {oc_hidden_sequences kV_hidden_sequences dc_hidden_sequences pm_hidden_sequences cd_hidden_sequences ct_hidden_sequences : Value} {od_hidden_sequences an_hidden_sequences : Option Addr} {sl_hidden_sequences : Array (Option Value)}
    {oc_bound_sequences kV_bound_sequences dc_bound_sequences pm_bound_sequences cd_bound_sequences ct_bound_sequences : Value} {od_bound_sequences an_bound_sequences : Option Addr} {sl_bound_sequences : Array (Option Value)}
    {oc_Board_init kV_Board_init dc_Board_init pm_Board_init cd_Board_init ct_Board_init : Value} {od_Board_init an_Board_init : Option Addr} {sl_Board_init : Array (Option Value)}
    {oc_Board_renew_map kV_Board_renew_map dc_Board_renew_map pm_Board_renew_map cd_Board_renew_map ct_Board_renew_map : Value} {od_Board_renew_map an_Board_renew_map : Option Addr} {sl_Board_renew_map : Array (Option Value)}
    {oc_Board_bind kV_Board_bind dc_Board_bind pm_Board_bind cd_Board_bind ct_Board_bind : Value} {od_Board_bind an_Board_bind : Option Addr} {sl_Board_bind : Array (Option Value)}
    {oc_Board_unbind kV_Board_unbind dc_Board_unbind pm_Board_unbind cd_Board_unbind ct_Board_unbind : Value} {od_Board_unbind an_Board_unbind : Option Addr} {sl_Board_unbind : Array (Option Value)}
    {oc_Board_use kV_Board_use dc_Board_use pm_Board_use cd_Board_use ct_Board_use : Value} {od_Board_use an_Board_use : Option Addr} {sl_Board_use : Array (Option Value)}
    {oc_Board_wait kV_Board_wait dc_Board_wait pm_Board_wait cd_Board_wait ct_Board_wait : Value} {od_Board_wait an_Board_wait : Option Addr} {sl_Board_wait : Array (Option Value)}
    {oc_Board_press kV_Board_press dc_Board_press pm_Board_press cd_Board_press ct_Board_press : Value} {od_Board_press an_Board_press : Option Addr} {sl_Board_press : Array (Option Value)}
    {oc_Board_flush kV_Board_flush dc_Board_flush pm_Board_flush cd_Board_flush ct_Board_flush : Value} {od_Board_flush an_Board_flush : Option Addr} {sl_Board_flush : Array (Option Value)}
    {oc_Board_tell_open kV_Board_tell_open dc_Board_tell_open pm_Board_tell_open cd_Board_tell_open ct_Board_tell_open : Value} {od_Board_tell_open an_Board_tell_open : Option Addr} {sl_Board_tell_open : Array (Option Value)}
    {oc_Board_lookup kV_Board_lookup dc_Board_lookup pm_Board_lookup cd_Board_lookup ct_Board_lookup : Value} {od_Board_lookup an_Board_lookup : Option Addr} {sl_Board_lookup : Array (Option Value)}
    {oc_Board_hints kV_Board_hints dc_Board_hints pm_Board_hints cd_Board_hints ct_Board_hints : Value} {od_Board_hints an_Board_hints : Option Addr} {sl_Board_hints : Array (Option Value)}
    {oc_Board_hidden kV_Board_hidden dc_Board_hidden pm_Board_hidden cd_Board_hidden ct_Board_hidden : Value} {od_Board_hidden an_Board_hidden : Option Addr} {sl_Board_hidden : Array (Option Value)}
    {oc_Board_would kV_Board_would dc_Board_would pm_Board_would cd_Board_would ct_Board_would : Value} {od_Board_would an_Board_would : Option Addr} {sl_Board_would : Array (Option Value)}
    {oc_Board_rings kV_Board_rings dc_Board_rings pm_Board_rings cd_Board_rings ct_Board_rings : Value} {od_Board_rings an_Board_rings : Option Addr} {sl_Board_rings : Array (Option Value)}
    {oc_counted kV_counted dc_counted pm_counted cd_counted ct_counted : Value} {od_counted an_counted : Option Addr} {sl_counted : Array (Option Value)}
    {oc_event_answer kV_event_answer dc_event_answer pm_event_answer cd_event_answer ct_event_answer : Value} {od_event_answer an_event_answer : Option Addr} {sl_event_answer : Array (Option Value)}
    {oc_Reader_init kV_Reader_init dc_Reader_init pm_Reader_init cd_Reader_init ct_Reader_init : Value} {od_Reader_init an_Reader_init : Option Addr} {sl_Reader_init : Array (Option Value)}
    {oc_Reader_has_more kV_Reader_has_more dc_Reader_has_more pm_Reader_has_more cd_Reader_has_more ct_Reader_has_more : Value} {od_Reader_has_more an_Reader_has_more : Option Addr} {sl_Reader_has_more : Array (Option Value)}
    {oc_Reader_take_number kV_Reader_take_number dc_Reader_take_number pm_Reader_take_number cd_Reader_take_number ct_Reader_take_number : Value} {od_Reader_take_number an_Reader_take_number : Option Addr} {sl_Reader_take_number : Array (Option Value)}
    {oc_Reader_take_row kV_Reader_take_row dc_Reader_take_row pm_Reader_take_row cd_Reader_take_row ct_Reader_take_row : Value} {od_Reader_take_row an_Reader_take_row : Option Addr} {sl_Reader_take_row : Array (Option Value)}
    {oc_call_map kV_call_map dc_call_map pm_call_map cd_call_map ct_call_map : Value} {od_call_map an_call_map : Option Addr} {sl_call_map : Array (Option Value)}
    {oc_call_bind kV_call_bind dc_call_bind pm_call_bind cd_call_bind ct_call_bind : Value} {od_call_bind an_call_bind : Option Addr} {sl_call_bind : Array (Option Value)}
    {oc_call_unbind kV_call_unbind dc_call_unbind pm_call_unbind cd_call_unbind ct_call_unbind : Value} {od_call_unbind an_call_unbind : Option Addr} {sl_call_unbind : Array (Option Value)}
    {oc_call_use kV_call_use dc_call_use pm_call_use cd_call_use ct_call_use : Value} {od_call_use an_call_use : Option Addr} {sl_call_use : Array (Option Value)}
    {oc_call_wait kV_call_wait dc_call_wait pm_call_wait cd_call_wait ct_call_wait : Value} {od_call_wait an_call_wait : Option Addr} {sl_call_wait : Array (Option Value)}
    {oc_call_press kV_call_press dc_call_press pm_call_press cd_call_press ct_call_press : Value} {od_call_press an_call_press : Option Addr} {sl_call_press : Array (Option Value)}
    {oc_call_flush kV_call_flush dc_call_flush pm_call_flush cd_call_flush ct_call_flush : Value} {od_call_flush an_call_flush : Option Addr} {sl_call_flush : Array (Option Value)}
    {oc_call_open kV_call_open dc_call_open pm_call_open cd_call_open ct_call_open : Value} {od_call_open an_call_open : Option Addr} {sl_call_open : Array (Option Value)}
    {oc_call_lookup kV_call_lookup dc_call_lookup pm_call_lookup cd_call_lookup ct_call_lookup : Value} {od_call_lookup an_call_lookup : Option Addr} {sl_call_lookup : Array (Option Value)}
    {oc_call_hints kV_call_hints dc_call_hints pm_call_hints cd_call_hints ct_call_hints : Value} {od_call_hints an_call_hints : Option Addr} {sl_call_hints : Array (Option Value)}
    {oc_call_hidden kV_call_hidden dc_call_hidden pm_call_hidden cd_call_hidden ct_call_hidden : Value} {od_call_hidden an_call_hidden : Option Addr} {sl_call_hidden : Array (Option Value)}
    {oc_call_would kV_call_would dc_call_would pm_call_would cd_call_would ct_call_would : Value} {od_call_would an_call_would : Option Addr} {sl_call_would : Array (Option Value)}
    {oc_call_rings kV_call_rings dc_call_rings pm_call_rings cd_call_rings ct_call_rings : Value} {od_call_rings an_call_rings : Option Addr} {sl_call_rings : Array (Option Value)}
    {oc_answers kV_answers dc_answers pm_answers cd_answers ct_answers : Value} {od_answers an_answers : Option Addr} {sl_answers : Array (Option Value)}
    {tk_COMMAND : Tok}
    {tk_KEYS_INSTEAD : Tok}
    {tk_KEYS_AS_THEY_ARE : Tok}
    {tk_PUT_MAP : Tok}
    {tk_TAKE_MAP : Tok}
    {tk_EXCHANGE_MAP : Tok}
    {tk_NOTHING : Tok}
    {tk_MAP_COUNT : Tok}
    {tk_HIGHEST_KEY : Tok}
    {tk_HIGHEST_COMMAND : Tok}
    {tk_LONGEST_SEQUENCE : Tok}
    {tk_MOST_KEYS_PUT : Tok}
    {tk_EVENT_KEY : Tok}
    {tk_EVENT_COMMAND : Tok}
    {tk_EVENT_RING : Tok}
    {tk_EVENT_MAP : Tok}
    {tk_EVENT_NOTHING : Tok}
    {tk_FIRST_DIGIT : Tok}
    {tk_LAST_DIGIT : Tok}
    {tk_MOST_DIGITS : Tok}
    {tk_MOST_IN_USE : Tok}
    {tk_MOST_TIMES_PUT : Tok}
    {tk_IS_BOUND : Tok}
    {tk_GOES_ON : Tok}
    {tk_NOT_AS_TOLD : Tok}
    {tk_NO_SUCH_MAP : Tok}
    {tk_MAP_IS_FULL : Tok}
    {tk_NO_SUCH_SEQUENCE : Tok}
    {tk_MOST_BINDINGS : Tok}
    {tk_MOST_TICKS : Tok}
    {tk_MOST_KEYS_PRESSED : Tok}
    {tk_TICKS_AT_FIRST : Tok}
    {od_CALLS : Option Addr} {n_CALLS : Nat} {sl_CALLS : Array (Option Value)}
    (a_Binding : PySem.W.nsIn K mainGlobals "Binding" = some (some (.ref C_Binding)))
    (a_KeyMap : PySem.W.nsIn K mainGlobals "KeyMap" = some (some (.ref C_KeyMap)))
    (a_KeyStream : PySem.W.nsIn K mainGlobals "KeyStream" = some (some (.ref C_KeyStream)))
    (a_Board : PySem.W.nsIn K mainGlobals "Board" = some (some (.ref C_Board)))
    (a_Reader : PySem.W.nsIn K mainGlobals "Reader" = some (some (.ref C_Reader)))
    (a_Binding_init : PySem.W.findIn K (.ref C_Binding) "__init__" = some (some (.ref f_Binding_init)))
    (i_Binding_init : PySem.W.isFn K (.ref f_Binding_init) = true)
    (l_Binding_init : K.lookup f_Binding_init = some ⟨oc_Binding_init, od_Binding_init, .func (PySem.W.fnOf "__init__" "Binding.__init__" (defArgs s_Binding_init) (defBody s_Binding_init) (defScope s_Binding_init) .none kV_Binding_init dc_Binding_init pm_Binding_init an_Binding_init cd_Binding_init ct_Binding_init), sl_Binding_init⟩)
    (c_Binding_init : PySem.W.codeIn K cd_Binding_init "Binding.__init__" = true)
    (k_Binding_init : PySem.W.keepIn K (.ref f_Binding_init) = true)
    (a_read_binding : PySem.W.nsIn K mainGlobals "read_binding" = some (some (.ref f_read_binding)))
    (l_read_binding : K.lookup f_read_binding = some ⟨oc_read_binding, od_read_binding, .func (PySem.W.fnOf "read_binding" "read_binding" (defArgs s_read_binding) (defBody s_read_binding) (defScope s_read_binding) .none kV_read_binding dc_read_binding pm_read_binding an_read_binding cd_read_binding ct_read_binding), sl_read_binding⟩)
    (c_read_binding : PySem.W.codeIn K cd_read_binding "read_binding" = true)
    (k_read_binding : PySem.W.keepIn K (.ref f_read_binding) = true)
    (a_keys_fit : PySem.W.nsIn K mainGlobals "keys_fit" = some (some (.ref f_keys_fit)))
    (l_keys_fit : K.lookup f_keys_fit = some ⟨oc_keys_fit, od_keys_fit, .func (PySem.W.fnOf "keys_fit" "keys_fit" (defArgs s_keys_fit) (defBody s_keys_fit) (defScope s_keys_fit) .none kV_keys_fit dc_keys_fit pm_keys_fit an_keys_fit cd_keys_fit ct_keys_fit), sl_keys_fit⟩)
    (c_keys_fit : PySem.W.codeIn K cd_keys_fit "keys_fit" = true)
    (k_keys_fit : PySem.W.keepIn K (.ref f_keys_fit) = true)
    (a_sequence_fits : PySem.W.nsIn K mainGlobals "sequence_fits" = some (some (.ref f_sequence_fits)))
    (l_sequence_fits : K.lookup f_sequence_fits = some ⟨oc_sequence_fits, od_sequence_fits, .func (PySem.W.fnOf "sequence_fits" "sequence_fits" (defArgs s_sequence_fits) (defBody s_sequence_fits) (defScope s_sequence_fits) .none kV_sequence_fits dc_sequence_fits pm_sequence_fits an_sequence_fits cd_sequence_fits ct_sequence_fits), sl_sequence_fits⟩)
    (c_sequence_fits : PySem.W.codeIn K cd_sequence_fits "sequence_fits" = true)
    (k_sequence_fits : PySem.W.keepIn K (.ref f_sequence_fits) = true)
    (a_details_fit : PySem.W.nsIn K mainGlobals "details_fit" = some (some (.ref f_details_fit)))
    (l_details_fit : K.lookup f_details_fit = some ⟨oc_details_fit, od_details_fit, .func (PySem.W.fnOf "details_fit" "details_fit" (defArgs s_details_fit) (defBody s_details_fit) (defScope s_details_fit) .none kV_details_fit dc_details_fit pm_details_fit an_details_fit cd_details_fit ct_details_fit), sl_details_fit⟩)
    (c_details_fit : PySem.W.codeIn K cd_details_fit "details_fit" = true)
    (k_details_fit : PySem.W.keepIn K (.ref f_details_fit) = true)
    (a_binding_fits : PySem.W.nsIn K mainGlobals "binding_fits" = some (some (.ref f_binding_fits)))
    (l_binding_fits : K.lookup f_binding_fits = some ⟨oc_binding_fits, od_binding_fits, .func (PySem.W.fnOf "binding_fits" "binding_fits" (defArgs s_binding_fits) (defBody s_binding_fits) (defScope s_binding_fits) .none kV_binding_fits dc_binding_fits pm_binding_fits an_binding_fits cd_binding_fits ct_binding_fits), sl_binding_fits⟩)
    (c_binding_fits : PySem.W.codeIn K cd_binding_fits "binding_fits" = true)
    (k_binding_fits : PySem.W.keepIn K (.ref f_binding_fits) = true)
    (a_KeyMap_init : PySem.W.findIn K (.ref C_KeyMap) "__init__" = some (some (.ref f_KeyMap_init)))
    (i_KeyMap_init : PySem.W.isFn K (.ref f_KeyMap_init) = true)
    (l_KeyMap_init : K.lookup f_KeyMap_init = some ⟨oc_KeyMap_init, od_KeyMap_init, .func (PySem.W.fnOf "__init__" "KeyMap.__init__" (defArgs s_KeyMap_init) (defBody s_KeyMap_init) (defScope s_KeyMap_init) .none kV_KeyMap_init dc_KeyMap_init pm_KeyMap_init an_KeyMap_init cd_KeyMap_init ct_KeyMap_init), sl_KeyMap_init⟩)
    (c_KeyMap_init : PySem.W.codeIn K cd_KeyMap_init "KeyMap.__init__" = true)
    (k_KeyMap_init : PySem.W.keepIn K (.ref f_KeyMap_init) = true)
    (a_KeyMap_add_binding : PySem.W.findIn K (.ref C_KeyMap) "add_binding" = some (some (.ref f_KeyMap_add_binding)))
    (i_KeyMap_add_binding : PySem.W.isFn K (.ref f_KeyMap_add_binding) = true)
    (l_KeyMap_add_binding : K.lookup f_KeyMap_add_binding = some ⟨oc_KeyMap_add_binding, od_KeyMap_add_binding, .func (PySem.W.fnOf "add_binding" "KeyMap.add_binding" (defArgs s_KeyMap_add_binding) (defBody s_KeyMap_add_binding) (defScope s_KeyMap_add_binding) .none kV_KeyMap_add_binding dc_KeyMap_add_binding pm_KeyMap_add_binding an_KeyMap_add_binding cd_KeyMap_add_binding ct_KeyMap_add_binding), sl_KeyMap_add_binding⟩)
    (c_KeyMap_add_binding : PySem.W.codeIn K cd_KeyMap_add_binding "KeyMap.add_binding" = true)
    (k_KeyMap_add_binding : PySem.W.keepIn K (.ref f_KeyMap_add_binding) = true)
    (a_maps_in_use : PySem.W.nsIn K mainGlobals "maps_in_use" = some (some (.ref f_maps_in_use)))
    (l_maps_in_use : K.lookup f_maps_in_use = some ⟨oc_maps_in_use, od_maps_in_use, .func (PySem.W.fnOf "maps_in_use" "maps_in_use" (defArgs s_maps_in_use) (defBody s_maps_in_use) (defScope s_maps_in_use) .none kV_maps_in_use dc_maps_in_use pm_maps_in_use an_maps_in_use cd_maps_in_use ct_maps_in_use), sl_maps_in_use⟩)
    (c_maps_in_use : PySem.W.codeIn K cd_maps_in_use "maps_in_use" = true)
    (k_maps_in_use : PySem.W.keepIn K (.ref f_maps_in_use) = true)
    (a_counting_maps : PySem.W.nsIn K mainGlobals "counting_maps" = some (some (.ref f_counting_maps)))
    (l_counting_maps : K.lookup f_counting_maps = some ⟨oc_counting_maps, od_counting_maps, .func (PySem.W.fnOf "counting_maps" "counting_maps" (defArgs s_counting_maps) (defBody s_counting_maps) (defScope s_counting_maps) .none kV_counting_maps dc_counting_maps pm_counting_maps an_counting_maps cd_counting_maps ct_counting_maps), sl_counting_maps⟩)
    (c_counting_maps : PySem.W.codeIn K cd_counting_maps "counting_maps" = true)
    (k_counting_maps : PySem.W.keepIn K (.ref f_counting_maps) = true)
    (a_binding_map : PySem.W.nsIn K mainGlobals "binding_map" = some (some (.ref f_binding_map)))
    (l_binding_map : K.lookup f_binding_map = some ⟨oc_binding_map, od_binding_map, .func (PySem.W.fnOf "binding_map" "binding_map" (defArgs s_binding_map) (defBody s_binding_map) (defScope s_binding_map) .none kV_binding_map dc_binding_map pm_binding_map an_binding_map cd_binding_map ct_binding_map), sl_binding_map⟩)
    (c_binding_map : PySem.W.codeIn K cd_binding_map "binding_map" = true)
    (k_binding_map : PySem.W.keepIn K (.ref f_binding_map) = true)
    (a_bound : PySem.W.nsIn K mainGlobals "bound" = some (some (.ref f_bound)))
    (l_bound : K.lookup f_bound = some ⟨oc_bound, od_bound, .func (PySem.W.fnOf "bound" "bound" (defArgs s_bound) (defBody s_bound) (defScope s_bound) .none kV_bound dc_bound pm_bound an_bound cd_bound ct_bound), sl_bound⟩)
    (c_bound : PySem.W.codeIn K cd_bound "bound" = true)
    (k_bound : PySem.W.keepIn K (.ref f_bound) = true)
    (a_bound_at_once : PySem.W.nsIn K mainGlobals "bound_at_once" = some (some (.ref f_bound_at_once)))
    (l_bound_at_once : K.lookup f_bound_at_once = some ⟨oc_bound_at_once, od_bound_at_once, .func (PySem.W.fnOf "bound_at_once" "bound_at_once" (defArgs s_bound_at_once) (defBody s_bound_at_once) (defScope s_bound_at_once) .none kV_bound_at_once dc_bound_at_once pm_bound_at_once an_bound_at_once cd_bound_at_once ct_bound_at_once), sl_bound_at_once⟩)
    (c_bound_at_once : PySem.W.codeIn K cd_bound_at_once "bound_at_once" = true)
    (k_bound_at_once : PySem.W.keepIn K (.ref f_bound_at_once) = true)
    (a_goes_on : PySem.W.nsIn K mainGlobals "goes_on" = some (some (.ref f_goes_on)))
    (l_goes_on : K.lookup f_goes_on = some ⟨oc_goes_on, od_goes_on, .func (PySem.W.fnOf "goes_on" "goes_on" (defArgs s_goes_on) (defBody s_goes_on) (defScope s_goes_on) .none kV_goes_on dc_goes_on pm_goes_on an_goes_on cd_goes_on ct_goes_on), sl_goes_on⟩)
    (c_goes_on : PySem.W.codeIn K cd_goes_on "goes_on" = true)
    (k_goes_on : PySem.W.keepIn K (.ref f_goes_on) = true)
    (a_longest_bound : PySem.W.nsIn K mainGlobals "longest_bound" = some (some (.ref f_longest_bound)))
    (l_longest_bound : K.lookup f_longest_bound = some ⟨oc_longest_bound, od_longest_bound, .func (PySem.W.fnOf "longest_bound" "longest_bound" (defArgs s_longest_bound) (defBody s_longest_bound) (defScope s_longest_bound) .none kV_longest_bound dc_longest_bound pm_longest_bound an_longest_bound cd_longest_bound ct_longest_bound), sl_longest_bound⟩)
    (c_longest_bound : PySem.W.codeIn K cd_longest_bound "longest_bound" = true)
    (k_longest_bound : PySem.W.keepIn K (.ref f_longest_bound) = true)
    (a_KeyStream_init : PySem.W.findIn K (.ref C_KeyStream) "__init__" = some (some (.ref f_KeyStream_init)))
    (i_KeyStream_init : PySem.W.isFn K (.ref f_KeyStream_init) = true)
    (l_KeyStream_init : K.lookup f_KeyStream_init = some ⟨oc_KeyStream_init, od_KeyStream_init, .func (PySem.W.fnOf "__init__" "KeyStream.__init__" (defArgs s_KeyStream_init) (defBody s_KeyStream_init) (defScope s_KeyStream_init) .none kV_KeyStream_init dc_KeyStream_init pm_KeyStream_init an_KeyStream_init cd_KeyStream_init ct_KeyStream_init), sl_KeyStream_init⟩)
    (c_KeyStream_init : PySem.W.codeIn K cd_KeyStream_init "KeyStream.__init__" = true)
    (k_KeyStream_init : PySem.W.keepIn K (.ref f_KeyStream_init) = true)
    (a_KeyStream_put_in_use : PySem.W.findIn K (.ref C_KeyStream) "put_in_use" = some (some (.ref f_KeyStream_put_in_use)))
    (i_KeyStream_put_in_use : PySem.W.isFn K (.ref f_KeyStream_put_in_use) = true)
    (l_KeyStream_put_in_use : K.lookup f_KeyStream_put_in_use = some ⟨oc_KeyStream_put_in_use, od_KeyStream_put_in_use, .func (PySem.W.fnOf "put_in_use" "KeyStream.put_in_use" (defArgs s_KeyStream_put_in_use) (defBody s_KeyStream_put_in_use) (defScope s_KeyStream_put_in_use) .none kV_KeyStream_put_in_use dc_KeyStream_put_in_use pm_KeyStream_put_in_use an_KeyStream_put_in_use cd_KeyStream_put_in_use ct_KeyStream_put_in_use), sl_KeyStream_put_in_use⟩)
    (c_KeyStream_put_in_use : PySem.W.codeIn K cd_KeyStream_put_in_use "KeyStream.put_in_use" = true)
    (k_KeyStream_put_in_use : PySem.W.keepIn K (.ref f_KeyStream_put_in_use) = true)
    (a_KeyStream_take_events : PySem.W.findIn K (.ref C_KeyStream) "take_events" = some (some (.ref f_KeyStream_take_events)))
    (i_KeyStream_take_events : PySem.W.isFn K (.ref f_KeyStream_take_events) = true)
    (l_KeyStream_take_events : K.lookup f_KeyStream_take_events = some ⟨oc_KeyStream_take_events, od_KeyStream_take_events, .func (PySem.W.fnOf "take_events" "KeyStream.take_events" (defArgs s_KeyStream_take_events) (defBody s_KeyStream_take_events) (defScope s_KeyStream_take_events) .none kV_KeyStream_take_events dc_KeyStream_take_events pm_KeyStream_take_events an_KeyStream_take_events cd_KeyStream_take_events ct_KeyStream_take_events), sl_KeyStream_take_events⟩)
    (c_KeyStream_take_events : PySem.W.codeIn K cd_KeyStream_take_events "KeyStream.take_events" = true)
    (k_KeyStream_take_events : PySem.W.keepIn K (.ref f_KeyStream_take_events) = true)
    (a_KeyStream_press_key : PySem.W.findIn K (.ref C_KeyStream) "press_key" = some (some (.ref f_KeyStream_press_key)))
    (i_KeyStream_press_key : PySem.W.isFn K (.ref f_KeyStream_press_key) = true)
    (l_KeyStream_press_key : K.lookup f_KeyStream_press_key = some ⟨oc_KeyStream_press_key, od_KeyStream_press_key, .func (PySem.W.fnOf "press_key" "KeyStream.press_key" (defArgs s_KeyStream_press_key) (defBody s_KeyStream_press_key) (defScope s_KeyStream_press_key) .none kV_KeyStream_press_key dc_KeyStream_press_key pm_KeyStream_press_key an_KeyStream_press_key cd_KeyStream_press_key ct_KeyStream_press_key), sl_KeyStream_press_key⟩)
    (c_KeyStream_press_key : PySem.W.codeIn K cd_KeyStream_press_key "KeyStream.press_key" = true)
    (k_KeyStream_press_key : PySem.W.keepIn K (.ref f_KeyStream_press_key) = true)
    (a_KeyStream_wait_long_enough : PySem.W.findIn K (.ref C_KeyStream) "wait_long_enough" = some (some (.ref f_KeyStream_wait_long_enough)))
    (i_KeyStream_wait_long_enough : PySem.W.isFn K (.ref f_KeyStream_wait_long_enough) = true)
    (l_KeyStream_wait_long_enough : K.lookup f_KeyStream_wait_long_enough = some ⟨oc_KeyStream_wait_long_enough, od_KeyStream_wait_long_enough, .func (PySem.W.fnOf "wait_long_enough" "KeyStream.wait_long_enough" (defArgs s_KeyStream_wait_long_enough) (defBody s_KeyStream_wait_long_enough) (defScope s_KeyStream_wait_long_enough) .none kV_KeyStream_wait_long_enough dc_KeyStream_wait_long_enough pm_KeyStream_wait_long_enough an_KeyStream_wait_long_enough cd_KeyStream_wait_long_enough ct_KeyStream_wait_long_enough), sl_KeyStream_wait_long_enough⟩)
    (c_KeyStream_wait_long_enough : PySem.W.codeIn K cd_KeyStream_wait_long_enough "KeyStream.wait_long_enough" = true)
    (k_KeyStream_wait_long_enough : PySem.W.keepIn K (.ref f_KeyStream_wait_long_enough) = true)
    (a_KeyStream_go_through : PySem.W.findIn K (.ref C_KeyStream) "go_through" = some (some (.ref f_KeyStream_go_through)))
    (i_KeyStream_go_through : PySem.W.isFn K (.ref f_KeyStream_go_through) = true)
    (l_KeyStream_go_through : K.lookup f_KeyStream_go_through = some ⟨oc_KeyStream_go_through, od_KeyStream_go_through, .func (PySem.W.fnOf "go_through" "KeyStream.go_through" (defArgs s_KeyStream_go_through) (defBody s_KeyStream_go_through) (defScope s_KeyStream_go_through) .none kV_KeyStream_go_through dc_KeyStream_go_through pm_KeyStream_go_through an_KeyStream_go_through cd_KeyStream_go_through ct_KeyStream_go_through), sl_KeyStream_go_through⟩)
    (c_KeyStream_go_through : PySem.W.codeIn K cd_KeyStream_go_through "KeyStream.go_through" = true)
    (k_KeyStream_go_through : PySem.W.keepIn K (.ref f_KeyStream_go_through) = true)
    (a_KeyStream_counting : PySem.W.findIn K (.ref C_KeyStream) "counting" = some (some (.ref f_KeyStream_counting)))
    (i_KeyStream_counting : PySem.W.isFn K (.ref f_KeyStream_counting) = true)
    (l_KeyStream_counting : K.lookup f_KeyStream_counting = some ⟨oc_KeyStream_counting, od_KeyStream_counting, .func (PySem.W.fnOf "counting" "KeyStream.counting" (defArgs s_KeyStream_counting) (defBody s_KeyStream_counting) (defScope s_KeyStream_counting) .none kV_KeyStream_counting dc_KeyStream_counting pm_KeyStream_counting an_KeyStream_counting cd_KeyStream_counting ct_KeyStream_counting), sl_KeyStream_counting⟩)
    (c_KeyStream_counting : PySem.W.codeIn K cd_KeyStream_counting "KeyStream.counting" = true)
    (k_KeyStream_counting : PySem.W.keepIn K (.ref f_KeyStream_counting) = true)
    (a_KeyStream_more_may_come : PySem.W.findIn K (.ref C_KeyStream) "more_may_come" = some (some (.ref f_KeyStream_more_may_come)))
    (i_KeyStream_more_may_come : PySem.W.isFn K (.ref f_KeyStream_more_may_come) = true)
    (l_KeyStream_more_may_come : K.lookup f_KeyStream_more_may_come = some ⟨oc_KeyStream_more_may_come, od_KeyStream_more_may_come, .func (PySem.W.fnOf "more_may_come" "KeyStream.more_may_come" (defArgs s_KeyStream_more_may_come) (defBody s_KeyStream_more_may_come) (defScope s_KeyStream_more_may_come) .none kV_KeyStream_more_may_come dc_KeyStream_more_may_come pm_KeyStream_more_may_come an_KeyStream_more_may_come cd_KeyStream_more_may_come ct_KeyStream_more_may_come), sl_KeyStream_more_may_come⟩)
    (c_KeyStream_more_may_come : PySem.W.codeIn K cd_KeyStream_more_may_come "KeyStream.more_may_come" = true)
    (k_KeyStream_more_may_come : PySem.W.keepIn K (.ref f_KeyStream_more_may_come) = true)
    (a_KeyStream_settle : PySem.W.findIn K (.ref C_KeyStream) "settle" = some (some (.ref f_KeyStream_settle)))
    (i_KeyStream_settle : PySem.W.isFn K (.ref f_KeyStream_settle) = true)
    (l_KeyStream_settle : K.lookup f_KeyStream_settle = some ⟨oc_KeyStream_settle, od_KeyStream_settle, .func (PySem.W.fnOf "settle" "KeyStream.settle" (defArgs s_KeyStream_settle) (defBody s_KeyStream_settle) (defScope s_KeyStream_settle) .none kV_KeyStream_settle dc_KeyStream_settle pm_KeyStream_settle an_KeyStream_settle cd_KeyStream_settle ct_KeyStream_settle), sl_KeyStream_settle⟩)
    (c_KeyStream_settle : PySem.W.codeIn K cd_KeyStream_settle "KeyStream.settle" = true)
    (k_KeyStream_settle : PySem.W.keepIn K (.ref f_KeyStream_settle) = true)
    (a_KeyStream_take_as_it_is : PySem.W.findIn K (.ref C_KeyStream) "take_as_it_is" = some (some (.ref f_KeyStream_take_as_it_is)))
    (i_KeyStream_take_as_it_is : PySem.W.isFn K (.ref f_KeyStream_take_as_it_is) = true)
    (l_KeyStream_take_as_it_is : K.lookup f_KeyStream_take_as_it_is = some ⟨oc_KeyStream_take_as_it_is, od_KeyStream_take_as_it_is, .func (PySem.W.fnOf "take_as_it_is" "KeyStream.take_as_it_is" (defArgs s_KeyStream_take_as_it_is) (defBody s_KeyStream_take_as_it_is) (defScope s_KeyStream_take_as_it_is) .none kV_KeyStream_take_as_it_is dc_KeyStream_take_as_it_is pm_KeyStream_take_as_it_is an_KeyStream_take_as_it_is cd_KeyStream_take_as_it_is ct_KeyStream_take_as_it_is), sl_KeyStream_take_as_it_is⟩)
    (c_KeyStream_take_as_it_is : PySem.W.codeIn K cd_KeyStream_take_as_it_is "KeyStream.take_as_it_is" = true)
    (k_KeyStream_take_as_it_is : PySem.W.keepIn K (.ref f_KeyStream_take_as_it_is) = true)
    (a_KeyStream_is_count_digit : PySem.W.findIn K (.ref C_KeyStream) "is_count_digit" = some (some (.ref f_KeyStream_is_count_digit)))
    (i_KeyStream_is_count_digit : PySem.W.isFn K (.ref f_KeyStream_is_count_digit) = true)
    (l_KeyStream_is_count_digit : K.lookup f_KeyStream_is_count_digit = some ⟨oc_KeyStream_is_count_digit, od_KeyStream_is_count_digit, .func (PySem.W.fnOf "is_count_digit" "KeyStream.is_count_digit" (defArgs s_KeyStream_is_count_digit) (defBody s_KeyStream_is_count_digit) (defScope s_KeyStream_is_count_digit) .none kV_KeyStream_is_count_digit dc_KeyStream_is_count_digit pm_KeyStream_is_count_digit an_KeyStream_is_count_digit cd_KeyStream_is_count_digit ct_KeyStream_is_count_digit), sl_KeyStream_is_count_digit⟩)
    (c_KeyStream_is_count_digit : PySem.W.codeIn K cd_KeyStream_is_count_digit "KeyStream.is_count_digit" = true)
    (k_KeyStream_is_count_digit : PySem.W.keepIn K (.ref f_KeyStream_is_count_digit) = true)
    (a_KeyStream_carry_out : PySem.W.findIn K (.ref C_KeyStream) "carry_out" = some (some (.ref f_KeyStream_carry_out)))
    (i_KeyStream_carry_out : PySem.W.isFn K (.ref f_KeyStream_carry_out) = true)
    (l_KeyStream_carry_out : K.lookup f_KeyStream_carry_out = some ⟨oc_KeyStream_carry_out, od_KeyStream_carry_out, .func (PySem.W.fnOf "carry_out" "KeyStream.carry_out" (defArgs s_KeyStream_carry_out) (defBody s_KeyStream_carry_out) (defScope s_KeyStream_carry_out) .none kV_KeyStream_carry_out dc_KeyStream_carry_out pm_KeyStream_carry_out an_KeyStream_carry_out cd_KeyStream_carry_out ct_KeyStream_carry_out), sl_KeyStream_carry_out⟩)
    (c_KeyStream_carry_out : PySem.W.codeIn K cd_KeyStream_carry_out "KeyStream.carry_out" = true)
    (k_KeyStream_carry_out : PySem.W.keepIn K (.ref f_KeyStream_carry_out) = true)
    (a_KeyStream_put_keys : PySem.W.findIn K (.ref C_KeyStream) "put_keys" = some (some (.ref f_KeyStream_put_keys)))
    (i_KeyStream_put_keys : PySem.W.isFn K (.ref f_KeyStream_put_keys) = true)
    (l_KeyStream_put_keys : K.lookup f_KeyStream_put_keys = some ⟨oc_KeyStream_put_keys, od_KeyStream_put_keys, .func (PySem.W.fnOf "put_keys" "KeyStream.put_keys" (defArgs s_KeyStream_put_keys) (defBody s_KeyStream_put_keys) (defScope s_KeyStream_put_keys) .none kV_KeyStream_put_keys dc_KeyStream_put_keys pm_KeyStream_put_keys an_KeyStream_put_keys cd_KeyStream_put_keys ct_KeyStream_put_keys), sl_KeyStream_put_keys⟩)
    (c_KeyStream_put_keys : PySem.W.codeIn K cd_KeyStream_put_keys "KeyStream.put_keys" = true)
    (k_KeyStream_put_keys : PySem.W.keepIn K (.ref f_KeyStream_put_keys) = true)
    (a_KeyStream_tell_keys : PySem.W.findIn K (.ref C_KeyStream) "tell_keys" = some (some (.ref f_KeyStream_tell_keys)))
    (i_KeyStream_tell_keys : PySem.W.isFn K (.ref f_KeyStream_tell_keys) = true)
    (l_KeyStream_tell_keys : K.lookup f_KeyStream_tell_keys = some ⟨oc_KeyStream_tell_keys, od_KeyStream_tell_keys, .func (PySem.W.fnOf "tell_keys" "KeyStream.tell_keys" (defArgs s_KeyStream_tell_keys) (defBody s_KeyStream_tell_keys) (defScope s_KeyStream_tell_keys) .none kV_KeyStream_tell_keys dc_KeyStream_tell_keys pm_KeyStream_tell_keys an_KeyStream_tell_keys cd_KeyStream_tell_keys ct_KeyStream_tell_keys), sl_KeyStream_tell_keys⟩)
    (c_KeyStream_tell_keys : PySem.W.codeIn K cd_KeyStream_tell_keys "KeyStream.tell_keys" = true)
    (k_KeyStream_tell_keys : PySem.W.keepIn K (.ref f_KeyStream_tell_keys) = true)
    (a_KeyStream_change_maps : PySem.W.findIn K (.ref C_KeyStream) "change_maps" = some (some (.ref f_KeyStream_change_maps)))
    (i_KeyStream_change_maps : PySem.W.isFn K (.ref f_KeyStream_change_maps) = true)
    (l_KeyStream_change_maps : K.lookup f_KeyStream_change_maps = some ⟨oc_KeyStream_change_maps, od_KeyStream_change_maps, .func (PySem.W.fnOf "change_maps" "KeyStream.change_maps" (defArgs s_KeyStream_change_maps) (defBody s_KeyStream_change_maps) (defScope s_KeyStream_change_maps) .none kV_KeyStream_change_maps dc_KeyStream_change_maps pm_KeyStream_change_maps an_KeyStream_change_maps cd_KeyStream_change_maps ct_KeyStream_change_maps), sl_KeyStream_change_maps⟩)
    (c_KeyStream_change_maps : PySem.W.codeIn K cd_KeyStream_change_maps "KeyStream.change_maps" = true)
    (k_KeyStream_change_maps : PySem.W.keepIn K (.ref f_KeyStream_change_maps) = true)
    (a_KeyStream_tell : PySem.W.findIn K (.ref C_KeyStream) "tell" = some (some (.ref f_KeyStream_tell)))
    (i_KeyStream_tell : PySem.W.isFn K (.ref f_KeyStream_tell) = true)
    (l_KeyStream_tell : K.lookup f_KeyStream_tell = some ⟨oc_KeyStream_tell, od_KeyStream_tell, .func (PySem.W.fnOf "tell" "KeyStream.tell" (defArgs s_KeyStream_tell) (defBody s_KeyStream_tell) (defScope s_KeyStream_tell) .none kV_KeyStream_tell dc_KeyStream_tell pm_KeyStream_tell an_KeyStream_tell cd_KeyStream_tell ct_KeyStream_tell), sl_KeyStream_tell⟩)
    (c_KeyStream_tell : PySem.W.codeIn K cd_KeyStream_tell "KeyStream.tell" = true)
    (k_KeyStream_tell : PySem.W.keepIn K (.ref f_KeyStream_tell) = true)
    (a_try_out : PySem.W.nsIn K mainGlobals "try_out" = some (some (.ref f_try_out)))
    (l_try_out : K.lookup f_try_out = some ⟨oc_try_out, od_try_out, .func (PySem.W.fnOf "try_out" "try_out" (defArgs s_try_out) (defBody s_try_out) (defScope s_try_out) .none kV_try_out dc_try_out pm_try_out an_try_out cd_try_out ct_try_out), sl_try_out⟩)
    (c_try_out : PySem.W.codeIn K cd_try_out "try_out" = true)
    (k_try_out : PySem.W.keepIn K (.ref f_try_out) = true)
    (a_makes_ring : PySem.W.nsIn K mainGlobals "makes_ring" = some (some (.ref f_makes_ring)))
    (l_makes_ring : K.lookup f_makes_ring = some ⟨oc_makes_ring, od_makes_ring, .func (PySem.W.fnOf "makes_ring" "makes_ring" (defArgs s_makes_ring) (defBody s_makes_ring) (defScope s_makes_ring) .none kV_makes_ring dc_makes_ring pm_makes_ring an_makes_ring cd_makes_ring ct_makes_ring), sl_makes_ring⟩)
    (c_makes_ring : PySem.W.codeIn K cd_makes_ring "makes_ring" = true)
    (k_makes_ring : PySem.W.keepIn K (.ref f_makes_ring) = true)
    (a_sequence_state : PySem.W.nsIn K mainGlobals "sequence_state" = some (some (.ref f_sequence_state)))
    (l_sequence_state : K.lookup f_sequence_state = some ⟨oc_sequence_state, od_sequence_state, .func (PySem.W.fnOf "sequence_state" "sequence_state" (defArgs s_sequence_state) (defBody s_sequence_state) (defScope s_sequence_state) .none kV_sequence_state dc_sequence_state pm_sequence_state an_sequence_state cd_sequence_state ct_sequence_state), sl_sequence_state⟩)
    (c_sequence_state : PySem.W.codeIn K cd_sequence_state "sequence_state" = true)
    (k_sequence_state : PySem.W.keepIn K (.ref f_sequence_state) = true)
    (a_next_keys : PySem.W.nsIn K mainGlobals "next_keys" = some (some (.ref f_next_keys)))
    (l_next_keys : K.lookup f_next_keys = some ⟨oc_next_keys, od_next_keys, .func (PySem.W.fnOf "next_keys" "next_keys" (defArgs s_next_keys) (defBody s_next_keys) (defScope s_next_keys) .none kV_next_keys dc_next_keys pm_next_keys an_next_keys cd_next_keys ct_next_keys), sl_next_keys⟩)
    (c_next_keys : PySem.W.codeIn K cd_next_keys "next_keys" = true)
    (k_next_keys : PySem.W.keepIn K (.ref f_next_keys) = true)
    (a_cut_short : PySem.W.nsIn K mainGlobals "cut_short" = some (some (.ref f_cut_short)))
    (l_cut_short : K.lookup f_cut_short = some ⟨oc_cut_short, od_cut_short, .func (PySem.W.fnOf "cut_short" "cut_short" (defArgs s_cut_short) (defBody s_cut_short) (defScope s_cut_short) .none kV_cut_short dc_cut_short pm_cut_short an_cut_short cd_cut_short ct_cut_short), sl_cut_short⟩)
    (c_cut_short : PySem.W.codeIn K cd_cut_short "cut_short" = true)
    (k_cut_short : PySem.W.keepIn K (.ref f_cut_short) = true)
    (a_bound_by : PySem.W.nsIn K mainGlobals "bound_by" = some (some (.ref f_bound_by)))
    (l_bound_by : K.lookup f_bound_by = some ⟨oc_bound_by, od_bound_by, .func (PySem.W.fnOf "bound_by" "bound_by" (defArgs s_bound_by) (defBody s_bound_by) (defScope s_bound_by) .none kV_bound_by dc_bound_by pm_bound_by an_bound_by cd_bound_by ct_bound_by), sl_bound_by⟩)
    (c_bound_by : PySem.W.codeIn K cd_bound_by "bound_by" = true)
    (k_bound_by : PySem.W.keepIn K (.ref f_bound_by) = true)
    (a_hidden_sequences : PySem.W.nsIn K mainGlobals "hidden_sequences" = some (some (.ref f_hidden_sequences)))
    (l_hidden_sequences : K.lookup f_hidden_sequences = some ⟨oc_hidden_sequences, od_hidden_sequences, .func (PySem.W.fnOf "hidden_sequences" "hidden_sequences" (defArgs s_hidden_sequences) (defBody s_hidden_sequences) (defScope s_hidden_sequences) .none kV_hidden_sequences dc_hidden_sequences pm_hidden_sequences an_hidden_sequences cd_hidden_sequences ct_hidden_sequences), sl_hidden_sequences⟩)
    (c_hidden_sequences : PySem.W.codeIn K cd_hidden_sequences "hidden_sequences" = true)
    (k_hidden_sequences : PySem.W.keepIn K (.ref f_hidden_sequences) = true)
    (a_bound_sequences : PySem.W.nsIn K mainGlobals "bound_sequences" = some (some (.ref f_bound_sequences)))
    (l_bound_sequences : K.lookup f_bound_sequences = some ⟨oc_bound_sequences, od_bound_sequences, .func (PySem.W.fnOf "bound_sequences" "bound_sequences" (defArgs s_bound_sequences) (defBody s_bound_sequences) (defScope s_bound_sequences) .none kV_bound_sequences dc_bound_sequences pm_bound_sequences an_bound_sequences cd_bound_sequences ct_bound_sequences), sl_bound_sequences⟩)
    (c_bound_sequences : PySem.W.codeIn K cd_bound_sequences "bound_sequences" = true)
    (k_bound_sequences : PySem.W.keepIn K (.ref f_bound_sequences) = true)
    (a_Board_init : PySem.W.findIn K (.ref C_Board) "__init__" = some (some (.ref f_Board_init)))
    (i_Board_init : PySem.W.isFn K (.ref f_Board_init) = true)
    (l_Board_init : K.lookup f_Board_init = some ⟨oc_Board_init, od_Board_init, .func (PySem.W.fnOf "__init__" "Board.__init__" (defArgs s_Board_init) (defBody s_Board_init) (defScope s_Board_init) .none kV_Board_init dc_Board_init pm_Board_init an_Board_init cd_Board_init ct_Board_init), sl_Board_init⟩)
    (c_Board_init : PySem.W.codeIn K cd_Board_init "Board.__init__" = true)
    (k_Board_init : PySem.W.keepIn K (.ref f_Board_init) = true)
    (a_Board_renew_map : PySem.W.findIn K (.ref C_Board) "renew_map" = some (some (.ref f_Board_renew_map)))
    (i_Board_renew_map : PySem.W.isFn K (.ref f_Board_renew_map) = true)
    (l_Board_renew_map : K.lookup f_Board_renew_map = some ⟨oc_Board_renew_map, od_Board_renew_map, .func (PySem.W.fnOf "renew_map" "Board.renew_map" (defArgs s_Board_renew_map) (defBody s_Board_renew_map) (defScope s_Board_renew_map) .none kV_Board_renew_map dc_Board_renew_map pm_Board_renew_map an_Board_renew_map cd_Board_renew_map ct_Board_renew_map), sl_Board_renew_map⟩)
    (c_Board_renew_map : PySem.W.codeIn K cd_Board_renew_map "Board.renew_map" = true)
    (k_Board_renew_map : PySem.W.keepIn K (.ref f_Board_renew_map) = true)
    (a_Board_bind : PySem.W.findIn K (.ref C_Board) "bind" = some (some (.ref f_Board_bind)))
    (i_Board_bind : PySem.W.isFn K (.ref f_Board_bind) = true)
    (l_Board_bind : K.lookup f_Board_bind = some ⟨oc_Board_bind, od_Board_bind, .func (PySem.W.fnOf "bind" "Board.bind" (defArgs s_Board_bind) (defBody s_Board_bind) (defScope s_Board_bind) .none kV_Board_bind dc_Board_bind pm_Board_bind an_Board_bind cd_Board_bind ct_Board_bind), sl_Board_bind⟩)
    (c_Board_bind : PySem.W.codeIn K cd_Board_bind "Board.bind" = true)
    (k_Board_bind : PySem.W.keepIn K (.ref f_Board_bind) = true)
    (a_Board_unbind : PySem.W.findIn K (.ref C_Board) "unbind" = some (some (.ref f_Board_unbind)))
    (i_Board_unbind : PySem.W.isFn K (.ref f_Board_unbind) = true)
    (l_Board_unbind : K.lookup f_Board_unbind = some ⟨oc_Board_unbind, od_Board_unbind, .func (PySem.W.fnOf "unbind" "Board.unbind" (defArgs s_Board_unbind) (defBody s_Board_unbind) (defScope s_Board_unbind) .none kV_Board_unbind dc_Board_unbind pm_Board_unbind an_Board_unbind cd_Board_unbind ct_Board_unbind), sl_Board_unbind⟩)
    (c_Board_unbind : PySem.W.codeIn K cd_Board_unbind "Board.unbind" = true)
    (k_Board_unbind : PySem.W.keepIn K (.ref f_Board_unbind) = true)
    (a_Board_use : PySem.W.findIn K (.ref C_Board) "use" = some (some (.ref f_Board_use)))
    (i_Board_use : PySem.W.isFn K (.ref f_Board_use) = true)
    (l_Board_use : K.lookup f_Board_use = some ⟨oc_Board_use, od_Board_use, .func (PySem.W.fnOf "use" "Board.use" (defArgs s_Board_use) (defBody s_Board_use) (defScope s_Board_use) .none kV_Board_use dc_Board_use pm_Board_use an_Board_use cd_Board_use ct_Board_use), sl_Board_use⟩)
    (c_Board_use : PySem.W.codeIn K cd_Board_use "Board.use" = true)
    (k_Board_use : PySem.W.keepIn K (.ref f_Board_use) = true)
    (a_Board_wait : PySem.W.findIn K (.ref C_Board) "wait" = some (some (.ref f_Board_wait)))
    (i_Board_wait : PySem.W.isFn K (.ref f_Board_wait) = true)
    (l_Board_wait : K.lookup f_Board_wait = some ⟨oc_Board_wait, od_Board_wait, .func (PySem.W.fnOf "wait" "Board.wait" (defArgs s_Board_wait) (defBody s_Board_wait) (defScope s_Board_wait) .none kV_Board_wait dc_Board_wait pm_Board_wait an_Board_wait cd_Board_wait ct_Board_wait), sl_Board_wait⟩)
    (c_Board_wait : PySem.W.codeIn K cd_Board_wait "Board.wait" = true)
    (k_Board_wait : PySem.W.keepIn K (.ref f_Board_wait) = true)
    (a_Board_press : PySem.W.findIn K (.ref C_Board) "press" = some (some (.ref f_Board_press)))
    (i_Board_press : PySem.W.isFn K (.ref f_Board_press) = true)
    (l_Board_press : K.lookup f_Board_press = some ⟨oc_Board_press, od_Board_press, .func (PySem.W.fnOf "press" "Board.press" (defArgs s_Board_press) (defBody s_Board_press) (defScope s_Board_press) .none kV_Board_press dc_Board_press pm_Board_press an_Board_press cd_Board_press ct_Board_press), sl_Board_press⟩)
    (c_Board_press : PySem.W.codeIn K cd_Board_press "Board.press" = true)
    (k_Board_press : PySem.W.keepIn K (.ref f_Board_press) = true)
    (a_Board_flush : PySem.W.findIn K (.ref C_Board) "flush" = some (some (.ref f_Board_flush)))
    (i_Board_flush : PySem.W.isFn K (.ref f_Board_flush) = true)
    (l_Board_flush : K.lookup f_Board_flush = some ⟨oc_Board_flush, od_Board_flush, .func (PySem.W.fnOf "flush" "Board.flush" (defArgs s_Board_flush) (defBody s_Board_flush) (defScope s_Board_flush) .none kV_Board_flush dc_Board_flush pm_Board_flush an_Board_flush cd_Board_flush ct_Board_flush), sl_Board_flush⟩)
    (c_Board_flush : PySem.W.codeIn K cd_Board_flush "Board.flush" = true)
    (k_Board_flush : PySem.W.keepIn K (.ref f_Board_flush) = true)
    (a_Board_tell_open : PySem.W.findIn K (.ref C_Board) "tell_open" = some (some (.ref f_Board_tell_open)))
    (i_Board_tell_open : PySem.W.isFn K (.ref f_Board_tell_open) = true)
    (l_Board_tell_open : K.lookup f_Board_tell_open = some ⟨oc_Board_tell_open, od_Board_tell_open, .func (PySem.W.fnOf "tell_open" "Board.tell_open" (defArgs s_Board_tell_open) (defBody s_Board_tell_open) (defScope s_Board_tell_open) .none kV_Board_tell_open dc_Board_tell_open pm_Board_tell_open an_Board_tell_open cd_Board_tell_open ct_Board_tell_open), sl_Board_tell_open⟩)
    (c_Board_tell_open : PySem.W.codeIn K cd_Board_tell_open "Board.tell_open" = true)
    (k_Board_tell_open : PySem.W.keepIn K (.ref f_Board_tell_open) = true)
    (a_Board_lookup : PySem.W.findIn K (.ref C_Board) "lookup" = some (some (.ref f_Board_lookup)))
    (i_Board_lookup : PySem.W.isFn K (.ref f_Board_lookup) = true)
    (l_Board_lookup : K.lookup f_Board_lookup = some ⟨oc_Board_lookup, od_Board_lookup, .func (PySem.W.fnOf "lookup" "Board.lookup" (defArgs s_Board_lookup) (defBody s_Board_lookup) (defScope s_Board_lookup) .none kV_Board_lookup dc_Board_lookup pm_Board_lookup an_Board_lookup cd_Board_lookup ct_Board_lookup), sl_Board_lookup⟩)
    (c_Board_lookup : PySem.W.codeIn K cd_Board_lookup "Board.lookup" = true)
    (k_Board_lookup : PySem.W.keepIn K (.ref f_Board_lookup) = true)
    (a_Board_hints : PySem.W.findIn K (.ref C_Board) "hints" = some (some (.ref f_Board_hints)))
    (i_Board_hints : PySem.W.isFn K (.ref f_Board_hints) = true)
    (l_Board_hints : K.lookup f_Board_hints = some ⟨oc_Board_hints, od_Board_hints, .func (PySem.W.fnOf "hints" "Board.hints" (defArgs s_Board_hints) (defBody s_Board_hints) (defScope s_Board_hints) .none kV_Board_hints dc_Board_hints pm_Board_hints an_Board_hints cd_Board_hints ct_Board_hints), sl_Board_hints⟩)
    (c_Board_hints : PySem.W.codeIn K cd_Board_hints "Board.hints" = true)
    (k_Board_hints : PySem.W.keepIn K (.ref f_Board_hints) = true)
    (a_Board_hidden : PySem.W.findIn K (.ref C_Board) "hidden" = some (some (.ref f_Board_hidden)))
    (i_Board_hidden : PySem.W.isFn K (.ref f_Board_hidden) = true)
    (l_Board_hidden : K.lookup f_Board_hidden = some ⟨oc_Board_hidden, od_Board_hidden, .func (PySem.W.fnOf "hidden" "Board.hidden" (defArgs s_Board_hidden) (defBody s_Board_hidden) (defScope s_Board_hidden) .none kV_Board_hidden dc_Board_hidden pm_Board_hidden an_Board_hidden cd_Board_hidden ct_Board_hidden), sl_Board_hidden⟩)
    (c_Board_hidden : PySem.W.codeIn K cd_Board_hidden "Board.hidden" = true)
    (k_Board_hidden : PySem.W.keepIn K (.ref f_Board_hidden) = true)
    (a_Board_would : PySem.W.findIn K (.ref C_Board) "would" = some (some (.ref f_Board_would)))
    (i_Board_would : PySem.W.isFn K (.ref f_Board_would) = true)
    (l_Board_would : K.lookup f_Board_would = some ⟨oc_Board_would, od_Board_would, .func (PySem.W.fnOf "would" "Board.would" (defArgs s_Board_would) (defBody s_Board_would) (defScope s_Board_would) .none kV_Board_would dc_Board_would pm_Board_would an_Board_would cd_Board_would ct_Board_would), sl_Board_would⟩)
    (c_Board_would : PySem.W.codeIn K cd_Board_would "Board.would" = true)
    (k_Board_would : PySem.W.keepIn K (.ref f_Board_would) = true)
    (a_Board_rings : PySem.W.findIn K (.ref C_Board) "rings" = some (some (.ref f_Board_rings)))
    (i_Board_rings : PySem.W.isFn K (.ref f_Board_rings) = true)
    (l_Board_rings : K.lookup f_Board_rings = some ⟨oc_Board_rings, od_Board_rings, .func (PySem.W.fnOf "rings" "Board.rings" (defArgs s_Board_rings) (defBody s_Board_rings) (defScope s_Board_rings) .none kV_Board_rings dc_Board_rings pm_Board_rings an_Board_rings cd_Board_rings ct_Board_rings), sl_Board_rings⟩)
    (c_Board_rings : PySem.W.codeIn K cd_Board_rings "Board.rings" = true)
    (k_Board_rings : PySem.W.keepIn K (.ref f_Board_rings) = true)
    (a_counted : PySem.W.nsIn K mainGlobals "counted" = some (some (.ref f_counted)))
    (l_counted : K.lookup f_counted = some ⟨oc_counted, od_counted, .func (PySem.W.fnOf "counted" "counted" (defArgs s_counted) (defBody s_counted) (defScope s_counted) .none kV_counted dc_counted pm_counted an_counted cd_counted ct_counted), sl_counted⟩)
    (c_counted : PySem.W.codeIn K cd_counted "counted" = true)
    (k_counted : PySem.W.keepIn K (.ref f_counted) = true)
    (a_event_answer : PySem.W.nsIn K mainGlobals "event_answer" = some (some (.ref f_event_answer)))
    (l_event_answer : K.lookup f_event_answer = some ⟨oc_event_answer, od_event_answer, .func (PySem.W.fnOf "event_answer" "event_answer" (defArgs s_event_answer) (defBody s_event_answer) (defScope s_event_answer) .none kV_event_answer dc_event_answer pm_event_answer an_event_answer cd_event_answer ct_event_answer), sl_event_answer⟩)
    (c_event_answer : PySem.W.codeIn K cd_event_answer "event_answer" = true)
    (k_event_answer : PySem.W.keepIn K (.ref f_event_answer) = true)
    (a_Reader_init : PySem.W.findIn K (.ref C_Reader) "__init__" = some (some (.ref f_Reader_init)))
    (i_Reader_init : PySem.W.isFn K (.ref f_Reader_init) = true)
    (l_Reader_init : K.lookup f_Reader_init = some ⟨oc_Reader_init, od_Reader_init, .func (PySem.W.fnOf "__init__" "Reader.__init__" (defArgs s_Reader_init) (defBody s_Reader_init) (defScope s_Reader_init) .none kV_Reader_init dc_Reader_init pm_Reader_init an_Reader_init cd_Reader_init ct_Reader_init), sl_Reader_init⟩)
    (c_Reader_init : PySem.W.codeIn K cd_Reader_init "Reader.__init__" = true)
    (k_Reader_init : PySem.W.keepIn K (.ref f_Reader_init) = true)
    (a_Reader_has_more : PySem.W.findIn K (.ref C_Reader) "has_more" = some (some (.ref f_Reader_has_more)))
    (i_Reader_has_more : PySem.W.isFn K (.ref f_Reader_has_more) = true)
    (l_Reader_has_more : K.lookup f_Reader_has_more = some ⟨oc_Reader_has_more, od_Reader_has_more, .func (PySem.W.fnOf "has_more" "Reader.has_more" (defArgs s_Reader_has_more) (defBody s_Reader_has_more) (defScope s_Reader_has_more) .none kV_Reader_has_more dc_Reader_has_more pm_Reader_has_more an_Reader_has_more cd_Reader_has_more ct_Reader_has_more), sl_Reader_has_more⟩)
    (c_Reader_has_more : PySem.W.codeIn K cd_Reader_has_more "Reader.has_more" = true)
    (k_Reader_has_more : PySem.W.keepIn K (.ref f_Reader_has_more) = true)
    (a_Reader_take_number : PySem.W.findIn K (.ref C_Reader) "take_number" = some (some (.ref f_Reader_take_number)))
    (i_Reader_take_number : PySem.W.isFn K (.ref f_Reader_take_number) = true)
    (l_Reader_take_number : K.lookup f_Reader_take_number = some ⟨oc_Reader_take_number, od_Reader_take_number, .func (PySem.W.fnOf "take_number" "Reader.take_number" (defArgs s_Reader_take_number) (defBody s_Reader_take_number) (defScope s_Reader_take_number) .none kV_Reader_take_number dc_Reader_take_number pm_Reader_take_number an_Reader_take_number cd_Reader_take_number ct_Reader_take_number), sl_Reader_take_number⟩)
    (c_Reader_take_number : PySem.W.codeIn K cd_Reader_take_number "Reader.take_number" = true)
    (k_Reader_take_number : PySem.W.keepIn K (.ref f_Reader_take_number) = true)
    (a_Reader_take_row : PySem.W.findIn K (.ref C_Reader) "take_row" = some (some (.ref f_Reader_take_row)))
    (i_Reader_take_row : PySem.W.isFn K (.ref f_Reader_take_row) = true)
    (l_Reader_take_row : K.lookup f_Reader_take_row = some ⟨oc_Reader_take_row, od_Reader_take_row, .func (PySem.W.fnOf "take_row" "Reader.take_row" (defArgs s_Reader_take_row) (defBody s_Reader_take_row) (defScope s_Reader_take_row) .none kV_Reader_take_row dc_Reader_take_row pm_Reader_take_row an_Reader_take_row cd_Reader_take_row ct_Reader_take_row), sl_Reader_take_row⟩)
    (c_Reader_take_row : PySem.W.codeIn K cd_Reader_take_row "Reader.take_row" = true)
    (k_Reader_take_row : PySem.W.keepIn K (.ref f_Reader_take_row) = true)
    (a_call_map : PySem.W.nsIn K mainGlobals "call_map" = some (some (.ref f_call_map)))
    (l_call_map : K.lookup f_call_map = some ⟨oc_call_map, od_call_map, .func (PySem.W.fnOf "call_map" "call_map" (defArgs s_call_map) (defBody s_call_map) (defScope s_call_map) .none kV_call_map dc_call_map pm_call_map an_call_map cd_call_map ct_call_map), sl_call_map⟩)
    (c_call_map : PySem.W.codeIn K cd_call_map "call_map" = true)
    (k_call_map : PySem.W.keepIn K (.ref f_call_map) = true)
    (a_call_bind : PySem.W.nsIn K mainGlobals "call_bind" = some (some (.ref f_call_bind)))
    (l_call_bind : K.lookup f_call_bind = some ⟨oc_call_bind, od_call_bind, .func (PySem.W.fnOf "call_bind" "call_bind" (defArgs s_call_bind) (defBody s_call_bind) (defScope s_call_bind) .none kV_call_bind dc_call_bind pm_call_bind an_call_bind cd_call_bind ct_call_bind), sl_call_bind⟩)
    (c_call_bind : PySem.W.codeIn K cd_call_bind "call_bind" = true)
    (k_call_bind : PySem.W.keepIn K (.ref f_call_bind) = true)
    (a_call_unbind : PySem.W.nsIn K mainGlobals "call_unbind" = some (some (.ref f_call_unbind)))
    (l_call_unbind : K.lookup f_call_unbind = some ⟨oc_call_unbind, od_call_unbind, .func (PySem.W.fnOf "call_unbind" "call_unbind" (defArgs s_call_unbind) (defBody s_call_unbind) (defScope s_call_unbind) .none kV_call_unbind dc_call_unbind pm_call_unbind an_call_unbind cd_call_unbind ct_call_unbind), sl_call_unbind⟩)
    (c_call_unbind : PySem.W.codeIn K cd_call_unbind "call_unbind" = true)
    (k_call_unbind : PySem.W.keepIn K (.ref f_call_unbind) = true)
    (a_call_use : PySem.W.nsIn K mainGlobals "call_use" = some (some (.ref f_call_use)))
    (l_call_use : K.lookup f_call_use = some ⟨oc_call_use, od_call_use, .func (PySem.W.fnOf "call_use" "call_use" (defArgs s_call_use) (defBody s_call_use) (defScope s_call_use) .none kV_call_use dc_call_use pm_call_use an_call_use cd_call_use ct_call_use), sl_call_use⟩)
    (c_call_use : PySem.W.codeIn K cd_call_use "call_use" = true)
    (k_call_use : PySem.W.keepIn K (.ref f_call_use) = true)
    (a_call_wait : PySem.W.nsIn K mainGlobals "call_wait" = some (some (.ref f_call_wait)))
    (l_call_wait : K.lookup f_call_wait = some ⟨oc_call_wait, od_call_wait, .func (PySem.W.fnOf "call_wait" "call_wait" (defArgs s_call_wait) (defBody s_call_wait) (defScope s_call_wait) .none kV_call_wait dc_call_wait pm_call_wait an_call_wait cd_call_wait ct_call_wait), sl_call_wait⟩)
    (c_call_wait : PySem.W.codeIn K cd_call_wait "call_wait" = true)
    (k_call_wait : PySem.W.keepIn K (.ref f_call_wait) = true)
    (a_call_press : PySem.W.nsIn K mainGlobals "call_press" = some (some (.ref f_call_press)))
    (l_call_press : K.lookup f_call_press = some ⟨oc_call_press, od_call_press, .func (PySem.W.fnOf "call_press" "call_press" (defArgs s_call_press) (defBody s_call_press) (defScope s_call_press) .none kV_call_press dc_call_press pm_call_press an_call_press cd_call_press ct_call_press), sl_call_press⟩)
    (c_call_press : PySem.W.codeIn K cd_call_press "call_press" = true)
    (k_call_press : PySem.W.keepIn K (.ref f_call_press) = true)
    (a_call_flush : PySem.W.nsIn K mainGlobals "call_flush" = some (some (.ref f_call_flush)))
    (l_call_flush : K.lookup f_call_flush = some ⟨oc_call_flush, od_call_flush, .func (PySem.W.fnOf "call_flush" "call_flush" (defArgs s_call_flush) (defBody s_call_flush) (defScope s_call_flush) .none kV_call_flush dc_call_flush pm_call_flush an_call_flush cd_call_flush ct_call_flush), sl_call_flush⟩)
    (c_call_flush : PySem.W.codeIn K cd_call_flush "call_flush" = true)
    (k_call_flush : PySem.W.keepIn K (.ref f_call_flush) = true)
    (a_call_open : PySem.W.nsIn K mainGlobals "call_open" = some (some (.ref f_call_open)))
    (l_call_open : K.lookup f_call_open = some ⟨oc_call_open, od_call_open, .func (PySem.W.fnOf "call_open" "call_open" (defArgs s_call_open) (defBody s_call_open) (defScope s_call_open) .none kV_call_open dc_call_open pm_call_open an_call_open cd_call_open ct_call_open), sl_call_open⟩)
    (c_call_open : PySem.W.codeIn K cd_call_open "call_open" = true)
    (k_call_open : PySem.W.keepIn K (.ref f_call_open) = true)
    (a_call_lookup : PySem.W.nsIn K mainGlobals "call_lookup" = some (some (.ref f_call_lookup)))
    (l_call_lookup : K.lookup f_call_lookup = some ⟨oc_call_lookup, od_call_lookup, .func (PySem.W.fnOf "call_lookup" "call_lookup" (defArgs s_call_lookup) (defBody s_call_lookup) (defScope s_call_lookup) .none kV_call_lookup dc_call_lookup pm_call_lookup an_call_lookup cd_call_lookup ct_call_lookup), sl_call_lookup⟩)
    (c_call_lookup : PySem.W.codeIn K cd_call_lookup "call_lookup" = true)
    (k_call_lookup : PySem.W.keepIn K (.ref f_call_lookup) = true)
    (a_call_hints : PySem.W.nsIn K mainGlobals "call_hints" = some (some (.ref f_call_hints)))
    (l_call_hints : K.lookup f_call_hints = some ⟨oc_call_hints, od_call_hints, .func (PySem.W.fnOf "call_hints" "call_hints" (defArgs s_call_hints) (defBody s_call_hints) (defScope s_call_hints) .none kV_call_hints dc_call_hints pm_call_hints an_call_hints cd_call_hints ct_call_hints), sl_call_hints⟩)
    (c_call_hints : PySem.W.codeIn K cd_call_hints "call_hints" = true)
    (k_call_hints : PySem.W.keepIn K (.ref f_call_hints) = true)
    (a_call_hidden : PySem.W.nsIn K mainGlobals "call_hidden" = some (some (.ref f_call_hidden)))
    (l_call_hidden : K.lookup f_call_hidden = some ⟨oc_call_hidden, od_call_hidden, .func (PySem.W.fnOf "call_hidden" "call_hidden" (defArgs s_call_hidden) (defBody s_call_hidden) (defScope s_call_hidden) .none kV_call_hidden dc_call_hidden pm_call_hidden an_call_hidden cd_call_hidden ct_call_hidden), sl_call_hidden⟩)
    (c_call_hidden : PySem.W.codeIn K cd_call_hidden "call_hidden" = true)
    (k_call_hidden : PySem.W.keepIn K (.ref f_call_hidden) = true)
    (a_call_would : PySem.W.nsIn K mainGlobals "call_would" = some (some (.ref f_call_would)))
    (l_call_would : K.lookup f_call_would = some ⟨oc_call_would, od_call_would, .func (PySem.W.fnOf "call_would" "call_would" (defArgs s_call_would) (defBody s_call_would) (defScope s_call_would) .none kV_call_would dc_call_would pm_call_would an_call_would cd_call_would ct_call_would), sl_call_would⟩)
    (c_call_would : PySem.W.codeIn K cd_call_would "call_would" = true)
    (k_call_would : PySem.W.keepIn K (.ref f_call_would) = true)
    (a_call_rings : PySem.W.nsIn K mainGlobals "call_rings" = some (some (.ref f_call_rings)))
    (l_call_rings : K.lookup f_call_rings = some ⟨oc_call_rings, od_call_rings, .func (PySem.W.fnOf "call_rings" "call_rings" (defArgs s_call_rings) (defBody s_call_rings) (defScope s_call_rings) .none kV_call_rings dc_call_rings pm_call_rings an_call_rings cd_call_rings ct_call_rings), sl_call_rings⟩)
    (c_call_rings : PySem.W.codeIn K cd_call_rings "call_rings" = true)
    (k_call_rings : PySem.W.keepIn K (.ref f_call_rings) = true)
    (a_answers : PySem.W.nsIn K mainGlobals "answers" = some (some (.ref f_answers)))
    (l_answers : K.lookup f_answers = some ⟨oc_answers, od_answers, .func (PySem.W.fnOf "answers" "answers" (defArgs s_answers) (defBody s_answers) (defScope s_answers) .none kV_answers dc_answers pm_answers an_answers cd_answers ct_answers), sl_answers⟩)
    (c_answers : PySem.W.codeIn K cd_answers "answers" = true)
    (k_answers : PySem.W.keepIn K (.ref f_answers) = true)
    (pg_Binding : PySem.W.plainGet K C_Binding Str.empty = true)
    (hd_Binding : PySem.W.hasDictIn K C_Binding = true)
    (po_Binding : PySem.W.plainOver K C_Binding = true)
    (sa_Binding : PySem.W.findIn K (.ref C_Binding) "__setattr__" = some (some (.builtin "object.__setattr__")))
    (mk_Binding : PySem.W.makesIn K C_Binding = true)
    (kc_Binding : PySem.W.keepIn K (.ref C_Binding) = true)
    (no_Binding_at_once : PySem.W.findIn K (.ref C_Binding) "at_once" = some none)
    (no_Binding_purpose : PySem.W.findIn K (.ref C_Binding) "purpose" = some none)
    (no_Binding_details : PySem.W.findIn K (.ref C_Binding) "details" = some none)
    (no_Binding_sequence : PySem.W.findIn K (.ref C_Binding) "sequence" = some none)
    (pg_KeyMap : PySem.W.plainGet K C_KeyMap Str.empty = true)
    (hd_KeyMap : PySem.W.hasDictIn K C_KeyMap = true)
    (po_KeyMap : PySem.W.plainOver K C_KeyMap = true)
    (sa_KeyMap : PySem.W.findIn K (.ref C_KeyMap) "__setattr__" = some (some (.builtin "object.__setattr__")))
    (mk_KeyMap : PySem.W.makesIn K C_KeyMap = true)
    (kc_KeyMap : PySem.W.keepIn K (.ref C_KeyMap) = true)
    (no_KeyMap_number : PySem.W.findIn K (.ref C_KeyMap) "number" = some none)
    (no_KeyMap_shut : PySem.W.findIn K (.ref C_KeyMap) "shut" = some none)
    (no_KeyMap_bindings : PySem.W.findIn K (.ref C_KeyMap) "bindings" = some none)
    (pg_KeyStream : PySem.W.plainGet K C_KeyStream Str.empty = true)
    (hd_KeyStream : PySem.W.hasDictIn K C_KeyStream = true)
    (po_KeyStream : PySem.W.plainOver K C_KeyStream = true)
    (sa_KeyStream : PySem.W.findIn K (.ref C_KeyStream) "__setattr__" = some (some (.builtin "object.__setattr__")))
    (mk_KeyStream : PySem.W.makesIn K C_KeyStream = true)
    (kc_KeyStream : PySem.W.keepIn K (.ref C_KeyStream) = true)
    (no_KeyStream_maps : PySem.W.findIn K (.ref C_KeyStream) "maps" = some none)
    (no_KeyStream_in_use : PySem.W.findIn K (.ref C_KeyStream) "in_use" = some none)
    (no_KeyStream_open_keys : PySem.W.findIn K (.ref C_KeyStream) "open_keys" = some none)
    (no_KeyStream_digits : PySem.W.findIn K (.ref C_KeyStream) "digits" = some none)
    (no_KeyStream_to_come : PySem.W.findIn K (.ref C_KeyStream) "to_come" = some none)
    (no_KeyStream_times_put : PySem.W.findIn K (.ref C_KeyStream) "times_put" = some none)
    (no_KeyStream_events : PySem.W.findIn K (.ref C_KeyStream) "events" = some none)
    (pg_Board : PySem.W.plainGet K C_Board Str.empty = true)
    (hd_Board : PySem.W.hasDictIn K C_Board = true)
    (po_Board : PySem.W.plainOver K C_Board = true)
    (sa_Board : PySem.W.findIn K (.ref C_Board) "__setattr__" = some (some (.builtin "object.__setattr__")))
    (mk_Board : PySem.W.makesIn K C_Board = true)
    (kc_Board : PySem.W.keepIn K (.ref C_Board) = true)
    (no_Board_maps : PySem.W.findIn K (.ref C_Board) "maps" = some none)
    (no_Board_stream : PySem.W.findIn K (.ref C_Board) "stream" = some none)
    (no_Board_ticks_to_wait : PySem.W.findIn K (.ref C_Board) "ticks_to_wait" = some none)
    (pg_Reader : PySem.W.plainGet K C_Reader Str.empty = true)
    (hd_Reader : PySem.W.hasDictIn K C_Reader = true)
    (po_Reader : PySem.W.plainOver K C_Reader = true)
    (sa_Reader : PySem.W.findIn K (.ref C_Reader) "__setattr__" = some (some (.builtin "object.__setattr__")))
    (mk_Reader : PySem.W.makesIn K C_Reader = true)
    (kc_Reader : PySem.W.keepIn K (.ref C_Reader) = true)
    (no_Reader_numbers : PySem.W.findIn K (.ref C_Reader) "numbers" = some none)
    (no_Reader_place : PySem.W.findIn K (.ref C_Reader) "place" = some none)
    (v_COMMAND : PySem.W.nsIn K mainGlobals "COMMAND" = some (some (.int (0) tk_COMMAND)))
    (v_KEYS_INSTEAD : PySem.W.nsIn K mainGlobals "KEYS_INSTEAD" = some (some (.int (1) tk_KEYS_INSTEAD)))
    (v_KEYS_AS_THEY_ARE : PySem.W.nsIn K mainGlobals "KEYS_AS_THEY_ARE" = some (some (.int (2) tk_KEYS_AS_THEY_ARE)))
    (v_PUT_MAP : PySem.W.nsIn K mainGlobals "PUT_MAP" = some (some (.int (3) tk_PUT_MAP)))
    (v_TAKE_MAP : PySem.W.nsIn K mainGlobals "TAKE_MAP" = some (some (.int (4) tk_TAKE_MAP)))
    (v_EXCHANGE_MAP : PySem.W.nsIn K mainGlobals "EXCHANGE_MAP" = some (some (.int (5) tk_EXCHANGE_MAP)))
    (v_NOTHING : PySem.W.nsIn K mainGlobals "NOTHING" = some (some (.int (6) tk_NOTHING)))
    (v_MAP_COUNT : PySem.W.nsIn K mainGlobals "MAP_COUNT" = some (some (.int (8) tk_MAP_COUNT)))
    (v_HIGHEST_KEY : PySem.W.nsIn K mainGlobals "HIGHEST_KEY" = some (some (.int (255) tk_HIGHEST_KEY)))
    (v_HIGHEST_COMMAND : PySem.W.nsIn K mainGlobals "HIGHEST_COMMAND" = some (some (.int (999) tk_HIGHEST_COMMAND)))
    (v_LONGEST_SEQUENCE : PySem.W.nsIn K mainGlobals "LONGEST_SEQUENCE" = some (some (.int (4) tk_LONGEST_SEQUENCE)))
    (v_MOST_KEYS_PUT : PySem.W.nsIn K mainGlobals "MOST_KEYS_PUT" = some (some (.int (6) tk_MOST_KEYS_PUT)))
    (v_EVENT_KEY : PySem.W.nsIn K mainGlobals "EVENT_KEY" = some (some (.int (0) tk_EVENT_KEY)))
    (v_EVENT_COMMAND : PySem.W.nsIn K mainGlobals "EVENT_COMMAND" = some (some (.int (1) tk_EVENT_COMMAND)))
    (v_EVENT_RING : PySem.W.nsIn K mainGlobals "EVENT_RING" = some (some (.int (2) tk_EVENT_RING)))
    (v_EVENT_MAP : PySem.W.nsIn K mainGlobals "EVENT_MAP" = some (some (.int (3) tk_EVENT_MAP)))
    (v_EVENT_NOTHING : PySem.W.nsIn K mainGlobals "EVENT_NOTHING" = some (some (.int (4) tk_EVENT_NOTHING)))
    (v_FIRST_DIGIT : PySem.W.nsIn K mainGlobals "FIRST_DIGIT" = some (some (.int (48) tk_FIRST_DIGIT)))
    (v_LAST_DIGIT : PySem.W.nsIn K mainGlobals "LAST_DIGIT" = some (some (.int (57) tk_LAST_DIGIT)))
    (v_MOST_DIGITS : PySem.W.nsIn K mainGlobals "MOST_DIGITS" = some (some (.int (4) tk_MOST_DIGITS)))
    (v_MOST_IN_USE : PySem.W.nsIn K mainGlobals "MOST_IN_USE" = some (some (.int (6) tk_MOST_IN_USE)))
    (v_MOST_TIMES_PUT : PySem.W.nsIn K mainGlobals "MOST_TIMES_PUT" = some (some (.int (50) tk_MOST_TIMES_PUT)))
    (v_IS_BOUND : PySem.W.nsIn K mainGlobals "IS_BOUND" = some (some (.int (1) tk_IS_BOUND)))
    (v_GOES_ON : PySem.W.nsIn K mainGlobals "GOES_ON" = some (some (.int (2) tk_GOES_ON)))
    (v_NOT_AS_TOLD : PySem.W.nsIn K mainGlobals "NOT_AS_TOLD" = some (some (.int (-1) tk_NOT_AS_TOLD)))
    (v_NO_SUCH_MAP : PySem.W.nsIn K mainGlobals "NO_SUCH_MAP" = some (some (.int (-2) tk_NO_SUCH_MAP)))
    (v_MAP_IS_FULL : PySem.W.nsIn K mainGlobals "MAP_IS_FULL" = some (some (.int (-5) tk_MAP_IS_FULL)))
    (v_NO_SUCH_SEQUENCE : PySem.W.nsIn K mainGlobals "NO_SUCH_SEQUENCE" = some (some (.int (-6) tk_NO_SUCH_SEQUENCE)))
    (v_MOST_BINDINGS : PySem.W.nsIn K mainGlobals "MOST_BINDINGS" = some (some (.int (20) tk_MOST_BINDINGS)))
    (v_MOST_TICKS : PySem.W.nsIn K mainGlobals "MOST_TICKS" = some (some (.int (1000) tk_MOST_TICKS)))
    (v_MOST_KEYS_PRESSED : PySem.W.nsIn K mainGlobals "MOST_KEYS_PRESSED" = some (some (.int (20) tk_MOST_KEYS_PRESSED)))
    (v_TICKS_AT_FIRST : PySem.W.nsIn K mainGlobals "TICKS_AT_FIRST" = some (some (.int (10) tk_TICKS_AT_FIRST)))
    (a_CALLS : PySem.W.nsIn K mainGlobals "CALLS" = some (some (.ref A_CALLS)))
    (l_CALLS : K.lookup A_CALLS = some ⟨.type "tuple", od_CALLS, .seq #[.ref f_call_map, .ref f_call_bind, .ref f_call_unbind, .ref f_call_use, .ref f_call_wait, .ref f_call_press, .ref f_call_flush, .ref f_call_open, .ref f_call_lookup, .ref f_call_hints, .ref f_call_hidden, .ref f_call_would, .ref f_call_rings] n_CALLS, sl_CALLS⟩)
    (z_enumerate : PySem.W.nsIn K mainGlobals "enumerate" = some none)
    (z_len : PySem.W.nsIn K mainGlobals "len" = some none)
    (z_list : PySem.W.nsIn K mainGlobals "list" = some none)
    (z_max : PySem.W.nsIn K mainGlobals "max" = some none)
    (z_range : PySem.W.nsIn K mainGlobals "range" = some none)
    (z_sorted : PySem.W.nsIn K mainGlobals "sorted" = some none)
    (z_tuple : PySem.W.nsIn K mainGlobals "tuple" = some none) :
    Txt K mg { C_Binding := C_Binding, C_KeyMap := C_KeyMap, C_KeyStream := C_KeyStream, C_Board := C_Board, C_Reader := C_Reader, A_CALLS := A_CALLS, f_Binding_init := f_Binding_init, fd_Binding_init := PySem.W.fnOf "__init__" "Binding.__init__" (defArgs s_Binding_init) (defBody s_Binding_init) (defScope s_Binding_init) .none kV_Binding_init dc_Binding_init pm_Binding_init an_Binding_init cd_Binding_init ct_Binding_init, f_read_binding := f_read_binding, fd_read_binding := PySem.W.fnOf "read_binding" "read_binding" (defArgs s_read_binding) (defBody s_read_binding) (defScope s_read_binding) .none kV_read_binding dc_read_binding pm_read_binding an_read_binding cd_read_binding ct_read_binding, f_keys_fit := f_keys_fit, fd_keys_fit := PySem.W.fnOf "keys_fit" "keys_fit" (defArgs s_keys_fit) (defBody s_keys_fit) (defScope s_keys_fit) .none kV_keys_fit dc_keys_fit pm_keys_fit an_keys_fit cd_keys_fit ct_keys_fit, f_sequence_fits := f_sequence_fits, fd_sequence_fits := PySem.W.fnOf "sequence_fits" "sequence_fits" (defArgs s_sequence_fits) (defBody s_sequence_fits) (defScope s_sequence_fits) .none kV_sequence_fits dc_sequence_fits pm_sequence_fits an_sequence_fits cd_sequence_fits ct_sequence_fits, f_details_fit := f_details_fit, fd_details_fit := PySem.W.fnOf "details_fit" "details_fit" (defArgs s_details_fit) (defBody s_details_fit) (defScope s_details_fit) .none kV_details_fit dc_details_fit pm_details_fit an_details_fit cd_details_fit ct_details_fit, f_binding_fits := f_binding_fits, fd_binding_fits := PySem.W.fnOf "binding_fits" "binding_fits" (defArgs s_binding_fits) (defBody s_binding_fits) (defScope s_binding_fits) .none kV_binding_fits dc_binding_fits pm_binding_fits an_binding_fits cd_binding_fits ct_binding_fits, f_KeyMap_init := f_KeyMap_init, fd_KeyMap_init := PySem.W.fnOf "__init__" "KeyMap.__init__" (defArgs s_KeyMap_init) (defBody s_KeyMap_init) (defScope s_KeyMap_init) .none kV_KeyMap_init dc_KeyMap_init pm_KeyMap_init an_KeyMap_init cd_KeyMap_init ct_KeyMap_init, f_KeyMap_add_binding := f_KeyMap_add_binding, fd_KeyMap_add_binding := PySem.W.fnOf "add_binding" "KeyMap.add_binding" (defArgs s_KeyMap_add_binding) (defBody s_KeyMap_add_binding) (defScope s_KeyMap_add_binding) .none kV_KeyMap_add_binding dc_KeyMap_add_binding pm_KeyMap_add_binding an_KeyMap_add_binding cd_KeyMap_add_binding ct_KeyMap_add_binding, f_maps_in_use := f_maps_in_use, fd_maps_in_use := PySem.W.fnOf "maps_in_use" "maps_in_use" (defArgs s_maps_in_use) (defBody s_maps_in_use) (defScope s_maps_in_use) .none kV_maps_in_use dc_maps_in_use pm_maps_in_use an_maps_in_use cd_maps_in_use ct_maps_in_use, f_counting_maps := f_counting_maps, fd_counting_maps := PySem.W.fnOf "counting_maps" "counting_maps" (defArgs s_counting_maps) (defBody s_counting_maps) (defScope s_counting_maps) .none kV_counting_maps dc_counting_maps pm_counting_maps an_counting_maps cd_counting_maps ct_counting_maps, f_binding_map := f_binding_map, fd_binding_map := PySem.W.fnOf "binding_map" "binding_map" (defArgs s_binding_map) (defBody s_binding_map) (defScope s_binding_map) .none kV_binding_map dc_binding_map pm_binding_map an_binding_map cd_binding_map ct_binding_map, f_bound := f_bound, fd_bound := PySem.W.fnOf "bound" "bound" (defArgs s_bound) (defBody s_bound) (defScope s_bound) .none kV_bound dc_bound pm_bound an_bound cd_bound ct_bound, f_bound_at_once := f_bound_at_once, fd_bound_at_once := PySem.W.fnOf "bound_at_once" "bound_at_once" (defArgs s_bound_at_once) (defBody s_bound_at_once) (defScope s_bound_at_once) .none kV_bound_at_once dc_bound_at_once pm_bound_at_once an_bound_at_once cd_bound_at_once ct_bound_at_once, f_goes_on := f_goes_on, fd_goes_on := PySem.W.fnOf "goes_on" "goes_on" (defArgs s_goes_on) (defBody s_goes_on) (defScope s_goes_on) .none kV_goes_on dc_goes_on pm_goes_on an_goes_on cd_goes_on ct_goes_on, f_longest_bound := f_longest_bound, fd_longest_bound := PySem.W.fnOf "longest_bound" "longest_bound" (defArgs s_longest_bound) (defBody s_longest_bound) (defScope s_longest_bound) .none kV_longest_bound dc_longest_bound pm_longest_bound an_longest_bound cd_longest_bound ct_longest_bound, f_KeyStream_init := f_KeyStream_init, fd_KeyStream_init := PySem.W.fnOf "__init__" "KeyStream.__init__" (defArgs s_KeyStream_init) (defBody s_KeyStream_init) (defScope s_KeyStream_init) .none kV_KeyStream_init dc_KeyStream_init pm_KeyStream_init an_KeyStream_init cd_KeyStream_init ct_KeyStream_init, f_KeyStream_put_in_use := f_KeyStream_put_in_use, fd_KeyStream_put_in_use := PySem.W.fnOf "put_in_use" "KeyStream.put_in_use" (defArgs s_KeyStream_put_in_use) (defBody s_KeyStream_put_in_use) (defScope s_KeyStream_put_in_use) .none kV_KeyStream_put_in_use dc_KeyStream_put_in_use pm_KeyStream_put_in_use an_KeyStream_put_in_use cd_KeyStream_put_in_use ct_KeyStream_put_in_use, f_KeyStream_take_events := f_KeyStream_take_events, fd_KeyStream_take_events := PySem.W.fnOf "take_events" "KeyStream.take_events" (defArgs s_KeyStream_take_events) (defBody s_KeyStream_take_events) (defScope s_KeyStream_take_events) .none kV_KeyStream_take_events dc_KeyStream_take_events pm_KeyStream_take_events an_KeyStream_take_events cd_KeyStream_take_events ct_KeyStream_take_events, f_KeyStream_press_key := f_KeyStream_press_key, fd_KeyStream_press_key := PySem.W.fnOf "press_key" "KeyStream.press_key" (defArgs s_KeyStream_press_key) (defBody s_KeyStream_press_key) (defScope s_KeyStream_press_key) .none kV_KeyStream_press_key dc_KeyStream_press_key pm_KeyStream_press_key an_KeyStream_press_key cd_KeyStream_press_key ct_KeyStream_press_key, f_KeyStream_wait_long_enough := f_KeyStream_wait_long_enough, fd_KeyStream_wait_long_enough := PySem.W.fnOf "wait_long_enough" "KeyStream.wait_long_enough" (defArgs s_KeyStream_wait_long_enough) (defBody s_KeyStream_wait_long_enough) (defScope s_KeyStream_wait_long_enough) .none kV_KeyStream_wait_long_enough dc_KeyStream_wait_long_enough pm_KeyStream_wait_long_enough an_KeyStream_wait_long_enough cd_KeyStream_wait_long_enough ct_KeyStream_wait_long_enough, f_KeyStream_go_through := f_KeyStream_go_through, fd_KeyStream_go_through := PySem.W.fnOf "go_through" "KeyStream.go_through" (defArgs s_KeyStream_go_through) (defBody s_KeyStream_go_through) (defScope s_KeyStream_go_through) .none kV_KeyStream_go_through dc_KeyStream_go_through pm_KeyStream_go_through an_KeyStream_go_through cd_KeyStream_go_through ct_KeyStream_go_through, f_KeyStream_counting := f_KeyStream_counting, fd_KeyStream_counting := PySem.W.fnOf "counting" "KeyStream.counting" (defArgs s_KeyStream_counting) (defBody s_KeyStream_counting) (defScope s_KeyStream_counting) .none kV_KeyStream_counting dc_KeyStream_counting pm_KeyStream_counting an_KeyStream_counting cd_KeyStream_counting ct_KeyStream_counting, f_KeyStream_more_may_come := f_KeyStream_more_may_come, fd_KeyStream_more_may_come := PySem.W.fnOf "more_may_come" "KeyStream.more_may_come" (defArgs s_KeyStream_more_may_come) (defBody s_KeyStream_more_may_come) (defScope s_KeyStream_more_may_come) .none kV_KeyStream_more_may_come dc_KeyStream_more_may_come pm_KeyStream_more_may_come an_KeyStream_more_may_come cd_KeyStream_more_may_come ct_KeyStream_more_may_come, f_KeyStream_settle := f_KeyStream_settle, fd_KeyStream_settle := PySem.W.fnOf "settle" "KeyStream.settle" (defArgs s_KeyStream_settle) (defBody s_KeyStream_settle) (defScope s_KeyStream_settle) .none kV_KeyStream_settle dc_KeyStream_settle pm_KeyStream_settle an_KeyStream_settle cd_KeyStream_settle ct_KeyStream_settle, f_KeyStream_take_as_it_is := f_KeyStream_take_as_it_is, fd_KeyStream_take_as_it_is := PySem.W.fnOf "take_as_it_is" "KeyStream.take_as_it_is" (defArgs s_KeyStream_take_as_it_is) (defBody s_KeyStream_take_as_it_is) (defScope s_KeyStream_take_as_it_is) .none kV_KeyStream_take_as_it_is dc_KeyStream_take_as_it_is pm_KeyStream_take_as_it_is an_KeyStream_take_as_it_is cd_KeyStream_take_as_it_is ct_KeyStream_take_as_it_is, f_KeyStream_is_count_digit := f_KeyStream_is_count_digit, fd_KeyStream_is_count_digit := PySem.W.fnOf "is_count_digit" "KeyStream.is_count_digit" (defArgs s_KeyStream_is_count_digit) (defBody s_KeyStream_is_count_digit) (defScope s_KeyStream_is_count_digit) .none kV_KeyStream_is_count_digit dc_KeyStream_is_count_digit pm_KeyStream_is_count_digit an_KeyStream_is_count_digit cd_KeyStream_is_count_digit ct_KeyStream_is_count_digit, f_KeyStream_carry_out := f_KeyStream_carry_out, fd_KeyStream_carry_out := PySem.W.fnOf "carry_out" "KeyStream.carry_out" (defArgs s_KeyStream_carry_out) (defBody s_KeyStream_carry_out) (defScope s_KeyStream_carry_out) .none kV_KeyStream_carry_out dc_KeyStream_carry_out pm_KeyStream_carry_out an_KeyStream_carry_out cd_KeyStream_carry_out ct_KeyStream_carry_out, f_KeyStream_put_keys := f_KeyStream_put_keys, fd_KeyStream_put_keys := PySem.W.fnOf "put_keys" "KeyStream.put_keys" (defArgs s_KeyStream_put_keys) (defBody s_KeyStream_put_keys) (defScope s_KeyStream_put_keys) .none kV_KeyStream_put_keys dc_KeyStream_put_keys pm_KeyStream_put_keys an_KeyStream_put_keys cd_KeyStream_put_keys ct_KeyStream_put_keys, f_KeyStream_tell_keys := f_KeyStream_tell_keys, fd_KeyStream_tell_keys := PySem.W.fnOf "tell_keys" "KeyStream.tell_keys" (defArgs s_KeyStream_tell_keys) (defBody s_KeyStream_tell_keys) (defScope s_KeyStream_tell_keys) .none kV_KeyStream_tell_keys dc_KeyStream_tell_keys pm_KeyStream_tell_keys an_KeyStream_tell_keys cd_KeyStream_tell_keys ct_KeyStream_tell_keys, f_KeyStream_change_maps := f_KeyStream_change_maps, fd_KeyStream_change_maps := PySem.W.fnOf "change_maps" "KeyStream.change_maps" (defArgs s_KeyStream_change_maps) (defBody s_KeyStream_change_maps) (defScope s_KeyStream_change_maps) .none kV_KeyStream_change_maps dc_KeyStream_change_maps pm_KeyStream_change_maps an_KeyStream_change_maps cd_KeyStream_change_maps ct_KeyStream_change_maps, f_KeyStream_tell := f_KeyStream_tell, fd_KeyStream_tell := PySem.W.fnOf "tell" "KeyStream.tell" (defArgs s_KeyStream_tell) (defBody s_KeyStream_tell) (defScope s_KeyStream_tell) .none kV_KeyStream_tell dc_KeyStream_tell pm_KeyStream_tell an_KeyStream_tell cd_KeyStream_tell ct_KeyStream_tell, f_try_out := f_try_out, fd_try_out := PySem.W.fnOf "try_out" "try_out" (defArgs s_try_out) (defBody s_try_out) (defScope s_try_out) .none kV_try_out dc_try_out pm_try_out an_try_out cd_try_out ct_try_out, f_makes_ring := f_makes_ring, fd_makes_ring := PySem.W.fnOf "makes_ring" "makes_ring" (defArgs s_makes_ring) (defBody s_makes_ring) (defScope s_makes_ring) .none kV_makes_ring dc_makes_ring pm_makes_ring an_makes_ring cd_makes_ring ct_makes_ring, f_sequence_state := f_sequence_state, fd_sequence_state := PySem.W.fnOf "sequence_state" "sequence_state" (defArgs s_sequence_state) (defBody s_sequence_state) (defScope s_sequence_state) .none kV_sequence_state dc_sequence_state pm_sequence_state an_sequence_state cd_sequence_state ct_sequence_state, f_next_keys := f_next_keys, fd_next_keys := PySem.W.fnOf "next_keys" "next_keys" (defArgs s_next_keys) (defBody s_next_keys) (defScope s_next_keys) .none kV_next_keys dc_next_keys pm_next_keys an_next_keys cd_next_keys ct_next_keys, f_cut_short := f_cut_short, fd_cut_short := PySem.W.fnOf "cut_short" "cut_short" (defArgs s_cut_short) (defBody s_cut_short) (defScope s_cut_short) .none kV_cut_short dc_cut_short pm_cut_short an_cut_short cd_cut_short ct_cut_short, f_bound_by := f_bound_by, fd_bound_by := PySem.W.fnOf "bound_by" "bound_by" (defArgs s_bound_by) (defBody s_bound_by) (defScope s_bound_by) .none kV_bound_by dc_bound_by pm_bound_by an_bound_by cd_bound_by ct_bound_by, f_hidden_sequences := f_hidden_sequences, fd_hidden_sequences := PySem.W.fnOf "hidden_sequences" "hidden_sequences" (defArgs s_hidden_sequences) (defBody s_hidden_sequences) (defScope s_hidden_sequences) .none kV_hidden_sequences dc_hidden_sequences pm_hidden_sequences an_hidden_sequences cd_hidden_sequences ct_hidden_sequences, f_bound_sequences := f_bound_sequences, fd_bound_sequences := PySem.W.fnOf "bound_sequences" "bound_sequences" (defArgs s_bound_sequences) (defBody s_bound_sequences) (defScope s_bound_sequences) .none kV_bound_sequences dc_bound_sequences pm_bound_sequences an_bound_sequences cd_bound_sequences ct_bound_sequences, f_Board_init := f_Board_init, fd_Board_init := PySem.W.fnOf "__init__" "Board.__init__" (defArgs s_Board_init) (defBody s_Board_init) (defScope s_Board_init) .none kV_Board_init dc_Board_init pm_Board_init an_Board_init cd_Board_init ct_Board_init, f_Board_renew_map := f_Board_renew_map, fd_Board_renew_map := PySem.W.fnOf "renew_map" "Board.renew_map" (defArgs s_Board_renew_map) (defBody s_Board_renew_map) (defScope s_Board_renew_map) .none kV_Board_renew_map dc_Board_renew_map pm_Board_renew_map an_Board_renew_map cd_Board_renew_map ct_Board_renew_map, f_Board_bind := f_Board_bind, fd_Board_bind := PySem.W.fnOf "bind" "Board.bind" (defArgs s_Board_bind) (defBody s_Board_bind) (defScope s_Board_bind) .none kV_Board_bind dc_Board_bind pm_Board_bind an_Board_bind cd_Board_bind ct_Board_bind, f_Board_unbind := f_Board_unbind, fd_Board_unbind := PySem.W.fnOf "unbind" "Board.unbind" (defArgs s_Board_unbind) (defBody s_Board_unbind) (defScope s_Board_unbind) .none kV_Board_unbind dc_Board_unbind pm_Board_unbind an_Board_unbind cd_Board_unbind ct_Board_unbind, f_Board_use := f_Board_use, fd_Board_use := PySem.W.fnOf "use" "Board.use" (defArgs s_Board_use) (defBody s_Board_use) (defScope s_Board_use) .none kV_Board_use dc_Board_use pm_Board_use an_Board_use cd_Board_use ct_Board_use, f_Board_wait := f_Board_wait, fd_Board_wait := PySem.W.fnOf "wait" "Board.wait" (defArgs s_Board_wait) (defBody s_Board_wait) (defScope s_Board_wait) .none kV_Board_wait dc_Board_wait pm_Board_wait an_Board_wait cd_Board_wait ct_Board_wait, f_Board_press := f_Board_press, fd_Board_press := PySem.W.fnOf "press" "Board.press" (defArgs s_Board_press) (defBody s_Board_press) (defScope s_Board_press) .none kV_Board_press dc_Board_press pm_Board_press an_Board_press cd_Board_press ct_Board_press, f_Board_flush := f_Board_flush, fd_Board_flush := PySem.W.fnOf "flush" "Board.flush" (defArgs s_Board_flush) (defBody s_Board_flush) (defScope s_Board_flush) .none kV_Board_flush dc_Board_flush pm_Board_flush an_Board_flush cd_Board_flush ct_Board_flush, f_Board_tell_open := f_Board_tell_open, fd_Board_tell_open := PySem.W.fnOf "tell_open" "Board.tell_open" (defArgs s_Board_tell_open) (defBody s_Board_tell_open) (defScope s_Board_tell_open) .none kV_Board_tell_open dc_Board_tell_open pm_Board_tell_open an_Board_tell_open cd_Board_tell_open ct_Board_tell_open, f_Board_lookup := f_Board_lookup, fd_Board_lookup := PySem.W.fnOf "lookup" "Board.lookup" (defArgs s_Board_lookup) (defBody s_Board_lookup) (defScope s_Board_lookup) .none kV_Board_lookup dc_Board_lookup pm_Board_lookup an_Board_lookup cd_Board_lookup ct_Board_lookup, f_Board_hints := f_Board_hints, fd_Board_hints := PySem.W.fnOf "hints" "Board.hints" (defArgs s_Board_hints) (defBody s_Board_hints) (defScope s_Board_hints) .none kV_Board_hints dc_Board_hints pm_Board_hints an_Board_hints cd_Board_hints ct_Board_hints, f_Board_hidden := f_Board_hidden, fd_Board_hidden := PySem.W.fnOf "hidden" "Board.hidden" (defArgs s_Board_hidden) (defBody s_Board_hidden) (defScope s_Board_hidden) .none kV_Board_hidden dc_Board_hidden pm_Board_hidden an_Board_hidden cd_Board_hidden ct_Board_hidden, f_Board_would := f_Board_would, fd_Board_would := PySem.W.fnOf "would" "Board.would" (defArgs s_Board_would) (defBody s_Board_would) (defScope s_Board_would) .none kV_Board_would dc_Board_would pm_Board_would an_Board_would cd_Board_would ct_Board_would, f_Board_rings := f_Board_rings, fd_Board_rings := PySem.W.fnOf "rings" "Board.rings" (defArgs s_Board_rings) (defBody s_Board_rings) (defScope s_Board_rings) .none kV_Board_rings dc_Board_rings pm_Board_rings an_Board_rings cd_Board_rings ct_Board_rings, f_counted := f_counted, fd_counted := PySem.W.fnOf "counted" "counted" (defArgs s_counted) (defBody s_counted) (defScope s_counted) .none kV_counted dc_counted pm_counted an_counted cd_counted ct_counted, f_event_answer := f_event_answer, fd_event_answer := PySem.W.fnOf "event_answer" "event_answer" (defArgs s_event_answer) (defBody s_event_answer) (defScope s_event_answer) .none kV_event_answer dc_event_answer pm_event_answer an_event_answer cd_event_answer ct_event_answer, f_Reader_init := f_Reader_init, fd_Reader_init := PySem.W.fnOf "__init__" "Reader.__init__" (defArgs s_Reader_init) (defBody s_Reader_init) (defScope s_Reader_init) .none kV_Reader_init dc_Reader_init pm_Reader_init an_Reader_init cd_Reader_init ct_Reader_init, f_Reader_has_more := f_Reader_has_more, fd_Reader_has_more := PySem.W.fnOf "has_more" "Reader.has_more" (defArgs s_Reader_has_more) (defBody s_Reader_has_more) (defScope s_Reader_has_more) .none kV_Reader_has_more dc_Reader_has_more pm_Reader_has_more an_Reader_has_more cd_Reader_has_more ct_Reader_has_more, f_Reader_take_number := f_Reader_take_number, fd_Reader_take_number := PySem.W.fnOf "take_number" "Reader.take_number" (defArgs s_Reader_take_number) (defBody s_Reader_take_number) (defScope s_Reader_take_number) .none kV_Reader_take_number dc_Reader_take_number pm_Reader_take_number an_Reader_take_number cd_Reader_take_number ct_Reader_take_number, f_Reader_take_row := f_Reader_take_row, fd_Reader_take_row := PySem.W.fnOf "take_row" "Reader.take_row" (defArgs s_Reader_take_row) (defBody s_Reader_take_row) (defScope s_Reader_take_row) .none kV_Reader_take_row dc_Reader_take_row pm_Reader_take_row an_Reader_take_row cd_Reader_take_row ct_Reader_take_row, f_call_map := f_call_map, fd_call_map := PySem.W.fnOf "call_map" "call_map" (defArgs s_call_map) (defBody s_call_map) (defScope s_call_map) .none kV_call_map dc_call_map pm_call_map an_call_map cd_call_map ct_call_map, f_call_bind := f_call_bind, fd_call_bind := PySem.W.fnOf "call_bind" "call_bind" (defArgs s_call_bind) (defBody s_call_bind) (defScope s_call_bind) .none kV_call_bind dc_call_bind pm_call_bind an_call_bind cd_call_bind ct_call_bind, f_call_unbind := f_call_unbind, fd_call_unbind := PySem.W.fnOf "call_unbind" "call_unbind" (defArgs s_call_unbind) (defBody s_call_unbind) (defScope s_call_unbind) .none kV_call_unbind dc_call_unbind pm_call_unbind an_call_unbind cd_call_unbind ct_call_unbind, f_call_use := f_call_use, fd_call_use := PySem.W.fnOf "call_use" "call_use" (defArgs s_call_use) (defBody s_call_use) (defScope s_call_use) .none kV_call_use dc_call_use pm_call_use an_call_use cd_call_use ct_call_use, f_call_wait := f_call_wait, fd_call_wait := PySem.W.fnOf "call_wait" "call_wait" (defArgs s_call_wait) (defBody s_call_wait) (defScope s_call_wait) .none kV_call_wait dc_call_wait pm_call_wait an_call_wait cd_call_wait ct_call_wait, f_call_press := f_call_press, fd_call_press := PySem.W.fnOf "call_press" "call_press" (defArgs s_call_press) (defBody s_call_press) (defScope s_call_press) .none kV_call_press dc_call_press pm_call_press an_call_press cd_call_press ct_call_press, f_call_flush := f_call_flush, fd_call_flush := PySem.W.fnOf "call_flush" "call_flush" (defArgs s_call_flush) (defBody s_call_flush) (defScope s_call_flush) .none kV_call_flush dc_call_flush pm_call_flush an_call_flush cd_call_flush ct_call_flush, f_call_open := f_call_open, fd_call_open := PySem.W.fnOf "call_open" "call_open" (defArgs s_call_open) (defBody s_call_open) (defScope s_call_open) .none kV_call_open dc_call_open pm_call_open an_call_open cd_call_open ct_call_open, f_call_lookup := f_call_lookup, fd_call_lookup := PySem.W.fnOf "call_lookup" "call_lookup" (defArgs s_call_lookup) (defBody s_call_lookup) (defScope s_call_lookup) .none kV_call_lookup dc_call_lookup pm_call_lookup an_call_lookup cd_call_lookup ct_call_lookup, f_call_hints := f_call_hints, fd_call_hints := PySem.W.fnOf "call_hints" "call_hints" (defArgs s_call_hints) (defBody s_call_hints) (defScope s_call_hints) .none kV_call_hints dc_call_hints pm_call_hints an_call_hints cd_call_hints ct_call_hints, f_call_hidden := f_call_hidden, fd_call_hidden := PySem.W.fnOf "call_hidden" "call_hidden" (defArgs s_call_hidden) (defBody s_call_hidden) (defScope s_call_hidden) .none kV_call_hidden dc_call_hidden pm_call_hidden an_call_hidden cd_call_hidden ct_call_hidden, f_call_would := f_call_would, fd_call_would := PySem.W.fnOf "call_would" "call_would" (defArgs s_call_would) (defBody s_call_would) (defScope s_call_would) .none kV_call_would dc_call_would pm_call_would an_call_would cd_call_would ct_call_would, f_call_rings := f_call_rings, fd_call_rings := PySem.W.fnOf "call_rings" "call_rings" (defArgs s_call_rings) (defBody s_call_rings) (defScope s_call_rings) .none kV_call_rings dc_call_rings pm_call_rings an_call_rings cd_call_rings ct_call_rings, f_answers := f_answers, fd_answers := PySem.W.fnOf "answers" "answers" (defArgs s_answers) (defBody s_answers) (defScope s_answers) .none kV_answers dc_answers pm_answers an_answers cd_answers ct_answers } := {
  c_Binding := ⟨pg_Binding, hd_Binding, po_Binding, sa_Binding⟩
  g_Binding := PySem.W.mg_of X G a_Binding
  mk_Binding := ⟨mk_Binding, a_Binding_init, i_Binding_init, kc_Binding⟩
  no_Binding_at_once := no_Binding_at_once
  no_Binding_purpose := no_Binding_purpose
  no_Binding_details := no_Binding_details
  no_Binding_sequence := no_Binding_sequence
  c_KeyMap := ⟨pg_KeyMap, hd_KeyMap, po_KeyMap, sa_KeyMap⟩
  g_KeyMap := PySem.W.mg_of X G a_KeyMap
  mk_KeyMap := ⟨mk_KeyMap, a_KeyMap_init, i_KeyMap_init, kc_KeyMap⟩
  no_KeyMap_number := no_KeyMap_number
  no_KeyMap_shut := no_KeyMap_shut
  no_KeyMap_bindings := no_KeyMap_bindings
  c_KeyStream := ⟨pg_KeyStream, hd_KeyStream, po_KeyStream, sa_KeyStream⟩
  g_KeyStream := PySem.W.mg_of X G a_KeyStream
  mk_KeyStream := ⟨mk_KeyStream, a_KeyStream_init, i_KeyStream_init, kc_KeyStream⟩
  no_KeyStream_maps := no_KeyStream_maps
  no_KeyStream_in_use := no_KeyStream_in_use
  no_KeyStream_open_keys := no_KeyStream_open_keys
  no_KeyStream_digits := no_KeyStream_digits
  no_KeyStream_to_come := no_KeyStream_to_come
  no_KeyStream_times_put := no_KeyStream_times_put
  no_KeyStream_events := no_KeyStream_events
  c_Board := ⟨pg_Board, hd_Board, po_Board, sa_Board⟩
  g_Board := PySem.W.mg_of X G a_Board
  mk_Board := ⟨mk_Board, a_Board_init, i_Board_init, kc_Board⟩
  no_Board_maps := no_Board_maps
  no_Board_stream := no_Board_stream
  no_Board_ticks_to_wait := no_Board_ticks_to_wait
  c_Reader := ⟨pg_Reader, hd_Reader, po_Reader, sa_Reader⟩
  g_Reader := PySem.W.mg_of X G a_Reader
  mk_Reader := ⟨mk_Reader, a_Reader_init, i_Reader_init, kc_Reader⟩
  no_Reader_numbers := no_Reader_numbers
  no_Reader_place := no_Reader_place
  k_COMMAND := ⟨_, PySem.W.mg_of X G v_COMMAND⟩
  k_KEYS_INSTEAD := ⟨_, PySem.W.mg_of X G v_KEYS_INSTEAD⟩
  k_KEYS_AS_THEY_ARE := ⟨_, PySem.W.mg_of X G v_KEYS_AS_THEY_ARE⟩
  k_PUT_MAP := ⟨_, PySem.W.mg_of X G v_PUT_MAP⟩
  k_TAKE_MAP := ⟨_, PySem.W.mg_of X G v_TAKE_MAP⟩
  k_EXCHANGE_MAP := ⟨_, PySem.W.mg_of X G v_EXCHANGE_MAP⟩
  k_NOTHING := ⟨_, PySem.W.mg_of X G v_NOTHING⟩
  k_MAP_COUNT := ⟨_, PySem.W.mg_of X G v_MAP_COUNT⟩
  k_HIGHEST_KEY := ⟨_, PySem.W.mg_of X G v_HIGHEST_KEY⟩
  k_HIGHEST_COMMAND := ⟨_, PySem.W.mg_of X G v_HIGHEST_COMMAND⟩
  k_LONGEST_SEQUENCE := ⟨_, PySem.W.mg_of X G v_LONGEST_SEQUENCE⟩
  k_MOST_KEYS_PUT := ⟨_, PySem.W.mg_of X G v_MOST_KEYS_PUT⟩
  k_EVENT_KEY := ⟨_, PySem.W.mg_of X G v_EVENT_KEY⟩
  k_EVENT_COMMAND := ⟨_, PySem.W.mg_of X G v_EVENT_COMMAND⟩
  k_EVENT_RING := ⟨_, PySem.W.mg_of X G v_EVENT_RING⟩
  k_EVENT_MAP := ⟨_, PySem.W.mg_of X G v_EVENT_MAP⟩
  k_EVENT_NOTHING := ⟨_, PySem.W.mg_of X G v_EVENT_NOTHING⟩
  k_FIRST_DIGIT := ⟨_, PySem.W.mg_of X G v_FIRST_DIGIT⟩
  k_LAST_DIGIT := ⟨_, PySem.W.mg_of X G v_LAST_DIGIT⟩
  k_MOST_DIGITS := ⟨_, PySem.W.mg_of X G v_MOST_DIGITS⟩
  k_MOST_IN_USE := ⟨_, PySem.W.mg_of X G v_MOST_IN_USE⟩
  k_MOST_TIMES_PUT := ⟨_, PySem.W.mg_of X G v_MOST_TIMES_PUT⟩
  k_IS_BOUND := ⟨_, PySem.W.mg_of X G v_IS_BOUND⟩
  k_GOES_ON := ⟨_, PySem.W.mg_of X G v_GOES_ON⟩
  k_NOT_AS_TOLD := ⟨_, PySem.W.mg_of X G v_NOT_AS_TOLD⟩
  k_NO_SUCH_MAP := ⟨_, PySem.W.mg_of X G v_NO_SUCH_MAP⟩
  k_MAP_IS_FULL := ⟨_, PySem.W.mg_of X G v_MAP_IS_FULL⟩
  k_NO_SUCH_SEQUENCE := ⟨_, PySem.W.mg_of X G v_NO_SUCH_SEQUENCE⟩
  k_MOST_BINDINGS := ⟨_, PySem.W.mg_of X G v_MOST_BINDINGS⟩
  k_MOST_TICKS := ⟨_, PySem.W.mg_of X G v_MOST_TICKS⟩
  k_MOST_KEYS_PRESSED := ⟨_, PySem.W.mg_of X G v_MOST_KEYS_PRESSED⟩
  k_TICKS_AT_FIRST := ⟨_, PySem.W.mg_of X G v_TICKS_AT_FIRST⟩
  g_CALLS := PySem.W.mg_of X G a_CALLS
  t_CALLS := fun _ => .inr ⟨_, _, _, l_CALLS, rfl, rfl, (by show 13 ≤ sizeLine; decide), .cons rfl (.cons rfl (.cons rfl (.cons rfl (.cons rfl (.cons rfl (.cons rfl (.cons rfl (.cons rfl (.cons rfl (.cons rfl (.cons rfl (.cons rfl (.nil)))))))))))))⟩
  n_enumerate := PySem.W.mg_none_of X G z_enumerate
  n_len := PySem.W.mg_none_of X G z_len
  n_list := PySem.W.mg_none_of X G z_list
  n_max := PySem.W.mg_none_of X G z_max
  n_range := PySem.W.mg_none_of X G z_range
  n_sorted := PySem.W.mg_none_of X G z_sorted
  n_tuple := PySem.W.mg_none_of X G z_tuple
  F_Binding_init := fun_mk (st := s_Binding_init) l_Binding_init c_Binding_init k_Binding_init
  b_Binding_init := (fun_mk (st := s_Binding_init) l_Binding_init c_Binding_init k_Binding_init).binds (ps := ["self", "at_once", "purpose", "details", "sequence"]) fun _ _ _ _ _ _ us hl => match us, hl with | [_, _, _, _, _], _ => rfl
  F_read_binding := fun_mk (st := s_read_binding) l_read_binding c_read_binding k_read_binding
  b_read_binding := (fun_mk (st := s_read_binding) l_read_binding c_read_binding k_read_binding).binds (ps := ["at_once", "row"]) fun _ _ _ _ _ _ us hl => match us, hl with | [_, _], _ => rfl
  g_read_binding := PySem.W.mg_of X G a_read_binding
  F_keys_fit := fun_mk (st := s_keys_fit) l_keys_fit c_keys_fit k_keys_fit
  b_keys_fit := (fun_mk (st := s_keys_fit) l_keys_fit c_keys_fit k_keys_fit).binds (ps := ["keys", "fewest", "most"]) fun _ _ _ _ _ _ us hl => match us, hl with | [_, _, _], _ => rfl
  g_keys_fit := PySem.W.mg_of X G a_keys_fit
  F_sequence_fits := fun_mk (st := s_sequence_fits) l_sequence_fits c_sequence_fits k_sequence_fits
  b_sequence_fits := (fun_mk (st := s_sequence_fits) l_sequence_fits c_sequence_fits k_sequence_fits).binds (ps := ["sequence"]) fun _ _ _ _ _ _ us hl => match us, hl with | [_], _ => rfl
  g_sequence_fits := PySem.W.mg_of X G a_sequence_fits
  F_details_fit := fun_mk (st := s_details_fit) l_details_fit c_details_fit k_details_fit
  b_details_fit := (fun_mk (st := s_details_fit) l_details_fit c_details_fit k_details_fit).binds (ps := ["purpose", "details"]) fun _ _ _ _ _ _ us hl => match us, hl with | [_, _], _ => rfl
  g_details_fit := PySem.W.mg_of X G a_details_fit
  F_binding_fits := fun_mk (st := s_binding_fits) l_binding_fits c_binding_fits k_binding_fits
  b_binding_fits := (fun_mk (st := s_binding_fits) l_binding_fits c_binding_fits k_binding_fits).binds (ps := ["binding"]) fun _ _ _ _ _ _ us hl => match us, hl with | [_], _ => rfl
  g_binding_fits := PySem.W.mg_of X G a_binding_fits
  F_KeyMap_init := fun_mk (st := s_KeyMap_init) l_KeyMap_init c_KeyMap_init k_KeyMap_init
  b_KeyMap_init := (fun_mk (st := s_KeyMap_init) l_KeyMap_init c_KeyMap_init k_KeyMap_init).binds (ps := ["self", "number", "shut"]) fun _ _ _ _ _ _ us hl => match us, hl with | [_, _, _], _ => rfl
  F_KeyMap_add_binding := fun_mk (st := s_KeyMap_add_binding) l_KeyMap_add_binding c_KeyMap_add_binding k_KeyMap_add_binding
  b_KeyMap_add_binding := (fun_mk (st := s_KeyMap_add_binding) l_KeyMap_add_binding c_KeyMap_add_binding k_KeyMap_add_binding).binds (ps := ["self", "binding"]) fun _ _ _ _ _ _ us hl => match us, hl with | [_, _], _ => rfl
  m_KeyMap_add_binding := ⟨a_KeyMap_add_binding, i_KeyMap_add_binding, k_KeyMap_add_binding⟩
  F_maps_in_use := fun_mk (st := s_maps_in_use) l_maps_in_use c_maps_in_use k_maps_in_use
  b_maps_in_use := (fun_mk (st := s_maps_in_use) l_maps_in_use c_maps_in_use k_maps_in_use).binds (ps := ["maps", "in_use"]) fun _ _ _ _ _ _ us hl => match us, hl with | [_, _], _ => rfl
  g_maps_in_use := PySem.W.mg_of X G a_maps_in_use
  F_counting_maps := fun_mk (st := s_counting_maps) l_counting_maps c_counting_maps k_counting_maps
  b_counting_maps := (fun_mk (st := s_counting_maps) l_counting_maps c_counting_maps k_counting_maps).binds (ps := ["maps", "in_use"]) fun _ _ _ _ _ _ us hl => match us, hl with | [_, _], _ => rfl
  g_counting_maps := PySem.W.mg_of X G a_counting_maps
  F_binding_map := fun_mk (st := s_binding_map) l_binding_map c_binding_map k_binding_map
  b_binding_map := (fun_mk (st := s_binding_map) l_binding_map c_binding_map k_binding_map).binds (ps := ["counting", "sequence"]) fun _ _ _ _ _ _ us hl => match us, hl with | [_, _], _ => rfl
  g_binding_map := PySem.W.mg_of X G a_binding_map
  F_bound := fun_mk (st := s_bound) l_bound c_bound k_bound
  b_bound := (fun_mk (st := s_bound) l_bound c_bound k_bound).binds (ps := ["counting", "sequence"]) fun _ _ _ _ _ _ us hl => match us, hl with | [_, _], _ => rfl
  g_bound := PySem.W.mg_of X G a_bound
  F_bound_at_once := fun_mk (st := s_bound_at_once) l_bound_at_once c_bound_at_once k_bound_at_once
  b_bound_at_once := (fun_mk (st := s_bound_at_once) l_bound_at_once c_bound_at_once k_bound_at_once).binds (ps := ["counting", "sequence"]) fun _ _ _ _ _ _ us hl => match us, hl with | [_, _], _ => rfl
  g_bound_at_once := PySem.W.mg_of X G a_bound_at_once
  F_goes_on := fun_mk (st := s_goes_on) l_goes_on c_goes_on k_goes_on
  b_goes_on := (fun_mk (st := s_goes_on) l_goes_on c_goes_on k_goes_on).binds (ps := ["counting", "sequence"]) fun _ _ _ _ _ _ us hl => match us, hl with | [_, _], _ => rfl
  g_goes_on := PySem.W.mg_of X G a_goes_on
  F_longest_bound := fun_mk (st := s_longest_bound) l_longest_bound c_longest_bound k_longest_bound
  b_longest_bound := (fun_mk (st := s_longest_bound) l_longest_bound c_longest_bound k_longest_bound).binds (ps := ["counting", "keys"]) fun _ _ _ _ _ _ us hl => match us, hl with | [_, _], _ => rfl
  g_longest_bound := PySem.W.mg_of X G a_longest_bound
  F_KeyStream_init := fun_mk (st := s_KeyStream_init) l_KeyStream_init c_KeyStream_init k_KeyStream_init
  b_KeyStream_init := (fun_mk (st := s_KeyStream_init) l_KeyStream_init c_KeyStream_init k_KeyStream_init).binds (ps := ["self", "maps", "in_use", "open_keys", "digits"]) fun _ _ _ _ _ _ us hl => match us, hl with | [_, _, _, _, _], _ => rfl
  F_KeyStream_put_in_use := fun_mk (st := s_KeyStream_put_in_use) l_KeyStream_put_in_use c_KeyStream_put_in_use k_KeyStream_put_in_use
  b_KeyStream_put_in_use := (fun_mk (st := s_KeyStream_put_in_use) l_KeyStream_put_in_use c_KeyStream_put_in_use k_KeyStream_put_in_use).binds (ps := ["self", "numbers"]) fun _ _ _ _ _ _ us hl => match us, hl with | [_, _], _ => rfl
  m_KeyStream_put_in_use := ⟨a_KeyStream_put_in_use, i_KeyStream_put_in_use, k_KeyStream_put_in_use⟩
  F_KeyStream_take_events := fun_mk (st := s_KeyStream_take_events) l_KeyStream_take_events c_KeyStream_take_events k_KeyStream_take_events
  b_KeyStream_take_events := (fun_mk (st := s_KeyStream_take_events) l_KeyStream_take_events c_KeyStream_take_events k_KeyStream_take_events).binds (ps := ["self"]) fun _ _ _ _ _ _ us hl => match us, hl with | [_], _ => rfl
  m_KeyStream_take_events := ⟨a_KeyStream_take_events, i_KeyStream_take_events, k_KeyStream_take_events⟩
  F_KeyStream_press_key := fun_mk (st := s_KeyStream_press_key) l_KeyStream_press_key c_KeyStream_press_key k_KeyStream_press_key
  b_KeyStream_press_key := (fun_mk (st := s_KeyStream_press_key) l_KeyStream_press_key c_KeyStream_press_key k_KeyStream_press_key).binds (ps := ["self", "key"]) fun _ _ _ _ _ _ us hl => match us, hl with | [_, _], _ => rfl
  m_KeyStream_press_key := ⟨a_KeyStream_press_key, i_KeyStream_press_key, k_KeyStream_press_key⟩
  F_KeyStream_wait_long_enough := fun_mk (st := s_KeyStream_wait_long_enough) l_KeyStream_wait_long_enough c_KeyStream_wait_long_enough k_KeyStream_wait_long_enough
  b_KeyStream_wait_long_enough := (fun_mk (st := s_KeyStream_wait_long_enough) l_KeyStream_wait_long_enough c_KeyStream_wait_long_enough k_KeyStream_wait_long_enough).binds (ps := ["self"]) fun _ _ _ _ _ _ us hl => match us, hl with | [_], _ => rfl
  m_KeyStream_wait_long_enough := ⟨a_KeyStream_wait_long_enough, i_KeyStream_wait_long_enough, k_KeyStream_wait_long_enough⟩
  F_KeyStream_go_through := fun_mk (st := s_KeyStream_go_through) l_KeyStream_go_through c_KeyStream_go_through k_KeyStream_go_through
  b_KeyStream_go_through := (fun_mk (st := s_KeyStream_go_through) l_KeyStream_go_through c_KeyStream_go_through k_KeyStream_go_through).binds (ps := ["self"]) fun _ _ _ _ _ _ us hl => match us, hl with | [_], _ => rfl
  m_KeyStream_go_through := ⟨a_KeyStream_go_through, i_KeyStream_go_through, k_KeyStream_go_through⟩
  F_KeyStream_counting := fun_mk (st := s_KeyStream_counting) l_KeyStream_counting c_KeyStream_counting k_KeyStream_counting
  b_KeyStream_counting := (fun_mk (st := s_KeyStream_counting) l_KeyStream_counting c_KeyStream_counting k_KeyStream_counting).binds (ps := ["self"]) fun _ _ _ _ _ _ us hl => match us, hl with | [_], _ => rfl
  m_KeyStream_counting := ⟨a_KeyStream_counting, i_KeyStream_counting, k_KeyStream_counting⟩
  F_KeyStream_more_may_come := fun_mk (st := s_KeyStream_more_may_come) l_KeyStream_more_may_come c_KeyStream_more_may_come k_KeyStream_more_may_come
  b_KeyStream_more_may_come := (fun_mk (st := s_KeyStream_more_may_come) l_KeyStream_more_may_come c_KeyStream_more_may_come k_KeyStream_more_may_come).binds (ps := ["self"]) fun _ _ _ _ _ _ us hl => match us, hl with | [_], _ => rfl
  m_KeyStream_more_may_come := ⟨a_KeyStream_more_may_come, i_KeyStream_more_may_come, k_KeyStream_more_may_come⟩
  F_KeyStream_settle := fun_mk (st := s_KeyStream_settle) l_KeyStream_settle c_KeyStream_settle k_KeyStream_settle
  b_KeyStream_settle := (fun_mk (st := s_KeyStream_settle) l_KeyStream_settle c_KeyStream_settle k_KeyStream_settle).binds (ps := ["self"]) fun _ _ _ _ _ _ us hl => match us, hl with | [_], _ => rfl
  m_KeyStream_settle := ⟨a_KeyStream_settle, i_KeyStream_settle, k_KeyStream_settle⟩
  F_KeyStream_take_as_it_is := fun_mk (st := s_KeyStream_take_as_it_is) l_KeyStream_take_as_it_is c_KeyStream_take_as_it_is k_KeyStream_take_as_it_is
  b_KeyStream_take_as_it_is := (fun_mk (st := s_KeyStream_take_as_it_is) l_KeyStream_take_as_it_is c_KeyStream_take_as_it_is k_KeyStream_take_as_it_is).binds (ps := ["self", "key"]) fun _ _ _ _ _ _ us hl => match us, hl with | [_, _], _ => rfl
  m_KeyStream_take_as_it_is := ⟨a_KeyStream_take_as_it_is, i_KeyStream_take_as_it_is, k_KeyStream_take_as_it_is⟩
  F_KeyStream_is_count_digit := fun_mk (st := s_KeyStream_is_count_digit) l_KeyStream_is_count_digit c_KeyStream_is_count_digit k_KeyStream_is_count_digit
  b_KeyStream_is_count_digit := (fun_mk (st := s_KeyStream_is_count_digit) l_KeyStream_is_count_digit c_KeyStream_is_count_digit k_KeyStream_is_count_digit).binds (ps := ["self", "key"]) fun _ _ _ _ _ _ us hl => match us, hl with | [_, _], _ => rfl
  m_KeyStream_is_count_digit := ⟨a_KeyStream_is_count_digit, i_KeyStream_is_count_digit, k_KeyStream_is_count_digit⟩
  F_KeyStream_carry_out := fun_mk (st := s_KeyStream_carry_out) l_KeyStream_carry_out c_KeyStream_carry_out k_KeyStream_carry_out
  b_KeyStream_carry_out := (fun_mk (st := s_KeyStream_carry_out) l_KeyStream_carry_out c_KeyStream_carry_out k_KeyStream_carry_out).binds (ps := ["self", "binding", "used"]) fun _ _ _ _ _ _ us hl => match us, hl with | [_, _, _], _ => rfl
  m_KeyStream_carry_out := ⟨a_KeyStream_carry_out, i_KeyStream_carry_out, k_KeyStream_carry_out⟩
  F_KeyStream_put_keys := fun_mk (st := s_KeyStream_put_keys) l_KeyStream_put_keys c_KeyStream_put_keys k_KeyStream_put_keys
  b_KeyStream_put_keys := (fun_mk (st := s_KeyStream_put_keys) l_KeyStream_put_keys c_KeyStream_put_keys k_KeyStream_put_keys).binds (ps := ["self", "keys", "used"]) fun _ _ _ _ _ _ us hl => match us, hl with | [_, _, _], _ => rfl
  m_KeyStream_put_keys := ⟨a_KeyStream_put_keys, i_KeyStream_put_keys, k_KeyStream_put_keys⟩
  F_KeyStream_tell_keys := fun_mk (st := s_KeyStream_tell_keys) l_KeyStream_tell_keys c_KeyStream_tell_keys k_KeyStream_tell_keys
  b_KeyStream_tell_keys := (fun_mk (st := s_KeyStream_tell_keys) l_KeyStream_tell_keys c_KeyStream_tell_keys k_KeyStream_tell_keys).binds (ps := ["self", "keys", "used"]) fun _ _ _ _ _ _ us hl => match us, hl with | [_, _, _], _ => rfl
  m_KeyStream_tell_keys := ⟨a_KeyStream_tell_keys, i_KeyStream_tell_keys, k_KeyStream_tell_keys⟩
  F_KeyStream_change_maps := fun_mk (st := s_KeyStream_change_maps) l_KeyStream_change_maps c_KeyStream_change_maps k_KeyStream_change_maps
  b_KeyStream_change_maps := (fun_mk (st := s_KeyStream_change_maps) l_KeyStream_change_maps c_KeyStream_change_maps k_KeyStream_change_maps).binds (ps := ["self", "binding"]) fun _ _ _ _ _ _ us hl => match us, hl with | [_, _], _ => rfl
  m_KeyStream_change_maps := ⟨a_KeyStream_change_maps, i_KeyStream_change_maps, k_KeyStream_change_maps⟩
  F_KeyStream_tell := fun_mk (st := s_KeyStream_tell) l_KeyStream_tell c_KeyStream_tell k_KeyStream_tell
  b_KeyStream_tell := (fun_mk (st := s_KeyStream_tell) l_KeyStream_tell c_KeyStream_tell k_KeyStream_tell).binds (ps := ["self", "kind", "number", "used"]) fun _ _ _ _ _ _ us hl => match us, hl with | [_, _, _, _], _ => rfl
  m_KeyStream_tell := ⟨a_KeyStream_tell, i_KeyStream_tell, k_KeyStream_tell⟩
  F_try_out := fun_mk (st := s_try_out) l_try_out c_try_out k_try_out
  b_try_out := (fun_mk (st := s_try_out) l_try_out c_try_out k_try_out).binds (ps := ["stream", "keys"]) fun _ _ _ _ _ _ us hl => match us, hl with | [_, _], _ => rfl
  g_try_out := PySem.W.mg_of X G a_try_out
  F_makes_ring := fun_mk (st := s_makes_ring) l_makes_ring c_makes_ring k_makes_ring
  b_makes_ring := (fun_mk (st := s_makes_ring) l_makes_ring c_makes_ring k_makes_ring).binds (ps := ["events"]) fun _ _ _ _ _ _ us hl => match us, hl with | [_], _ => rfl
  g_makes_ring := PySem.W.mg_of X G a_makes_ring
  F_sequence_state := fun_mk (st := s_sequence_state) l_sequence_state c_sequence_state k_sequence_state
  b_sequence_state := (fun_mk (st := s_sequence_state) l_sequence_state c_sequence_state k_sequence_state).binds (ps := ["counting", "sequence"]) fun _ _ _ _ _ _ us hl => match us, hl with | [_, _], _ => rfl
  g_sequence_state := PySem.W.mg_of X G a_sequence_state
  F_next_keys := fun_mk (st := s_next_keys) l_next_keys c_next_keys k_next_keys
  b_next_keys := (fun_mk (st := s_next_keys) l_next_keys c_next_keys k_next_keys).binds (ps := ["counting", "beginning"]) fun _ _ _ _ _ _ us hl => match us, hl with | [_, _], _ => rfl
  g_next_keys := PySem.W.mg_of X G a_next_keys
  F_cut_short := fun_mk (st := s_cut_short) l_cut_short c_cut_short k_cut_short
  b_cut_short := (fun_mk (st := s_cut_short) l_cut_short c_cut_short k_cut_short).binds (ps := ["counting", "sequence"]) fun _ _ _ _ _ _ us hl => match us, hl with | [_, _], _ => rfl
  g_cut_short := PySem.W.mg_of X G a_cut_short
  F_bound_by := fun_mk (st := s_bound_by) l_bound_by c_bound_by k_bound_by
  b_bound_by := (fun_mk (st := s_bound_by) l_bound_by c_bound_by k_bound_by).binds (ps := ["counting", "key_map", "sequence"]) fun _ _ _ _ _ _ us hl => match us, hl with | [_, _, _], _ => rfl
  g_bound_by := PySem.W.mg_of X G a_bound_by
  F_hidden_sequences := fun_mk (st := s_hidden_sequences) l_hidden_sequences c_hidden_sequences k_hidden_sequences
  b_hidden_sequences := (fun_mk (st := s_hidden_sequences) l_hidden_sequences c_hidden_sequences k_hidden_sequences).binds (ps := ["maps", "in_use"]) fun _ _ _ _ _ _ us hl => match us, hl with | [_, _], _ => rfl
  g_hidden_sequences := PySem.W.mg_of X G a_hidden_sequences
  F_bound_sequences := fun_mk (st := s_bound_sequences) l_bound_sequences c_bound_sequences k_bound_sequences
  b_bound_sequences := (fun_mk (st := s_bound_sequences) l_bound_sequences c_bound_sequences k_bound_sequences).binds (ps := ["counting"]) fun _ _ _ _ _ _ us hl => match us, hl with | [_], _ => rfl
  g_bound_sequences := PySem.W.mg_of X G a_bound_sequences
  F_Board_init := fun_mk (st := s_Board_init) l_Board_init c_Board_init k_Board_init
  b_Board_init := (fun_mk (st := s_Board_init) l_Board_init c_Board_init k_Board_init).binds (ps := ["self"]) fun _ _ _ _ _ _ us hl => match us, hl with | [_], _ => rfl
  F_Board_renew_map := fun_mk (st := s_Board_renew_map) l_Board_renew_map c_Board_renew_map k_Board_renew_map
  b_Board_renew_map := (fun_mk (st := s_Board_renew_map) l_Board_renew_map c_Board_renew_map k_Board_renew_map).binds (ps := ["self", "number", "shut"]) fun _ _ _ _ _ _ us hl => match us, hl with | [_, _, _], _ => rfl
  m_Board_renew_map := ⟨a_Board_renew_map, i_Board_renew_map, k_Board_renew_map⟩
  F_Board_bind := fun_mk (st := s_Board_bind) l_Board_bind c_Board_bind k_Board_bind
  b_Board_bind := (fun_mk (st := s_Board_bind) l_Board_bind c_Board_bind k_Board_bind).binds (ps := ["self", "number", "binding"]) fun _ _ _ _ _ _ us hl => match us, hl with | [_, _, _], _ => rfl
  m_Board_bind := ⟨a_Board_bind, i_Board_bind, k_Board_bind⟩
  F_Board_unbind := fun_mk (st := s_Board_unbind) l_Board_unbind c_Board_unbind k_Board_unbind
  b_Board_unbind := (fun_mk (st := s_Board_unbind) l_Board_unbind c_Board_unbind k_Board_unbind).binds (ps := ["self", "number", "sequence"]) fun _ _ _ _ _ _ us hl => match us, hl with | [_, _, _], _ => rfl
  m_Board_unbind := ⟨a_Board_unbind, i_Board_unbind, k_Board_unbind⟩
  F_Board_use := fun_mk (st := s_Board_use) l_Board_use c_Board_use k_Board_use
  b_Board_use := (fun_mk (st := s_Board_use) l_Board_use c_Board_use k_Board_use).binds (ps := ["self", "numbers"]) fun _ _ _ _ _ _ us hl => match us, hl with | [_, _], _ => rfl
  m_Board_use := ⟨a_Board_use, i_Board_use, k_Board_use⟩
  F_Board_wait := fun_mk (st := s_Board_wait) l_Board_wait c_Board_wait k_Board_wait
  b_Board_wait := (fun_mk (st := s_Board_wait) l_Board_wait c_Board_wait k_Board_wait).binds (ps := ["self", "ticks"]) fun _ _ _ _ _ _ us hl => match us, hl with | [_, _], _ => rfl
  m_Board_wait := ⟨a_Board_wait, i_Board_wait, k_Board_wait⟩
  F_Board_press := fun_mk (st := s_Board_press) l_Board_press c_Board_press k_Board_press
  b_Board_press := (fun_mk (st := s_Board_press) l_Board_press c_Board_press k_Board_press).binds (ps := ["self", "ticks", "keys"]) fun _ _ _ _ _ _ us hl => match us, hl with | [_, _, _], _ => rfl
  m_Board_press := ⟨a_Board_press, i_Board_press, k_Board_press⟩
  F_Board_flush := fun_mk (st := s_Board_flush) l_Board_flush c_Board_flush k_Board_flush
  b_Board_flush := (fun_mk (st := s_Board_flush) l_Board_flush c_Board_flush k_Board_flush).binds (ps := ["self"]) fun _ _ _ _ _ _ us hl => match us, hl with | [_], _ => rfl
  m_Board_flush := ⟨a_Board_flush, i_Board_flush, k_Board_flush⟩
  F_Board_tell_open := fun_mk (st := s_Board_tell_open) l_Board_tell_open c_Board_tell_open k_Board_tell_open
  b_Board_tell_open := (fun_mk (st := s_Board_tell_open) l_Board_tell_open c_Board_tell_open k_Board_tell_open).binds (ps := ["self"]) fun _ _ _ _ _ _ us hl => match us, hl with | [_], _ => rfl
  m_Board_tell_open := ⟨a_Board_tell_open, i_Board_tell_open, k_Board_tell_open⟩
  F_Board_lookup := fun_mk (st := s_Board_lookup) l_Board_lookup c_Board_lookup k_Board_lookup
  b_Board_lookup := (fun_mk (st := s_Board_lookup) l_Board_lookup c_Board_lookup k_Board_lookup).binds (ps := ["self", "sequence"]) fun _ _ _ _ _ _ us hl => match us, hl with | [_, _], _ => rfl
  m_Board_lookup := ⟨a_Board_lookup, i_Board_lookup, k_Board_lookup⟩
  F_Board_hints := fun_mk (st := s_Board_hints) l_Board_hints c_Board_hints k_Board_hints
  b_Board_hints := (fun_mk (st := s_Board_hints) l_Board_hints c_Board_hints k_Board_hints).binds (ps := ["self", "keys"]) fun _ _ _ _ _ _ us hl => match us, hl with | [_, _], _ => rfl
  m_Board_hints := ⟨a_Board_hints, i_Board_hints, k_Board_hints⟩
  F_Board_hidden := fun_mk (st := s_Board_hidden) l_Board_hidden c_Board_hidden k_Board_hidden
  b_Board_hidden := (fun_mk (st := s_Board_hidden) l_Board_hidden c_Board_hidden k_Board_hidden).binds (ps := ["self"]) fun _ _ _ _ _ _ us hl => match us, hl with | [_], _ => rfl
  m_Board_hidden := ⟨a_Board_hidden, i_Board_hidden, k_Board_hidden⟩
  F_Board_would := fun_mk (st := s_Board_would) l_Board_would c_Board_would k_Board_would
  b_Board_would := (fun_mk (st := s_Board_would) l_Board_would c_Board_would k_Board_would).binds (ps := ["self", "keys"]) fun _ _ _ _ _ _ us hl => match us, hl with | [_, _], _ => rfl
  m_Board_would := ⟨a_Board_would, i_Board_would, k_Board_would⟩
  F_Board_rings := fun_mk (st := s_Board_rings) l_Board_rings c_Board_rings k_Board_rings
  b_Board_rings := (fun_mk (st := s_Board_rings) l_Board_rings c_Board_rings k_Board_rings).binds (ps := ["self"]) fun _ _ _ _ _ _ us hl => match us, hl with | [_], _ => rfl
  m_Board_rings := ⟨a_Board_rings, i_Board_rings, k_Board_rings⟩
  F_counted := fun_mk (st := s_counted) l_counted c_counted k_counted
  b_counted := (fun_mk (st := s_counted) l_counted c_counted k_counted).binds (ps := ["numbers"]) fun _ _ _ _ _ _ us hl => match us, hl with | [_], _ => rfl
  g_counted := PySem.W.mg_of X G a_counted
  F_event_answer := fun_mk (st := s_event_answer) l_event_answer c_event_answer k_event_answer
  b_event_answer := (fun_mk (st := s_event_answer) l_event_answer c_event_answer k_event_answer).binds (ps := ["events"]) fun _ _ _ _ _ _ us hl => match us, hl with | [_], _ => rfl
  g_event_answer := PySem.W.mg_of X G a_event_answer
  F_Reader_init := fun_mk (st := s_Reader_init) l_Reader_init c_Reader_init k_Reader_init
  b_Reader_init := (fun_mk (st := s_Reader_init) l_Reader_init c_Reader_init k_Reader_init).binds (ps := ["self", "numbers"]) fun _ _ _ _ _ _ us hl => match us, hl with | [_, _], _ => rfl
  F_Reader_has_more := fun_mk (st := s_Reader_has_more) l_Reader_has_more c_Reader_has_more k_Reader_has_more
  b_Reader_has_more := (fun_mk (st := s_Reader_has_more) l_Reader_has_more c_Reader_has_more k_Reader_has_more).binds (ps := ["self"]) fun _ _ _ _ _ _ us hl => match us, hl with | [_], _ => rfl
  m_Reader_has_more := ⟨a_Reader_has_more, i_Reader_has_more, k_Reader_has_more⟩
  F_Reader_take_number := fun_mk (st := s_Reader_take_number) l_Reader_take_number c_Reader_take_number k_Reader_take_number
  b_Reader_take_number := (fun_mk (st := s_Reader_take_number) l_Reader_take_number c_Reader_take_number k_Reader_take_number).binds (ps := ["self"]) fun _ _ _ _ _ _ us hl => match us, hl with | [_], _ => rfl
  m_Reader_take_number := ⟨a_Reader_take_number, i_Reader_take_number, k_Reader_take_number⟩
  F_Reader_take_row := fun_mk (st := s_Reader_take_row) l_Reader_take_row c_Reader_take_row k_Reader_take_row
  b_Reader_take_row := (fun_mk (st := s_Reader_take_row) l_Reader_take_row c_Reader_take_row k_Reader_take_row).binds (ps := ["self"]) fun _ _ _ _ _ _ us hl => match us, hl with | [_], _ => rfl
  m_Reader_take_row := ⟨a_Reader_take_row, i_Reader_take_row, k_Reader_take_row⟩
  F_call_map := fun_mk (st := s_call_map) l_call_map c_call_map k_call_map
  b_call_map := (fun_mk (st := s_call_map) l_call_map c_call_map k_call_map).binds (ps := ["board", "reader"]) fun _ _ _ _ _ _ us hl => match us, hl with | [_, _], _ => rfl
  g_call_map := PySem.W.mg_of X G a_call_map
  F_call_bind := fun_mk (st := s_call_bind) l_call_bind c_call_bind k_call_bind
  b_call_bind := (fun_mk (st := s_call_bind) l_call_bind c_call_bind k_call_bind).binds (ps := ["board", "reader"]) fun _ _ _ _ _ _ us hl => match us, hl with | [_, _], _ => rfl
  g_call_bind := PySem.W.mg_of X G a_call_bind
  F_call_unbind := fun_mk (st := s_call_unbind) l_call_unbind c_call_unbind k_call_unbind
  b_call_unbind := (fun_mk (st := s_call_unbind) l_call_unbind c_call_unbind k_call_unbind).binds (ps := ["board", "reader"]) fun _ _ _ _ _ _ us hl => match us, hl with | [_, _], _ => rfl
  g_call_unbind := PySem.W.mg_of X G a_call_unbind
  F_call_use := fun_mk (st := s_call_use) l_call_use c_call_use k_call_use
  b_call_use := (fun_mk (st := s_call_use) l_call_use c_call_use k_call_use).binds (ps := ["board", "reader"]) fun _ _ _ _ _ _ us hl => match us, hl with | [_, _], _ => rfl
  g_call_use := PySem.W.mg_of X G a_call_use
  F_call_wait := fun_mk (st := s_call_wait) l_call_wait c_call_wait k_call_wait
  b_call_wait := (fun_mk (st := s_call_wait) l_call_wait c_call_wait k_call_wait).binds (ps := ["board", "reader"]) fun _ _ _ _ _ _ us hl => match us, hl with | [_, _], _ => rfl
  g_call_wait := PySem.W.mg_of X G a_call_wait
  F_call_press := fun_mk (st := s_call_press) l_call_press c_call_press k_call_press
  b_call_press := (fun_mk (st := s_call_press) l_call_press c_call_press k_call_press).binds (ps := ["board", "reader"]) fun _ _ _ _ _ _ us hl => match us, hl with | [_, _], _ => rfl
  g_call_press := PySem.W.mg_of X G a_call_press
  F_call_flush := fun_mk (st := s_call_flush) l_call_flush c_call_flush k_call_flush
  b_call_flush := (fun_mk (st := s_call_flush) l_call_flush c_call_flush k_call_flush).binds (ps := ["board", "reader"]) fun _ _ _ _ _ _ us hl => match us, hl with | [_, _], _ => rfl
  g_call_flush := PySem.W.mg_of X G a_call_flush
  F_call_open := fun_mk (st := s_call_open) l_call_open c_call_open k_call_open
  b_call_open := (fun_mk (st := s_call_open) l_call_open c_call_open k_call_open).binds (ps := ["board", "reader"]) fun _ _ _ _ _ _ us hl => match us, hl with | [_, _], _ => rfl
  g_call_open := PySem.W.mg_of X G a_call_open
  F_call_lookup := fun_mk (st := s_call_lookup) l_call_lookup c_call_lookup k_call_lookup
  b_call_lookup := (fun_mk (st := s_call_lookup) l_call_lookup c_call_lookup k_call_lookup).binds (ps := ["board", "reader"]) fun _ _ _ _ _ _ us hl => match us, hl with | [_, _], _ => rfl
  g_call_lookup := PySem.W.mg_of X G a_call_lookup
  F_call_hints := fun_mk (st := s_call_hints) l_call_hints c_call_hints k_call_hints
  b_call_hints := (fun_mk (st := s_call_hints) l_call_hints c_call_hints k_call_hints).binds (ps := ["board", "reader"]) fun _ _ _ _ _ _ us hl => match us, hl with | [_, _], _ => rfl
  g_call_hints := PySem.W.mg_of X G a_call_hints
  F_call_hidden := fun_mk (st := s_call_hidden) l_call_hidden c_call_hidden k_call_hidden
  b_call_hidden := (fun_mk (st := s_call_hidden) l_call_hidden c_call_hidden k_call_hidden).binds (ps := ["board", "reader"]) fun _ _ _ _ _ _ us hl => match us, hl with | [_, _], _ => rfl
  g_call_hidden := PySem.W.mg_of X G a_call_hidden
  F_call_would := fun_mk (st := s_call_would) l_call_would c_call_would k_call_would
  b_call_would := (fun_mk (st := s_call_would) l_call_would c_call_would k_call_would).binds (ps := ["board", "reader"]) fun _ _ _ _ _ _ us hl => match us, hl with | [_, _], _ => rfl
  g_call_would := PySem.W.mg_of X G a_call_would
  F_call_rings := fun_mk (st := s_call_rings) l_call_rings c_call_rings k_call_rings
  b_call_rings := (fun_mk (st := s_call_rings) l_call_rings c_call_rings k_call_rings).binds (ps := ["board", "reader"]) fun _ _ _ _ _ _ us hl => match us, hl with | [_, _], _ => rfl
  g_call_rings := PySem.W.mg_of X G a_call_rings
  F_answers := fun_mk (st := s_answers) l_answers c_answers k_answers
  b_answers := (fun_mk (st := s_answers) l_answers c_answers k_answers).binds (ps := ["calls"]) fun _ _ _ _ _ _ us hl => match us, hl with | [_], _ => rfl
  g_answers := PySem.W.mg_of X G a_answers }
theorem all_mk {P : Program} {w : World} {K : PySem.W.Frag} {mg : Str → Option Value} {fa : Addr} {a : Ad} (T : Txt K mg a) (hfa : mg "answers" = some (.ref fa)) :
    ∃ fd : FuncData, (∀ (s : Shared) (us : List Value), us.length = (["calls"] : List Str).length → BindsTo s fd ⟨us, []⟩ ((["calls"] : List Str).zip us)) ∧ ∀ base : Heap, K.In base → base.Ns mainGlobals mg → FnOk P w K mg base CX0 10 fa fd ["calls"] (spAns K) := by
  have e := hfa.symm.trans T.g_answers
  cases e
  refine ⟨a.fd_answers, fun s us hu => ?_, fun base _ _ => ok_answers T⟩
  obtain ⟨oc, od, kV, doc, pm, an, cdv, ct, osl, e, _, _⟩ := T.F_answers.ex
  rw [e]
  match us, hu with
  | [_], _ => exact .of_eq rfl
end Km
open PySem PySem.W PyProof.Rows
set_option maxRecDepth 100000 in
set_option maxHeartbeats 0 in
theorem PySem.Challenge.cw_keymaps_s01_answers_holds : PySem.Challenge.rw_keymaps_s01_answers.Holds := by
  w_on; k_headS; (case hw => exact ⟨[.list [.int 6]], by decide +kernel, by decide +kernel⟩)
  k_fillS
  refine L2.walk_specK (r := PySem.Challenge.rw_keymaps_s01_answers) (k := 10) (CX := L2.CX0) (ps := ["calls"]) (sp := Km.spAns) (by decide +kernel) rfl rfl ⟨rfl, by decide, by decide⟩ (fun w h Y => PySem.W.kIn_of Y) ?F ?S (fun _ _ _ _ z => z)
  case F =>
    intro w mg fa h Y KX G hmg
    refine' Km.all_mk (Km.txt_mk KX G ?a_Binding ?a_KeyMap ?a_KeyStream ?a_Board ?a_Reader ?a_Binding_init ?i_Binding_init ?l_Binding_init ?c_Binding_init ?k_Binding_init ?a_read_binding ?l_read_binding ?c_read_binding ?k_read_binding ?a_keys_fit ?l_keys_fit ?c_keys_fit ?k_keys_fit ?a_sequence_fits ?l_sequence_fits ?c_sequence_fits ?k_sequence_fits ?a_details_fit ?l_details_fit ?c_details_fit ?k_details_fit ?a_binding_fits ?l_binding_fits ?c_binding_fits ?k_binding_fits ?a_KeyMap_init ?i_KeyMap_init ?l_KeyMap_init ?c_KeyMap_init ?k_KeyMap_init ?a_KeyMap_add_binding ?i_KeyMap_add_binding ?l_KeyMap_add_binding ?c_KeyMap_add_binding ?k_KeyMap_add_binding ?a_maps_in_use ?l_maps_in_use ?c_maps_in_use ?k_maps_in_use ?a_counting_maps ?l_counting_maps ?c_counting_maps ?k_counting_maps ?a_binding_map ?l_binding_map ?c_binding_map ?k_binding_map ?a_bound ?l_bound ?c_bound ?k_bound ?a_bound_at_once ?l_bound_at_once ?c_bound_at_once ?k_bound_at_once ?a_goes_on ?l_goes_on ?c_goes_on ?k_goes_on ?a_longest_bound ?l_longest_bound ?c_longest_bound ?k_longest_bound ?a_KeyStream_init ?i_KeyStream_init ?l_KeyStream_init ?c_KeyStream_init ?k_KeyStream_init ?a_KeyStream_put_in_use ?i_KeyStream_put_in_use ?l_KeyStream_put_in_use ?c_KeyStream_put_in_use ?k_KeyStream_put_in_use ?a_KeyStream_take_events ?i_KeyStream_take_events ?l_KeyStream_take_events ?c_KeyStream_take_events ?k_KeyStream_take_events ?a_KeyStream_press_key ?i_KeyStream_press_key ?l_KeyStream_press_key ?c_KeyStream_press_key ?k_KeyStream_press_key ?a_KeyStream_wait_long_enough ?i_KeyStream_wait_long_enough ?l_KeyStream_wait_long_enough ?c_KeyStream_wait_long_enough ?k_KeyStream_wait_long_enough ?a_KeyStream_go_through ?i_KeyStream_go_through ?l_KeyStream_go_through ?c_KeyStream_go_through ?k_KeyStream_go_through ?a_KeyStream_counting ?i_KeyStream_counting ?l_KeyStream_counting ?c_KeyStream_counting ?k_KeyStream_counting ?a_KeyStream_more_may_come ?i_KeyStream_more_may_come ?l_KeyStream_more_may_come ?c_KeyStream_more_may_come ?k_KeyStream_more_may_come ?a_KeyStream_settle ?i_KeyStream_settle ?l_KeyStream_settle ?c_KeyStream_settle ?k_KeyStream_settle ?a_KeyStream_take_as_it_is ?i_KeyStream_take_as_it_is ?l_KeyStream_take_as_it_is ?c_KeyStream_take_as_it_is ?k_KeyStream_take_as_it_is ?a_KeyStream_is_count_digit ?i_KeyStream_is_count_digit ?l_KeyStream_is_count_digit ?c_KeyStream_is_count_digit ?k_KeyStream_is_count_digit ?a_KeyStream_carry_out ?i_KeyStream_carry_out ?l_KeyStream_carry_out ?c_KeyStream_carry_out ?k_KeyStream_carry_out ?a_KeyStream_put_keys ?i_KeyStream_put_keys ?l_KeyStream_put_keys ?c_KeyStream_put_keys ?k_KeyStream_put_keys ?a_KeyStream_tell_keys ?i_KeyStream_tell_keys ?l_KeyStream_tell_keys ?c_KeyStream_tell_keys ?k_KeyStream_tell_keys ?a_KeyStream_change_maps ?i_KeyStream_change_maps ?l_KeyStream_change_maps ?c_KeyStream_change_maps ?k_KeyStream_change_maps ?a_KeyStream_tell ?i_KeyStream_tell ?l_KeyStream_tell ?c_KeyStream_tell ?k_KeyStream_tell ?a_try_out ?l_try_out ?c_try_out ?k_try_out ?a_makes_ring ?l_makes_ring ?c_makes_ring ?k_makes_ring ?a_sequence_state ?l_sequence_state ?c_sequence_state ?k_sequence_state ?a_next_keys ?l_next_keys ?c_next_keys ?k_next_keys ?a_cut_short ?l_cut_short ?c_cut_short ?k_cut_short ?a_bound_by ?l_bound_by ?c_bound_by ?k_bound_by ?a_hidden_sequences ?l_hidden_sequences ?c_hidden_sequences ?k_hidden_sequences ?a_bound_sequences ?l_bound_sequences ?c_bound_sequences ?k_bound_sequences ?a_Board_init ?i_Board_init ?l_Board_init ?c_Board_init ?k_Board_init ?a_Board_renew_map ?i_Board_renew_map ?l_Board_renew_map ?c_Board_renew_map ?k_Board_renew_map ?a_Board_bind ?i_Board_bind ?l_Board_bind ?c_Board_bind ?k_Board_bind ?a_Board_unbind ?i_Board_unbind ?l_Board_unbind ?c_Board_unbind ?k_Board_unbind ?a_Board_use ?i_Board_use ?l_Board_use ?c_Board_use ?k_Board_use ?a_Board_wait ?i_Board_wait ?l_Board_wait ?c_Board_wait ?k_Board_wait ?a_Board_press ?i_Board_press ?l_Board_press ?c_Board_press ?k_Board_press ?a_Board_flush ?i_Board_flush ?l_Board_flush ?c_Board_flush ?k_Board_flush ?a_Board_tell_open ?i_Board_tell_open ?l_Board_tell_open ?c_Board_tell_open ?k_Board_tell_open ?a_Board_lookup ?i_Board_lookup ?l_Board_lookup ?c_Board_lookup ?k_Board_lookup ?a_Board_hints ?i_Board_hints ?l_Board_hints ?c_Board_hints ?k_Board_hints ?a_Board_hidden ?i_Board_hidden ?l_Board_hidden ?c_Board_hidden ?k_Board_hidden ?a_Board_would ?i_Board_would ?l_Board_would ?c_Board_would ?k_Board_would ?a_Board_rings ?i_Board_rings ?l_Board_rings ?c_Board_rings ?k_Board_rings ?a_counted ?l_counted ?c_counted ?k_counted ?a_event_answer ?l_event_answer ?c_event_answer ?k_event_answer ?a_Reader_init ?i_Reader_init ?l_Reader_init ?c_Reader_init ?k_Reader_init ?a_Reader_has_more ?i_Reader_has_more ?l_Reader_has_more ?c_Reader_has_more ?k_Reader_has_more ?a_Reader_take_number ?i_Reader_take_number ?l_Reader_take_number ?c_Reader_take_number ?k_Reader_take_number ?a_Reader_take_row ?i_Reader_take_row ?l_Reader_take_row ?c_Reader_take_row ?k_Reader_take_row ?a_call_map ?l_call_map ?c_call_map ?k_call_map ?a_call_bind ?l_call_bind ?c_call_bind ?k_call_bind ?a_call_unbind ?l_call_unbind ?c_call_unbind ?k_call_unbind ?a_call_use ?l_call_use ?c_call_use ?k_call_use ?a_call_wait ?l_call_wait ?c_call_wait ?k_call_wait ?a_call_press ?l_call_press ?c_call_press ?k_call_press ?a_call_flush ?l_call_flush ?c_call_flush ?k_call_flush ?a_call_open ?l_call_open ?c_call_open ?k_call_open ?a_call_lookup ?l_call_lookup ?c_call_lookup ?k_call_lookup ?a_call_hints ?l_call_hints ?c_call_hints ?k_call_hints ?a_call_hidden ?l_call_hidden ?c_call_hidden ?k_call_hidden ?a_call_would ?l_call_would ?c_call_would ?k_call_would ?a_call_rings ?l_call_rings ?c_call_rings ?k_call_rings ?a_answers ?l_answers ?c_answers ?k_answers ?pg_Binding ?hd_Binding ?po_Binding ?sa_Binding ?mk_Binding ?kc_Binding ?no_Binding_at_once ?no_Binding_purpose ?no_Binding_details ?no_Binding_sequence ?pg_KeyMap ?hd_KeyMap ?po_KeyMap ?sa_KeyMap ?mk_KeyMap ?kc_KeyMap ?no_KeyMap_number ?no_KeyMap_shut ?no_KeyMap_bindings ?pg_KeyStream ?hd_KeyStream ?po_KeyStream ?sa_KeyStream ?mk_KeyStream ?kc_KeyStream ?no_KeyStream_maps ?no_KeyStream_in_use ?no_KeyStream_open_keys ?no_KeyStream_digits ?no_KeyStream_to_come ?no_KeyStream_times_put ?no_KeyStream_events ?pg_Board ?hd_Board ?po_Board ?sa_Board ?mk_Board ?kc_Board ?no_Board_maps ?no_Board_stream ?no_Board_ticks_to_wait ?pg_Reader ?hd_Reader ?po_Reader ?sa_Reader ?mk_Reader ?kc_Reader ?no_Reader_numbers ?no_Reader_place ?v_COMMAND ?v_KEYS_INSTEAD ?v_KEYS_AS_THEY_ARE ?v_PUT_MAP ?v_TAKE_MAP ?v_EXCHANGE_MAP ?v_NOTHING ?v_MAP_COUNT ?v_HIGHEST_KEY ?v_HIGHEST_COMMAND ?v_LONGEST_SEQUENCE ?v_MOST_KEYS_PUT ?v_EVENT_KEY ?v_EVENT_COMMAND ?v_EVENT_RING ?v_EVENT_MAP ?v_EVENT_NOTHING ?v_FIRST_DIGIT ?v_LAST_DIGIT ?v_MOST_DIGITS ?v_MOST_IN_USE ?v_MOST_TIMES_PUT ?v_IS_BOUND ?v_GOES_ON ?v_NOT_AS_TOLD ?v_NO_SUCH_MAP ?v_MAP_IS_FULL ?v_NO_SUCH_SEQUENCE ?v_MOST_BINDINGS ?v_MOST_TICKS ?v_MOST_KEYS_PRESSED ?v_TICKS_AT_FIRST ?a_CALLS ?l_CALLS ?z_enumerate ?z_len ?z_list ?z_max ?z_range ?z_sorted ?z_tuple) hmg
    (case a_Binding => k_is)
    (case a_KeyMap => k_is)
    (case a_KeyStream => k_is)
    (case a_Board => k_is)
    (case a_Reader => k_is)
    (case a_Binding_init => k_is)
    (case i_Binding_init => k_is)
    (case l_Binding_init => k_is)
    (case c_Binding_init => k_is)
    (case k_Binding_init => k_is)
    (case a_read_binding => k_is)
    (case l_read_binding => k_is)
    (case c_read_binding => k_is)
    (case k_read_binding => k_is)
    (case a_keys_fit => k_is)
    (case l_keys_fit => k_is)
    (case c_keys_fit => k_is)
    (case k_keys_fit => k_is)
    (case a_sequence_fits => k_is)
    (case l_sequence_fits => k_is)
    (case c_sequence_fits => k_is)
    (case k_sequence_fits => k_is)
    (case a_details_fit => k_is)
    (case l_details_fit => k_is)
    (case c_details_fit => k_is)
    (case k_details_fit => k_is)
    (case a_binding_fits => k_is)
    (case l_binding_fits => k_is)
    (case c_binding_fits => k_is)
    (case k_binding_fits => k_is)
    (case a_KeyMap_init => k_is)
    (case i_KeyMap_init => k_is)
    (case l_KeyMap_init => k_is)
    (case c_KeyMap_init => k_is)
    (case k_KeyMap_init => k_is)
    (case a_KeyMap_add_binding => k_is)
    (case i_KeyMap_add_binding => k_is)
    (case l_KeyMap_add_binding => k_is)
    (case c_KeyMap_add_binding => k_is)
    (case k_KeyMap_add_binding => k_is)
    (case a_maps_in_use => k_is)
    (case l_maps_in_use => k_is)
    (case c_maps_in_use => k_is)
    (case k_maps_in_use => k_is)
    (case a_counting_maps => k_is)
    (case l_counting_maps => k_is)
    (case c_counting_maps => k_is)
    (case k_counting_maps => k_is)
    (case a_binding_map => k_is)
    (case l_binding_map => k_is)
    (case c_binding_map => k_is)
    (case k_binding_map => k_is)
    (case a_bound => k_is)
    (case l_bound => k_is)
    (case c_bound => k_is)
    (case k_bound => k_is)
    (case a_bound_at_once => k_is)
    (case l_bound_at_once => k_is)
    (case c_bound_at_once => k_is)
    (case k_bound_at_once => k_is)
    (case a_goes_on => k_is)
    (case l_goes_on => k_is)
    (case c_goes_on => k_is)
    (case k_goes_on => k_is)
    (case a_longest_bound => k_is)
    (case l_longest_bound => k_is)
    (case c_longest_bound => k_is)
    (case k_longest_bound => k_is)
    (case a_KeyStream_init => k_is)
    (case i_KeyStream_init => k_is)
    (case l_KeyStream_init => k_is)
    (case c_KeyStream_init => k_is)
    (case k_KeyStream_init => k_is)
    (case a_KeyStream_put_in_use => k_is)
    (case i_KeyStream_put_in_use => k_is)
    (case l_KeyStream_put_in_use => k_is)
    (case c_KeyStream_put_in_use => k_is)
    (case k_KeyStream_put_in_use => k_is)
    (case a_KeyStream_take_events => k_is)
    (case i_KeyStream_take_events => k_is)
    (case l_KeyStream_take_events => k_is)
    (case c_KeyStream_take_events => k_is)
    (case k_KeyStream_take_events => k_is)
    (case a_KeyStream_press_key => k_is)
    (case i_KeyStream_press_key => k_is)
    (case l_KeyStream_press_key => k_is)
    (case c_KeyStream_press_key => k_is)
    (case k_KeyStream_press_key => k_is)
    (case a_KeyStream_wait_long_enough => k_is)
    (case i_KeyStream_wait_long_enough => k_is)
    (case l_KeyStream_wait_long_enough => k_is)
    (case c_KeyStream_wait_long_enough => k_is)
    (case k_KeyStream_wait_long_enough => k_is)
    (case a_KeyStream_go_through => k_is)
    (case i_KeyStream_go_through => k_is)
    (case l_KeyStream_go_through => k_is)
    (case c_KeyStream_go_through => k_is)
    (case k_KeyStream_go_through => k_is)
    (case a_KeyStream_counting => k_is)
    (case i_KeyStream_counting => k_is)
    (case l_KeyStream_counting => k_is)
    (case c_KeyStream_counting => k_is)
    (case k_KeyStream_counting => k_is)
    (case a_KeyStream_more_may_come => k_is)
    (case i_KeyStream_more_may_come => k_is)
    (case l_KeyStream_more_may_come => k_is)
    (case c_KeyStream_more_may_come => k_is)
    (case k_KeyStream_more_may_come => k_is)
    (case a_KeyStream_settle => k_is)
    (case i_KeyStream_settle => k_is)
    (case l_KeyStream_settle => k_is)
    (case c_KeyStream_settle => k_is)
    (case k_KeyStream_settle => k_is)
    (case a_KeyStream_take_as_it_is => k_is)
    (case i_KeyStream_take_as_it_is => k_is)
    (case l_KeyStream_take_as_it_is => k_is)
    (case c_KeyStream_take_as_it_is => k_is)
    (case k_KeyStream_take_as_it_is => k_is)
    (case a_KeyStream_is_count_digit => k_is)
    (case i_KeyStream_is_count_digit => k_is)
    (case l_KeyStream_is_count_digit => k_is)
    (case c_KeyStream_is_count_digit => k_is)
    (case k_KeyStream_is_count_digit => k_is)
    (case a_KeyStream_carry_out => k_is)
    (case i_KeyStream_carry_out => k_is)
    (case l_KeyStream_carry_out => k_is)
    (case c_KeyStream_carry_out => k_is)
    (case k_KeyStream_carry_out => k_is)
    (case a_KeyStream_put_keys => k_is)
    (case i_KeyStream_put_keys => k_is)
    (case l_KeyStream_put_keys => k_is)
    (case c_KeyStream_put_keys => k_is)
    (case k_KeyStream_put_keys => k_is)
    (case a_KeyStream_tell_keys => k_is)
    (case i_KeyStream_tell_keys => k_is)
    (case l_KeyStream_tell_keys => k_is)
    (case c_KeyStream_tell_keys => k_is)
    (case k_KeyStream_tell_keys => k_is)
    (case a_KeyStream_change_maps => k_is)
    (case i_KeyStream_change_maps => k_is)
    (case l_KeyStream_change_maps => k_is)
    (case c_KeyStream_change_maps => k_is)
    (case k_KeyStream_change_maps => k_is)
    (case a_KeyStream_tell => k_is)
    (case i_KeyStream_tell => k_is)
    (case l_KeyStream_tell => k_is)
    (case c_KeyStream_tell => k_is)
    (case k_KeyStream_tell => k_is)
    (case a_try_out => k_is)
    (case l_try_out => k_is)
    (case c_try_out => k_is)
    (case k_try_out => k_is)
    (case a_makes_ring => k_is)
    (case l_makes_ring => k_is)
    (case c_makes_ring => k_is)
    (case k_makes_ring => k_is)
    (case a_sequence_state => k_is)
    (case l_sequence_state => k_is)
    (case c_sequence_state => k_is)
    (case k_sequence_state => k_is)
    (case a_next_keys => k_is)
    (case l_next_keys => k_is)
    (case c_next_keys => k_is)
    (case k_next_keys => k_is)
    (case a_cut_short => k_is)
    (case l_cut_short => k_is)
    (case c_cut_short => k_is)
    (case k_cut_short => k_is)
    (case a_bound_by => k_is)
    (case l_bound_by => k_is)
    (case c_bound_by => k_is)
    (case k_bound_by => k_is)
    (case a_hidden_sequences => k_is)
    (case l_hidden_sequences => k_is)
    (case c_hidden_sequences => k_is)
    (case k_hidden_sequences => k_is)
    (case a_bound_sequences => k_is)
    (case l_bound_sequences => k_is)
    (case c_bound_sequences => k_is)
    (case k_bound_sequences => k_is)
    (case a_Board_init => k_is)
    (case i_Board_init => k_is)
    (case l_Board_init => k_is)
    (case c_Board_init => k_is)
    (case k_Board_init => k_is)
    (case a_Board_renew_map => k_is)
    (case i_Board_renew_map => k_is)
    (case l_Board_renew_map => k_is)
    (case c_Board_renew_map => k_is)
    (case k_Board_renew_map => k_is)
    (case a_Board_bind => k_is)
    (case i_Board_bind => k_is)
    (case l_Board_bind => k_is)
    (case c_Board_bind => k_is)
    (case k_Board_bind => k_is)
    (case a_Board_unbind => k_is)
    (case i_Board_unbind => k_is)
    (case l_Board_unbind => k_is)
    (case c_Board_unbind => k_is)
    (case k_Board_unbind => k_is)
    (case a_Board_use => k_is)
    (case i_Board_use => k_is)
    (case l_Board_use => k_is)
    (case c_Board_use => k_is)
    (case k_Board_use => k_is)
    (case a_Board_wait => k_is)
    (case i_Board_wait => k_is)
    (case l_Board_wait => k_is)
    (case c_Board_wait => k_is)
    (case k_Board_wait => k_is)
    (case a_Board_press => k_is)
    (case i_Board_press => k_is)
    (case l_Board_press => k_is)
    (case c_Board_press => k_is)
    (case k_Board_press => k_is)
    (case a_Board_flush => k_is)
    (case i_Board_flush => k_is)
    (case l_Board_flush => k_is)
    (case c_Board_flush => k_is)
    (case k_Board_flush => k_is)
    (case a_Board_tell_open => k_is)
    (case i_Board_tell_open => k_is)
    (case l_Board_tell_open => k_is)
    (case c_Board_tell_open => k_is)
    (case k_Board_tell_open => k_is)
    (case a_Board_lookup => k_is)
    (case i_Board_lookup => k_is)
    (case l_Board_lookup => k_is)
    (case c_Board_lookup => k_is)
    (case k_Board_lookup => k_is)
    (case a_Board_hints => k_is)
    (case i_Board_hints => k_is)
    (case l_Board_hints => k_is)
    (case c_Board_hints => k_is)
    (case k_Board_hints => k_is)
    (case a_Board_hidden => k_is)
    (case i_Board_hidden => k_is)
    (case l_Board_hidden => k_is)
    (case c_Board_hidden => k_is)
    (case k_Board_hidden => k_is)
    (case a_Board_would => k_is)
    (case i_Board_would => k_is)
    (case l_Board_would => k_is)
    (case c_Board_would => k_is)
    (case k_Board_would => k_is)
    (case a_Board_rings => k_is)
    (case i_Board_rings => k_is)
    (case l_Board_rings => k_is)
    (case c_Board_rings => k_is)
    (case k_Board_rings => k_is)
    (case a_counted => k_is)
    (case l_counted => k_is)
    (case c_counted => k_is)
    (case k_counted => k_is)
    (case a_event_answer => k_is)
    (case l_event_answer => k_is)
    (case c_event_answer => k_is)
    (case k_event_answer => k_is)
    (case a_Reader_init => k_is)
    (case i_Reader_init => k_is)
    (case l_Reader_init => k_is)
    (case c_Reader_init => k_is)
    (case k_Reader_init => k_is)
    (case a_Reader_has_more => k_is)
    (case i_Reader_has_more => k_is)
    (case l_Reader_has_more => k_is)
    (case c_Reader_has_more => k_is)
    (case k_Reader_has_more => k_is)
    (case a_Reader_take_number => k_is)
    (case i_Reader_take_number => k_is)
    (case l_Reader_take_number => k_is)
    (case c_Reader_take_number => k_is)
    (case k_Reader_take_number => k_is)
    (case a_Reader_take_row => k_is)
    (case i_Reader_take_row => k_is)
    (case l_Reader_take_row => k_is)
    (case c_Reader_take_row => k_is)
    (case k_Reader_take_row => k_is)
    (case a_call_map => k_is)
    (case l_call_map => k_is)
    (case c_call_map => k_is)
    (case k_call_map => k_is)
    (case a_call_bind => k_is)
    (case l_call_bind => k_is)
    (case c_call_bind => k_is)
    (case k_call_bind => k_is)
    (case a_call_unbind => k_is)
    (case l_call_unbind => k_is)
    (case c_call_unbind => k_is)
    (case k_call_unbind => k_is)
    (case a_call_use => k_is)
    (case l_call_use => k_is)
    (case c_call_use => k_is)
    (case k_call_use => k_is)
    (case a_call_wait => k_is)
    (case l_call_wait => k_is)
    (case c_call_wait => k_is)
    (case k_call_wait => k_is)
    (case a_call_press => k_is)
    (case l_call_press => k_is)
    (case c_call_press => k_is)
    (case k_call_press => k_is)
    (case a_call_flush => k_is)
    (case l_call_flush => k_is)
    (case c_call_flush => k_is)
    (case k_call_flush => k_is)
    (case a_call_open => k_is)
    (case l_call_open => k_is)
    (case c_call_open => k_is)
    (case k_call_open => k_is)
    (case a_call_lookup => k_is)
    (case l_call_lookup => k_is)
    (case c_call_lookup => k_is)
    (case k_call_lookup => k_is)
    (case a_call_hints => k_is)
    (case l_call_hints => k_is)
    (case c_call_hints => k_is)
    (case k_call_hints => k_is)
    (case a_call_hidden => k_is)
    (case l_call_hidden => k_is)
    (case c_call_hidden => k_is)
    (case k_call_hidden => k_is)
    (case a_call_would => k_is)
    (case l_call_would => k_is)
    (case c_call_would => k_is)
    (case k_call_would => k_is)
    (case a_call_rings => k_is)
    (case l_call_rings => k_is)
    (case c_call_rings => k_is)
    (case k_call_rings => k_is)
    (case a_answers => k_is)
    (case l_answers => k_is)
    (case c_answers => k_is)
    (case k_answers => k_is)
    (case pg_Binding => k_is)
    (case hd_Binding => k_is)
    (case po_Binding => k_is)
    (case sa_Binding => k_is)
    (case mk_Binding => k_is)
    (case kc_Binding => k_is)
    (case no_Binding_at_once => k_is)
    (case no_Binding_purpose => k_is)
    (case no_Binding_details => k_is)
    (case no_Binding_sequence => k_is)
    (case pg_KeyMap => k_is)
    (case hd_KeyMap => k_is)
    (case po_KeyMap => k_is)
    (case sa_KeyMap => k_is)
    (case mk_KeyMap => k_is)
    (case kc_KeyMap => k_is)
    (case no_KeyMap_number => k_is)
    (case no_KeyMap_shut => k_is)
    (case no_KeyMap_bindings => k_is)
    (case pg_KeyStream => k_is)
    (case hd_KeyStream => k_is)
    (case po_KeyStream => k_is)
    (case sa_KeyStream => k_is)
    (case mk_KeyStream => k_is)
    (case kc_KeyStream => k_is)
    (case no_KeyStream_maps => k_is)
    (case no_KeyStream_in_use => k_is)
    (case no_KeyStream_open_keys => k_is)
    (case no_KeyStream_digits => k_is)
    (case no_KeyStream_to_come => k_is)
    (case no_KeyStream_times_put => k_is)
    (case no_KeyStream_events => k_is)
    (case pg_Board => k_is)
    (case hd_Board => k_is)
    (case po_Board => k_is)
    (case sa_Board => k_is)
    (case mk_Board => k_is)
    (case kc_Board => k_is)
    (case no_Board_maps => k_is)
    (case no_Board_stream => k_is)
    (case no_Board_ticks_to_wait => k_is)
    (case pg_Reader => k_is)
    (case hd_Reader => k_is)
    (case po_Reader => k_is)
    (case sa_Reader => k_is)
    (case mk_Reader => k_is)
    (case kc_Reader => k_is)
    (case no_Reader_numbers => k_is)
    (case no_Reader_place => k_is)
    (case v_COMMAND => k_is)
    (case v_KEYS_INSTEAD => k_is)
    (case v_KEYS_AS_THEY_ARE => k_is)
    (case v_PUT_MAP => k_is)
    (case v_TAKE_MAP => k_is)
    (case v_EXCHANGE_MAP => k_is)
    (case v_NOTHING => k_is)
    (case v_MAP_COUNT => k_is)
    (case v_HIGHEST_KEY => k_is)
    (case v_HIGHEST_COMMAND => k_is)
    (case v_LONGEST_SEQUENCE => k_is)
    (case v_MOST_KEYS_PUT => k_is)
    (case v_EVENT_KEY => k_is)
    (case v_EVENT_COMMAND => k_is)
    (case v_EVENT_RING => k_is)
    (case v_EVENT_MAP => k_is)
    (case v_EVENT_NOTHING => k_is)
    (case v_FIRST_DIGIT => k_is)
    (case v_LAST_DIGIT => k_is)
    (case v_MOST_DIGITS => k_is)
    (case v_MOST_IN_USE => k_is)
    (case v_MOST_TIMES_PUT => k_is)
    (case v_IS_BOUND => k_is)
    (case v_GOES_ON => k_is)
    (case v_NOT_AS_TOLD => k_is)
    (case v_NO_SUCH_MAP => k_is)
    (case v_MAP_IS_FULL => k_is)
    (case v_NO_SUCH_SEQUENCE => k_is)
    (case v_MOST_BINDINGS => k_is)
    (case v_MOST_TICKS => k_is)
    (case v_MOST_KEYS_PRESSED => k_is)
    (case v_TICKS_AT_FIRST => k_is)
    (case a_CALLS => k_is)
    (case l_CALLS => k_is)
    (case z_enumerate => k_is)
    (case z_len => k_is)
    (case z_list => k_is)
    (case z_max => k_is)
    (case z_range => k_is)
    (case z_sorted => k_is)
    (case z_tuple => k_is)
  case S => exact Km.spAns_of
#print axioms PySem.Challenge.cw_keymaps_s01_answers_holds
